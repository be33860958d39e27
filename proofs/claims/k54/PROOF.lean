import PyProof.Rows.All
import Wide.All
import OpenK.AllK
import Wide.FinOn
import Lean
import PyProof.EqAt
import PyProof.EqKinds
import PyProof.TupleCall
import PyProof.NeKinds
import PyProof.WalksEnum
import PyProof.EnumMake
import PySem.Challenge.RW_fewcounters_k54_stretches_refused
import PyProof.SumWalkG
import PyProof.SeqI3
import KE.KTryMore
import PyProof.NsDelKeeps
import PyProof.Rows.TupIter
import KE.KRevIter
import PyProof.ListRange
set_option Elab.async false
set_option linter.all false
set_option maxRecDepth 100000
set_option maxHeartbeats 4000000
abbrev HZ:=PySem.Str->Option PySem.Value
abbrev Ia:=List (PySem.Addr×PySem.Obj)
abbrev Ib:=List Int
abbrev Ic:=List PySem.Str
abbrev Ie:=Option PySem.Value
abbrev Ig:=List PySem.Addr
abbrev Ih:=List PySem.Value
abbrev Ii:=List PySem.Expr
abbrev Ij:=List (Int×Int)
open Array renaming length_toList→Ik
open Bool renaming false_ne_true→Il,and_eq_true_iff→Im,and_eq_true→Io,eq_iff_iff→Ip,beq_eq_decide_eq→Iq,false_eq_true→Ir,eq_false_iff→Iu,noConfusion→Iv
open Classical renaming byContradiction→Iw
open False renaming elim→Iy
open ForInStep renaming yield→Iz
open Int renaming le_trans→IA,emod_lt_of_pos→IB,le_refl→ID,emod_nonneg→IE
open List renaming getElem?_eq_getElem→IF,getElem?_eq_some_iff→IG,mem_singleton→II,getD_eq_getElem?_getD→IJ,mem_cons_of_mem→IK,length_append→IL,length_map→IM,mem_of_getElem?→IQ,mem_append→IS,mem_cons_self→IT,mem_append_right→IU,mem_append_left→IX,mem_cons→IY,mem_filter→IZ,length_cons→I0,mem_iff_getElem?→Ja,getElem_mem→Jb,size_toArray→Jc,replicate→Jd,getElem?_map→Je,mem_map→Jf,getElem?_append_right→Jg,nodup_cons→Jh,getElem?_set_self→Ji,append_nil→Jj,getElem?_set_ne→Jk,Nodup→Jl,length_take→Jm,getElem?_append_left→Jn,length_singleton→Jo,length_set→Jp,map_append→Jq,filter_eq_self→Jr,map_cons→Js,length_filter_le→Jt,getElem?_eq_none→Ju,append_assoc→Jv,filterMap_cons→Jw,map_congr_left→Jx,not_mem_nil→Jy,take_length→Jz,mem_flatMap→JA,length_replicate→JB,replicate_succ→JC,take_succ→JD,getElem?_replicate→JE,drop_eq_getElem_cons→JF,mem_range→JG,range→JH,getElem_inj→JI,lookup_cons→JJ,all_eq_true→JK,length_eq_zero_iff→JL,mem_iff_getElem→JM,mem_or_eq_of_mem_set→JN,map_map→JO,ext_getElem?→JP,flatMap_append→JQ,find?_cons→JR,eraseIdxIfInBounds_toArray→JS,any_eq_true→JT,filter_cons_of_pos→JU,filter_cons_of_neg→JV,sum_cons→JW,reverse_cons→JX,flatMap_cons→JY,getElem?_range→JZ,cons_append→J0,filter_cons→J1,idxOf_lt_length_of_mem→J2,mem_replicate→J3,flatten_cons→J4,take_succ_cons→J5,length_drop→J6,drop_length→J7,nodup_nil→J8,mem_filterMap→J9,filter_append→Ka,take_of_length_le→Kb,length_pos_of_mem→Kc,length_nil→Kd,sum_append→Ke,idxOf_cons→Kf,any_cons→Kg,take_append_drop→Kh,nodup_append→Ki,filter_congr→Kj,append_inj'→Kk,length_pos_iff→Kl,filter_nil→Km,ne_nil_of_mem→Kn
open Nat renaming lt_of_le_of_lt→Ko,le_refl→Kp,le_trans→Kq,lt_of_lt_of_le→Kr,add_le_add_left→Ks,ne_of_lt→Kt,lt_irrefl→Ku,le_succ→Kv,lt_or_ge→Kw,lt_succ_self→Kx,zero_le→Ky,sub_self→Kz,not_lt→KA,le_of_lt→KC,ne_of_gt→KD
open Ne renaming symm→KG
open Option renaming some_ne_none→KH,map_some→KI,isSome_map→KJ
open Prod renaming snd→KL,fst→KN
open Prod.mk renaming injEq→KO
open PyProof.Rows renaming envOfC→KP,boot_list→KQ,boot_isinstance→KR,callWith_type1→KS,slot_tuple_getitem→KU,AllBare→KW,boot_tuple→KY,IntsAre→KZ,subscriptTail→K0
open PySem renaming starEach→K2,Shared→K3,sizeLine→K4,mainGlobals→K5,wpAny_bind→K6,Program→K7,wpAny_pure→K8,swapsWith→K9,Around→La,backTo→Lb,foldedSetIterable→Lc,FuncData→Ld,wpAny_truthy_bool→Le,wpAny_mono→Lf,assignEach→Lg,mem_of_lookup→Lh,attributeBase→Li,compareOp→Lj,holding→Lk,Keyword→Ll,wpAny_execs_cons→Lm,wpAny_holding→Ln,bootBuiltins→Lo,assign→Lp,keywordEach→Lq,behindInMarks→Lr,swapsWithSole→Ls,swappedStores→Lu,sysModules→Lv,wpAny_Call_Name_kw→Lw,wpAny_execs_nil→Lx,wpAny_passesOwn→Ly,call_meets→Lz,tupleKind_room_in1→LA,binaryOp→LD,NameKind→LF,backToKw→LH,wpAny_newObj_type→LI,boot_len→LJ,isTrue→LK,standAt→LL,sliceBounds→LM,codeAny_mono→LN,wpAny_pyIter_list→LP,wpAny_eqBool_int→LQ,setItem→LR,getItem→LS,PassesOwn→LU,letOwnedTupleGo→LV,seqIndex_of→LX,tupleKind→LZ,wpAny_standAt→L3,wpAny_call→L4,release→L5,valueAt→L6,callerA→L7,IsPart→L8,sizeLine_eq→L9,subscripted→Ma,truthy→Mb,wpAny_Expr_any→Mc,BindsTo→Md,codeAny→Me,fitsIndex_both→Mf,Operator→Mg,intBits_le_64→Mh,Str→Mi
open PySem.Builtin.List renaming listTooLong→Mj
open PySem.Builtin.Slice renaming slicePlaces→Mk,sliceAdjust→Ml
open PySem.Builtin.Tuple renaming tupleExact→Mm
open PySem.Calls renaming spliced_cons→Mn,callWith_builtin→Mo,evalArgs_plain→Mp,spliced_nil→Mq
open PySem.F renaming plainAttrs_list→Mr,slot_list_append→Ms,type_list_append→Mt,slot_list_index→Mu,slot_dict_get→Mv
open PySem.Heap renaming lt_size→Mw,get?_push_of_some→Mx,get?_push_size→My,SameBut→Mz
open PySem.NameKind renaming cell→MA
open PySem.Obj renaming mapSeq→MB
open PySem.PassesOwn renaming never→MC
open PySem.SeqAt renaming EqAt→MD,RcAt→ME,RcNeAt→MF
open PySem.SeqAt.EqAt renaming of_refs→MG,same→MH
open PySem.Value renaming ref→MI,builtin→MJ,int→ML,str→MM,none→MN,bool→MO
open PySem.W renaming Frag→MP,nsIn→MQ,mg_of→MS,mg_none_of→MT,kia_one→MU,hideAll→MV,hideAll_none→MW,kitOne→MX,fnOf→MY,keepIn→MZ,hideAll_get→M0,of_hideAll→M3,callWith_K→M4,findIn→M5,codeIn→M6,exmOne→M7,kitAny→M8,kitOne→M9,methodObj→Na,instObj→Nb,OpenLaw→Nc,lookIn→Nd,excIn→Nf
open True renaming intro→Ng
open List(map_nil set_set take_zero of_mem_zip all_cons any_map mem_reverse getElem?_set map_id map_id' map_flatMap flatMap_nil)
abbrev Nr(x:Mi):Prop:=(x==("__debug__":Mi))=false
abbrev NA(x:Mi):Prop:=(x==("__classdict__":Mi))=false
def NC:Lean.Syntax:=Lean.Unhygienic.run `(Lean.Parser.Tactic.tacticSeq|first | exact Or.inl rfl | exact Or.inr (Or.inl rfl) | exact Or.inr (Or.inr rfl))
def Oe:Lean.Syntax:=Lean.Unhygienic.run `(Lean.Parser.Tactic.tacticSeq|first | exact Or.inl rfl | exact Or.inr rfl)
def Od:Lean.Syntax:=Lean.Unhygienic.run `(Lean.Parser.Tactic.tacticSeq|first | exact .inl rfl | exact .inr rfl)
namespace L2
open PySem PySem.Spec PyProof.Rows
section
variable {a b:Addr}
abbrev Key:=Sum Int Str
def lJ:Key->Value->Bool
 | .inl k,v=>Value.isInt k v
 | .inr x,v=>Value.isStrOf x v
def Hs (w:World):Key->Int
 | .inl k=>hashInt k
 | .inr x=>hashStr w x
theorem dt:∀{k:Key} {v:Value},lJ k v=true->(∃i t,k=Sum.inl i/\v=ML i t)∨(∃x t,k=Sum.inr x/\v=MM x t)
 | .inl i,v,h=>by
   obtain⟨t,e⟩:=Value.isInt_shape (k:=i) (v:=v) h
   exact .inl ⟨i,t,rfl,e⟩
 | .inr x,v,h=>by
   obtain⟨t,e⟩:=Value.isStrOf_shape (x:=x) (v:=v) h
   exact .inr ⟨x,t,rfl,e⟩
theorem xO (i:Int)(t:Tok):lJ (.inl i) (.int i t)=true:=by simp[lJ,Value.isInt]
theorem xP (x:Str)(t:Tok):lJ (.inr x) (.str x t)=true:=by simp[lJ,Value.isStrOf]
theorem Bn (a b:Int):decide ((Sum.inl a:Key)=Sum.inl b)=(a==b):=by
 by_cases e:a=b
 ·subst e;simp
 ·have h:¬(Sum.inl a:Key)=Sum.inl b:=λq=>e (Sum.inl.inj q)
  rw[decide_eq_false h]
  exact(beq_eq_false_iff_ne.mpr e).symm
theorem BU (a b:Str):decide ((Sum.inr a:Key)=Sum.inr b)=decide (a=b):=by
 by_cases e:a=b
 ·subst e;simp
 ·have h:¬(Sum.inr a:Key)=Sum.inr b:=λq=>e (Sum.inr.inj q)
  rw[decide_eq_false h,decide_eq_false e]
theorem Eg (a:Int)(b:Str):decide ((Sum.inl a:Key)=Sum.inr b)=false:=decide_eq_false (λq=>nomatch q)
theorem Ep (a:Str)(b:Int):decide ((Sum.inr a:Key)=Sum.inl b)=false:=decide_eq_false (λq=>nomatch q)
def cU (prog:K7)(w:World):PySem.KeyKind prog w Key where
 is:=lJ
 hash:=Hs w
 inj:=λv a b ha hb=>by
  rcases dt ha with⟨i,t,rfl,rfl⟩ | ⟨x,t,rfl,rfl⟩
  ·rcases dt hb with⟨j,u,rfl,e⟩ | ⟨y,u,rfl,e⟩
   ·injection e with e1 _;rw[e1]
   ·exact nomatch e
  ·rcases dt hb with⟨j,u,rfl,e⟩ | ⟨y,u,rfl,e⟩
   ·exact nomatch e
   ·injection e with e1 _;rw[e1]
 byValue:=λk v h=>by
  rcases dt h with⟨i,t,rfl,rfl⟩ | ⟨x,t,rfl,rfl⟩<;>rfl
 pyHash:=λhv h=>by
  rcases dt hv with⟨i,t,rfl,rfl⟩ | ⟨x,t,rfl,rfl⟩
  ·exact wpAny_pyHash_int h
  ·exact wpAny_pyHash_str h
 eqBool:=λhu hv h=>by
  rcases dt hu with⟨i,t,rfl,rfl⟩ | ⟨x,t,rfl,rfl⟩
  ·rcases dt hv with⟨j,u,rfl,rfl⟩ | ⟨y,u,rfl,rfl⟩
   ·rw[Bn] at h;exact LQ h
   ·rw[Eg] at h;exact MD.int_str i t y u _ _ _ _ h
  ·rcases dt hv with⟨j,u,rfl,rfl⟩ | ⟨y,u,rfl,rfl⟩
   ·rw[Ep] at h;exact MD.str_int x t j u _ _ _ _ h
   ·rw[BU] at h;exact wpAny_eqBool_str h
 «strs»:=λk x t v h=>by
  rcases dt h with⟨i,u,rfl,e⟩ | ⟨y,u,rfl,e⟩
  ·exact nomatch e
  ·injection e with e1 _
   subst e1
   cases v<;>rfl
theorem r9 (prog:K7)(w:World)(i:Int)(t:Tok):(cU prog w).is (.inl i) (.int i t)=true:=xO i t
theorem r8 (prog:K7)(w:World)(x:Str)(t:Tok):(cU prog w).is (.inr x) (.str x t)=true:=xP x t
inductive V where
 | Nu | bl (b:Bool) | int (i:Int) | str (x:Str) | Py (b:Array UInt8) | Sh (b:UInt64) | ref (a:Addr) | ty (n:String)
 deriving DecidableEq
def RelV:V->Value->Prop
 | .Nu,u=>u=MN
 | .bl b,u=>u=MO b
 | .int i,u=>∃t,u=ML i t
 | .str x,u=>∃t,u=MM x t
 | .Py b,u=>∃t,u=Value.bytes b t
 | .Sh b,u=>∃t,u=Value.float b t
 | .ref a,u=>u=MI a
 | .ty n,u=>u=Value.type n
abbrev Vals:List V->Ih->Prop:=Paired RelV
theorem Vals.length {xs:List V}{us:Ih}(r:Vals xs us):xs.length=us.length:=Paired.length r
theorem Vals.get:∀{xs:List V} {us:Ih} {i:Nat} {x:V},Vals xs us->xs[i]?=some x->∃u,us[i]?=some u/\RelV x u
 | _,_,_,_,.nil,e=>by simp at e
 | _,_,0,_,.cons r _,e=>by simp at e;subst e;exact⟨_,rfl,r⟩
 | _,_,i + 1,x,.cons _ t,e=>by
   obtain⟨u,h1,h2⟩:=Vals.get (i:=i) (x:=x) t (by simpa using e)
   exact⟨u,by simpa using h1,h2⟩
theorem Vals.set {x:V}{u:Value}(r:RelV x u):∀{xs:List V} {us:Ih} (i:Nat),Vals xs us->Vals (xs.set i x) (us.set i u)
 | _,_,_,.nil=>.nil
 | _,_,0,.cons _ t=>.cons r t
 | _,_,i + 1,.cons q t=>.cons q (Vals.set r i t)
theorem Vals.append:∀{xs ys:List V} {us ws:Ih},Vals xs us->Vals ys ws->Vals (xs++ys) (us++ws)
 | _,_,_,_,.nil,s=>s
 | _,_,_,_,.cons r t,s=>.cons r (Vals.append t s)
theorem Vals.take:∀{xs:List V} {us:Ih} (n:Nat),Vals xs us->Vals (xs.take n) (us.take n)
 | _,_,0,_=>.nil
 | _,_,_ + 1,.nil=>.nil
 | _,_,n + 1,.cons r t=>.cons r (Vals.take n t)
theorem Vals.drop:∀{xs:List V} {us:Ih} (n:Nat),Vals xs us->Vals (xs.drop n) (us.drop n)
 | _,_,0,r=>r
 | _,_,_ + 1,.nil=>.nil
 | _,_,n + 1,.cons _ t=>Vals.drop n t
def hU:Option V->Ie->Prop
 | some v,some u=>RelV v u
 | none,none=>True
 | _,_=>False
def KV {κ:Type}:List (κ×V)->List (κ×Value)->Prop:=Paired λ(p:κ×V) (q:κ×Value)=>p.1=q.1/\RelV p.2 q.2
def kV:Key->V
 | .inl i=>.int i
 | .inr x=>.str x
inductive HO where
 | lst (xs:List V)
 | tup (xs:List V)
 | dK (kvs:List (Key×V)) | dT (kvs:List (List Key×V))
 | set (S:Int->Bool) (n:Nat)
 | ins (C dx:Addr) (fs:List (Str×V))
 | own (x:Addr)
 | xd (fs:List (Str×V))
 | met (f x:Addr)
 | OM (lo hi:Int)
 | N6 (o:Obj) (u:HO)
 | QN (ps:Array Value)
 | ext (φ:Heap->Prop)
abbrev Hp:=Addr->Option HO
def upd (H:Hp)(a:Addr)(o:HO):Hp:=λb=>if b=a then some o else H b
theorem aA {H:Hp}{o:HO}:upd H a o a=some o:=by unfold upd;rw[if_pos rfl]
theorem aM {H:Hp}{o:HO}(h:b≠a):upd H a o b=H b:=by unfold upd;rw[if_neg h]
theorem AJ {H:Hp}{o u:HO}:upd (upd H a o) a u=upd H a u:=by
 funext b;unfold upd;split<;>rfl
theorem Fw {H:Hp}{o u:HO}(h:H a=some o)(h':H b=some u)(d:o≠u):a≠b:=by
 intro e;subst e;rw[h] at h';exact d (Option.some.inj h')
theorem cZ {H:Hp}{o:HO}(h:H a=some o)(h':H b=none):a≠b:=by
 intro e;subst e;rw[h] at h';cases h'
end
section
variable (P:K7)(w:World)
def cj (H:Hp)(h:Heap)(a:Addr):HO->Prop
 | .lst xs=>xs.length<=K4/\∃(Nj:Ih) (n:Nat),Vals xs Nj/\h.get? a=some {cls:=.type "list",data:=.seq Nj.toArray n}
 | .tup xs=>xs.length<=K4/\∃Nj:Ih,Vals xs Nj/\IsTup h a Nj.toArray
 | .dK kvs=>kvs.length<=K4/\(a==Lv)=false/\∃vs,KV kvs vs/\h.DictOf (cU P w) a vs
 | .dT kvs=>kvs.length<=K4/\(a==Lv)=false/\∃xs:List (List Key×Addr×Value),
  Paired (λ(p:List Key×V) (q:List Key×Addr×Value)=>p.1=q.1/\H q.2.1=some (.tup (p.1.map kV))/\RelV p.2 q.2.2) kvs xs/\
  ∃o es ep,h.get? a=some o/\o.ExactDict/\o.data= .dict es ep/\es.toList=xs.map (entryOfKey (LZ (cU P w)))/\(xs.map (·.1)).Nodup
 | .set S n=>h.SetOf (intKind P w) a S n
 | .ins C dx fs=>H dx=some (.own a)/\fs.length<=1000/\dx≠a/\h.get? a=some (Nb C dx)/\
  ∃mA,h.Ns1 dx mA/\(∀f,hU (fs.lookup f) (mA f))/\PySem.Within mA (fs.map (·.1))
 | .own _=>∃o,h.get? a=some o
 | .xd fs=>∃mA,h.Ns1 a mA/\∀f,hU (fs.lookup f) (mA f)
 | .OM lo hi=>∃t u v,h.get? a=some {cls:=.type "range",data:=.fields #[.int lo t,.int hi u,.int 1 v]}
 | .N6 o u=>h.get? a=some o/\cj H h a u
 | .QN ps=>h.get? a=some {cls:=.none,data:=.fields ps}
 | .met f x=>h.get? a=some (Na (.ref f) (.ref x))
 | .ext φ=>φ h/\(∃o,h.get? a=some o)/\∀h1 h2:Heap,φ h1->(∀o,h1.get? a=some o->h2.get? a=some o)->φ h2
def cQ (H:Hp)(h:Heap):Prop:=∀a o,H a=some o->cj P w H h a o
end
section
variable {P:K7}{w:World}{H H':Hp}{h h':Heap}{a:Addr}{o:HO}
theorem cj.lt (x:cj P w H h a o):a < h.objs.size:=by
 cases o with
 | lst xs=>obtain⟨_,_,_,_,e⟩:=x;exact Mw e
 | tup xs=>obtain⟨_,_,_,p⟩:=x;exact p.lt
 | dK kvs=>obtain⟨_,_,_,_,o,_,_,e,_⟩:=x;exact Mw e
 | dT kvs=>obtain⟨_,_,_,_,o,_,_,e,_⟩:=x;exact Mw e
 | set S n=>obtain⟨o,_,_,_,e,_⟩:=x;exact Mw e
 | ins C dx fs=>obtain⟨_,_,_,e,_⟩:=x;exact Mw e
 | own y=>obtain⟨_,e⟩:=x;exact Mw e
 | xd fs=>obtain⟨_,⟨_,_,_,e,_⟩,_⟩:=x;exact Mw e
 | OM lo hi=>obtain⟨_,_,_,e⟩:=x;exact Mw e
 | N6 ob u=>obtain⟨e,_⟩:=x;exact Mw e
 | QN ps=>exact Mw (show h.get? a=some _ from x)
 | met f y=>exact Mw (show h.get? a=some _ from x)
 | ext φ=>obtain⟨_,⟨_,e⟩,_⟩:=x;exact Mw e
theorem Paired.yp {α β:Type}{F G:α->β->Prop}:∀{l₁:List α} {l₂:List β},Paired F l₁ l₂->(∀a b,F a b->G a b)->Paired G l₁ l₂
 | _,_,.nil,_=>.nil
 | _,_,.cons r t,f=>.cons (f _ _ r) (Paired.yp t f)
theorem cj.ja (x:cj P w H h a o)(k:∀b u,(b=a∨H b=some (.own a))->h.get? b=some u->h'.get? b=some u)
 (ho:∀b,H b=some (.own a)->H' b=some (.own a)) (ht:∀b xs,H b=some (.tup xs)->H' b=some (.tup xs)):cj P w H' h' a o:=by
 induction o with
 | lst xs=>obtain⟨z,Nj,n,r,e⟩:=x;exact⟨z,Nj,n,r,k _ _ (.inl rfl) e⟩
 | tup xs=>obtain⟨z,Nj,r,ob,e,c⟩:=x;exact⟨z,Nj,r,ob,k _ _ (.inl rfl) e,c⟩
 | dK kvs=>obtain⟨z,y,vs,r,ob,es,ep,e,c⟩:=x;exact⟨z,y,vs,r,ob,es,ep,k _ _ (.inl rfl) e,c⟩
 | dT kvs=>
   obtain⟨z,y,xs,r,ob,es,ep,e,c⟩:=x
   exact⟨z,y,xs,Paired.yp r λp q z=>⟨z.1,ht _ _ z.2.1,z.2.2⟩,ob,es,ep,k _ _ (.inl rfl) e,c⟩
 | set S n=>obtain⟨ob,es,ep,t,e,c⟩:=x;exact⟨ob,es,ep,t,k _ _ (.inl rfl) e,c⟩
 | ins C dx fs=>
   obtain⟨d,z,ne,e,mA,⟨od,es,ep,e2,c⟩,r⟩:=x
   exact⟨ho _ d,z,ne,k _ _ (.inl rfl) e,mA,⟨od,es,ep,k _ _ (.inr d) e2,c⟩,r⟩
 | own y=>obtain⟨ob,e⟩:=x;exact⟨ob,k _ _ (.inl rfl) e⟩
 | xd fs=>obtain⟨mA,⟨od,es,ep,e,c⟩,r⟩:=x;exact⟨mA,⟨od,es,ep,k _ _ (.inl rfl) e,c⟩,r⟩
 | OM lo hi=>obtain⟨t,u,v,e⟩:=x;exact⟨t,u,v,k _ _ (.inl rfl) e⟩
 | N6 ob u ih=>obtain⟨e,q⟩:=x;exact⟨k _ _ (.inl rfl) e,ih q⟩
 | QN ps=>
   have e:h.get? a=some {cls:=.none,data:=.fields ps}:=x
   show h'.get? a=some {cls:=.none,data:=.fields ps}
   exact k a _ (.inl rfl) e
 | met f y=>
   have e:h.get? a=some (Na (.ref f) (.ref y)):=x
   show h'.get? a=some (Na (.ref f) (.ref y))
   exact k a _ (.inl rfl) e
 | ext φ=>obtain⟨p,⟨o,e⟩,st⟩:=x;exact⟨st _ _ p λo q=>k _ _ (.inl rfl) q,⟨o,k _ _ (.inl rfl) e⟩,st⟩
theorem cQ.lt (x:cQ P w H h)(e:H a=some o):a < h.objs.size:=(x a o e).lt
theorem cQ.fresh (x:cQ P w H h)(e:h.objs.size<=a):H a=none:=by
 cases q:H a with
 | none=>rfl
 | some u=>exact absurd (Kr (x.lt q) e) (Ku _)
theorem cQ.kept (x:cQ P w H h)(k:∀b u,h.get? b=some u->h'.get? b=some u):cQ P w H h':=λa o e=>
 (x a o e).ja (λb u _ q=>k b u q) (λ_ q=>q) λ_ _ q=>q
theorem cQ.laid (x:cQ P w H h)(k:∀b u,h.get? b=some u->h'.get? b=some u)(hp:h.objs.size<=a)(new:cj P w (upd H a o) h' a o):cQ P w (upd H a o) h':=λb u e=>by
 have hn:=x.fresh hp
 by_cases hb:b=a
 ·subst hb;rw[aA] at e;cases e;exact new
 ·rw[aM hb] at e
  exact(x b u e).ja (λc v _ q=>k c v q) (λc q=>by rw[aM (cZ q hn)];exact q) λc xs q=>by rw[aM (cZ q hn)];exact q
end
def Rd (H:Hp)(a:Addr)(u:HO):Prop:=H a=some u∨∃o,H a=some (.N6 o u)
theorem Rd.ok {P:K7}{w:World}{H:Hp}{h:Heap}{a:Addr}{u:HO}(r:Rd H a u)(x:cQ P w H h):cj P w H h a u:=by
 rcases r with r | ⟨o,r⟩
 ·exact x a u r
 ·obtain⟨_,q⟩:=x a _ r
  exact q
def xD:Option HO->Prop
 | some (.lst _)=>True
 | some (.dK _)=>True
 | some (.dT _)=>True
 | some (.set _ _)=>True
 | some (.ins _ _ _)=>True
 | some (.ext _)=>True
 | _=>False
section
variable {P:K7}{w:World}{H:Hp}{h h':Heap}{x e:Addr}{o':HO}
theorem cQ.write (ok:cQ P w H h)(mu:xD (H x))(he:e=x∨H e=some (.own x))(k:∀b u,b≠e->h.get? b=some u->h'.get? b=some u)(Sb:∃u,h'.get? e=some u)
 (new:cj P w (upd H x o') h' x o'):cQ P w (upd H x o') h':=λb u q=>by
 have Sy:∀c y,H c=some (.own y)->c≠x:=λc y r z=>by subst z;rw[r] at mu;exact mu
 have ntup:∀c xs,H c=some (.tup xs)->c≠x:=λc xs r z=>by subst z;rw[r] at mu;exact mu
 by_cases hb:b=x
 ·subst hb;rw[aA] at q;cases q;exact new
 ·rw[aM hb] at q
  by_cases Qp:b=e
  ·have q':H b=some (.own x):=by
    rcases he with z | z
    ·exact absurd (Qp.trans z) hb
    ·rw[Qp];exact z
   rw[q] at q';cases q'
   obtain⟨v,hv⟩:=Sb
   exact⟨v,by rw[Qp];exact hv⟩
  ·refine(ok b u q).ja (λc v hc r=>k c v ?_ r) (λc r=>by rw[aM (Sy c b r)];exact r) λc xs r=>by rw[aM (ntup c xs r)];exact r
   rcases hc with rfl | hc
   ·exact Qp
   ·rintro rfl
    rcases he with z | z
    ·exact Sy c b hc z
    ·rw[hc] at z;cases z;exact hb rfl
end
structure Un (fs ex:Ig) (H H':Hp) (h h':Heap):Prop where
 keep:∀b o,h.get? b=some o->H b=none->b∉fs->b∉ex->h'.get? b=some o
 slot:∀b o,h.get? b=some o->H b=none->b∈fs->b∉ex->∃sl,h'.get? b=some {o with slots:=sl}
 free:∀b o,h.get? b=some o->H b=none->b∉ex->H' b=none
 there:∀b o,h.get? b=some o->b∉ex->∃o',h'.get? b=some o'
 NS:∀b xs,H b=some (.tup xs)->H' b=some (.tup xs)
 NR:∀b o u,H b=some (.N6 o u)->H' b=some (.N6 o u)
 NT:∀b ps,H b=some (.QN ps)->∃more,H' b=some (.QN (ps++more))
section
variable {fs fs' ex ex':Ig}{H H1 H2:Hp}{h h1 h2 h':Heap}{a x e:Addr}{o:HO}
theorem Un.any (u:Un fs ex H H1 h h1){b:Addr}{ob:Obj}(q:h.get? b=some ob)(n:H b=none)(hx:b∉ex):∃sl,h1.get? b=some {ob with slots:=sl}:=by
 by_cases hb:b∈fs
 ·exact u.slot b ob q n hb hx
 ·exact⟨ob.slots,u.keep b ob q n hb hx⟩
theorem Un.trans (a:Un fs ex H H1 h h1)(b:Un fs ex H1 H2 h1 h2):Un fs ex H H2 h h2 where
 keep:=λc ob q n hc hx=>b.keep c ob (a.keep c ob q n hc hx) (a.free c ob q n hx) hc hx
 slot:=λc ob q n hc hx=>by
  obtain⟨sl,e1⟩:=a.slot c ob q n hc hx
  obtain⟨QP,e2⟩:=b.slot c _ e1 (a.free c ob q n hx) hc hx
  exact⟨QP,e2⟩
 free:=λc ob q n hx=>by
  obtain⟨o',e1⟩:=a.there c ob q hx
  exact b.free c o' e1 (a.free c ob q n hx) hx
 there:=λc ob q hx=>by
  obtain⟨o',e1⟩:=a.there c ob q hx
  exact b.there c o' e1 hx
 NS:=λc xs q=>b.NS c xs (a.NS c xs q)
 NR:=λc ob xs q=>b.NR c ob xs (a.NR c ob xs q)
 NT:=λc ps q=>by
  obtain⟨m1,e1⟩:=a.NT c ps q
  obtain⟨m2,e2⟩:=b.NT c _ e1
  exact⟨m1++m2,by rw[e2,Array.append_assoc]⟩
theorem Un.kept (k:∀b u,h.get? b=some u->h'.get? b=some u):Un fs ex H H h h':=
 ⟨λb ob q _ _ _=>k b ob q,λb ob q _ _ _=>⟨ob.slots,k b ob q⟩,λ_ _ _ n _=>n,λb ob q _=>⟨ob,k b ob q⟩,λ_ _ q=>q,λ_ _ _ q=>q,λ_ ps q=>⟨#[],by rw[q];simp⟩⟩
theorem Un.refl:Un fs ex H H h h:=Un.kept λ_ _ q=>q
theorem Un.laid (k:∀b u,h.get? b=some u->h'.get? b=some u)(hp:h.objs.size<=a)(hn:H a=none):Un fs ex H (upd H a o) h h' where
 keep:=λb u q _ _ _=>k b u q
 slot:=λb u q _ _ _=>⟨u.slots,k b u q⟩
 free:=λb u q n _=>by rw[aM (Kt (Kr (Mw q) hp))];exact n
 there:=λb u q _=>⟨u,k b u q⟩
 NS:=λb xs q=>by rw[aM (cZ q hn)];exact q
 NR:=λb u xs q=>by rw[aM (cZ q hn)];exact q
 NT:=λb ps q=>⟨#[],by rw[aM (cZ q hn),q];simp⟩
theorem Un.write (mu:xD (H x))(he:e=x∨H e=some (.own x))(k:∀b u,b≠e->h.get? b=some u->h'.get? b=some u)(Sb:∃u,h'.get? e=some u):Un fs ex H (upd H x o) h h':=by
 have hx:∀b,H b=none->b≠x:=λb n z=>by subst z;rw[n] at mu;exact mu
 have hb:∀b,H b=none->b≠e:=λb n z=>by
  subst z
  rcases he with r | r
  ·exact hx b n r
  ·rw[n] at r;cases r
 have hm:∀b u,H b=some u->¬xD (some u)->b≠x:=λb u q nm z=>by subst z;rw[q] at mu;exact nm mu
 refine⟨λb u q n _ _=>k b u (hb b n) q,λb u q n _ _=>⟨u.slots,k b u (hb b n) q⟩,λb u q n _=>by rw[aM (hx b n)];exact n,λb u q _=>?_,
  λb xs q=>by rw[aM (hm b _ q λz=>z)];exact q,λb u xs q=>by rw[aM (hm b _ q λz=>z)];exact q,λb ps q=>⟨#[],by rw[aM (hm b _ q λz=>z),q];simp⟩⟩
 by_cases Qp:b=e
 ·subst Qp;exact Sb
 ·exact⟨u,k b u Qp q⟩
theorem Un.mono (u:Un fs ex H H1 h h1)(hs:∀b∈fs,b∈fs')(hx:∀b∈ex,b∈ex'):Un fs' ex' H H1 h h1:=
 ⟨λb ob q n hb he=>u.keep b ob q n (λz=>hb (hs b z)) λz=>he (hx b z),λ_ _ q n _ he=>u.any q n λz=>he (hx _ z),λb ob q n he=>u.free b ob q n λz=>he (hx b z),λb ob q he=>u.there b ob q λz=>he (hx b z),u.NS,u.NR,u.NT⟩
end
def z9 (h:Heap)(H:Hp):Ig:=(JH h.objs.size).filter λa=>(H a).isSome
def ko (h:Heap)(H:Hp):Heap:=MV h (z9 h H)
theorem wF (h:Heap)(H:Hp):(ko h H).objs.size=h.objs.size:=PySem.W.hideAll_size _ _
theorem ye {h:Heap}{H:Hp}{b:Addr}{o:Obj}(e:h.get? b=some o)(n:H b=none):(ko h H).get? b=some o:=
 M0 _ e λhm=>by
  have q:(H b).isSome=true:=(IZ.mp hm).2
  rw[n] at q;simp at q
theorem Be {h:Heap}{H:Hp}{b:Addr}{o:Obj}(e:(ko h H).get? b=some o):h.get? b=some o/\H b=none:=by
 have e':h.get? b=some o:=M3 (z9 h H) e
 refine⟨e',?_⟩
 cases q:H b with
 | none=>rfl
 | some x=>
   have hm:b∈z9 h H:=IZ.mpr ⟨JG.mpr (Mw e'),by simp[q]⟩
   have z:(ko h H).get? b=none:=MW (z9 h H) hm
   rw[z] at e;cases e
structure Mod (K:MP) (mg:HZ) (base:Heap):Prop where
 Qx:K.In base
 glob:base.Ns K5 mg
 blt:∃mb,base.Ns builtinsNs mb/\∀x:Str,x≠"__name__"->mb x=Lo x
 nolimit:base.NoLimit
structure Cx where
 prog:K7
 w:World
 K:MP
 mg:HZ
 base:Heap
 A:La
 N:Ic
 s₀:K3
 H₀:Hp
 env:Env
 outer:List Env
 stack:List Env
 ex:Ig
 fn:Str->Bool
 calm:Bool
 pn:Ia
 xe:Value->K3->Prop
def cG (l:List Env):Ig:=l.filterMap (·.frame)
abbrev Cx.fs (X:Cx):Ig:=cG X.outer
def bZ (sc:Scope)(x:Str):Prop:=sc.names.lookup x=some .local∨sc.names.lookup x=some .cell∨sc.names.lookup x=some .free
def Loc (sc:Scope)(x:Str):Prop:=sc.names.lookup x=some .local∨sc.names.lookup x=some .cell
def Look (env:Env)(h:Heap)(m:HZ)(x:Str)(u:Value):Prop:=
 (env.kindOf x=some .local/\m x=some u)∨((env.kindOf x=some .cell∨env.kindOf x=some .free)/\∃c,env.cells.lookup x=some c/\h.IsCell c (some u))
structure Cx.Ok (X:Cx):Prop where
 mod:Mod X.K X.mg X.base
 kind:X.env.scope.kind= .function
 glob:X.env.globals=K5
 blt:X.env.builtins=builtinsNs
 above:X.s₀.heap.objs.size<=X.env.locals
 inj:∀x y c,X.env.cells.lookup x=some c->X.env.cells.lookup y=some c->x=y
 has:∀x,(X.env.kindOf x=some .cell∨X.env.kindOf x=some .free)->∃c,X.env.cells.lookup x=some c
 QM:∀x c,X.fn x=true->X.env.cells.lookup x=some c->X.s₀.heap.objs.size<=c
 hd:X.calm=true->X.A.handled=none
 frames:X.A.frames=some X.stack
 NG:X.stack=X.outer∨(X.stack=X.env::X.outer/\X.env.frame=some X.env.locals)
 Q5:∀b∈X.ex,b≠X.env.locals/\∀x c,X.env.cells.lookup x=some c->c≠b
 bs:∀b o,X.base.get? b=some o->X.s₀.heap.get? b=some o/\X.H₀ b=none
 PH:X.base.objs.size<=X.s₀.heap.objs.size
 OI:∀b o,X.base.get? b=some o->b∉X.ex
 OD:∀b∈X.ex,b∉X.fs
 N5:X.s₀.heap.FunFrames X.base X.outer
 Qq:∀b∈X.fs,X.H₀ b=none
structure Inv (X:Cx) (Nh:Ia) (σ:List (Option V)) (H:Hp) (s:K3):Prop where
 ok:X.Ok
 os:s.os=X.s₀.os
 bare:KW s.gens
 base:Un X.fs X.ex X.H₀ H X.s₀.heap s.heap
 loc:∃m,s.heap.Ns X.env.locals m/\∀(i:Nat) (x:Str) (v:V),X.N[i]?=some x->σ[i]?=some (some v)->bZ X.env.scope x->∃u,RelV v u/\Look X.env s.heap m x u
 cell:∀x c,X.env.cells.lookup x=some c->∃v,s.heap.IsCell c v
 free:H X.env.locals=none
 NF:∀x c,X.env.cells.lookup x=some c->H c=none
 pin:∀p∈X.pn++Nh,s.heap.get? p.1=some p.2/\H p.1=none/\p.1≠X.env.locals/\p.1∉X.fs/\∀v,p.2.data≠ .cell v
 Nm:cQ X.prog X.w H s.heap
 len:σ.length=X.N.length
section
variable {X:Cx}{Nh:Ia}{σ:List (Option V)}{H H':Hp}{s:K3}{h':Heap}
variable {t':Nat}{ch:Ig}{x:Str}{i:Nat}
theorem Cx.Ok.HD (ok:X.Ok){b:Addr}{o:Obj}(e:X.base.get? b=some o):b∉X.fs:=λhb=>by
 have:=(ok.N5.mem hb).1
 rw[e] at this;cases this
theorem Inv.bs (I:Inv X Nh σ H s):∀b o,X.base.get? b=some o->s.heap.get? b=some o/\H b=none:=λb o e=>
 ⟨I.base.keep b o (I.ok.bs b o e).1 (I.ok.bs b o e).2 (I.ok.HD e) (I.ok.OI b o e),I.base.free b o (I.ok.bs b o e).1 (I.ok.bs b o e).2 (I.ok.OI b o e)⟩
theorem Inv.bk (I:Inv X Nh σ H s):∀b o,X.base.get? b=some o->s.heap.get? b=some o:=λb o e=>(I.bs b o e).1
theorem Inv.mod (I:Inv X Nh σ H s):Mod X.K X.mg X.base:=I.ok.mod
theorem Inv.eJ (I:Inv X Nh σ H s):X.K.In s.heap:=I.ok.mod.Qx.keeps I.bk
theorem Inv.lt (I:Inv X Nh σ H s):X.env.locals < s.heap.objs.size:=let ⟨_,hn,_⟩:=I.loc;hn.lt
theorem Inv.sz (I:Inv X Nh σ H s):X.s₀.heap.objs.size<=s.heap.objs.size:=Kq I.ok.above (KC I.lt)
theorem Inv.Hv (I:Inv X Nh σ H s){a:Addr}(h:s.heap.objs.size<=a):a∉X.fs:=λhb=>by
 obtain⟨_,o,ho,_⟩:=I.ok.N5.mem hb
 exact absurd (Kr (Mw ho) (Kq I.sz h)) (Ku _)
theorem Inv.Qj (I:Inv X Nh σ H s):∀x c,X.env.cells.lookup x=some c->c≠X.env.locals:=λx c e z=>by
 obtain⟨v,o,ho,hd⟩:=I.cell x c e
 obtain⟨m,⟨o',es,ep,Pf,hd',_⟩,_⟩:=I.loc
 rw[z,Pf] at ho;cases ho;rw[hd'] at hd;cases hd
theorem Inv.N5 (I:Inv X Nh σ H s):s.heap.FunFrames X.base X.outer:=by
 have all:∀(l:List Env),(∀b∈cG l,b∈X.fs)->X.s₀.heap.FunFrames X.base l->s.heap.FunFrames X.base l:=by
  intro l
  induction l with
  | nil=>intro _ _;trivial
  | cons env r ih=>
    intro hs hl
    obtain⟨hk,⟨L,o,hf,hn,ho,hd⟩,hr⟩:=hl
    have hL:L∈X.fs:=hs L (by unfold cG;rw[Jw,hf];exact IT)
    obtain⟨sl,e⟩:=I.base.slot L o ho (I.ok.Qq L hL) hL λz=>I.ok.OD L z hL
    exact⟨hk,⟨L,_,hf,hn,e,hd⟩,ih (λb hb=>hs b (by unfold cG;rw[Jw,hf];exact IK _ hb)) hr⟩
 exact all X.outer (λ_ hb=>hb) I.ok.N5
theorem Inv.stack (I:Inv X Nh σ H s):s.heap.FunFrames X.base X.stack:=by
 rcases I.ok.NG with e | ⟨e,hf⟩
 ·rw[e];exact I.N5
 ·rw[e]
  obtain⟨m,hn,_⟩:=I.loc
  refine .cons (by rw[I.ok.kind];decide) hf hn ?_ I.N5
  exact Heap.get?_none_of_le (Kq I.ok.PH I.ok.above)
theorem Inv.nc (I:Inv X Nh σ H s):∀b∈cG X.stack,b∈X.env.locals::X.fs:=λb hb=>by
 rcases I.ok.NG with e | ⟨e,hf⟩
 ·rw[e] at hb;exact IK _ hb
 ·rw[e] at hb
  unfold cG at hb
  rw[Jw,hf] at hb
  exact hb
theorem Inv.gT (I:Inv X Nh σ H s):∀b∈cG X.stack,H b=none:=λb hb=>by
 rcases IY.mp (I.nc b hb) with e | hb
 ·rw[e];exact I.free
 ·obtain⟨_,o,ho,_⟩:=I.ok.N5.mem hb
  exact I.base.free b o ho (I.ok.Qq b hb) λz=>I.ok.OD b z hb
theorem Inv.step {g':Array GenState}{d':Drawn}(I:Inv X Nh σ H s)
 (Qo:∀b∈ch,(b∈X.ex∨X.s₀.heap.objs.size<=b)/\b≠X.env.locals/\(∀x c,X.env.cells.lookup x=some c->c≠b)/\∀p∈X.pn++Nh,p.1≠b)
 (keep:∀b o,b≠X.env.locals->b∉X.fs->b∉ch->s.heap.get? b=some o->H b=none->h'.get? b=some o)
 (slot:∀b o,b≠X.env.locals->b∈X.fs->b∉ch->s.heap.get? b=some o->H b=none->∃sl,h'.get? b=some {o with slots:=sl}) (free:∀b o,b∉ch->s.heap.get? b=some o->H b=none->H' b=none)
 (there:∀b o,b∉ch->s.heap.get? b=some o->∃o',h'.get? b=some o')
 (NS:∀b xs,H b=some (.tup xs)->H' b=some (.tup xs)) (NR:∀b o u,H b=some (.N6 o u)->H' b=some (.N6 o u)) (NT:∀b ps,H b=some (.QN ps)->∃more,H' b=some (.QN (ps++more)))
 (ns:∀m,s.heap.Ns X.env.locals m->h'.Ns X.env.locals m) (Nm:cQ X.prog X.w H' h') (hg:KW g'):
 Inv X Nh σ H' {s with heap:=h',gens:=g',drawn:=d',toks:=t'}:=by
 have neL:∀b o,X.s₀.heap.get? b=some o->b≠X.env.locals:=λb o e=>Kt (Kr (Mw e) I.ok.above)
 have PM:∀b o,X.s₀.heap.get? b=some o->b∉X.ex->b∉ch:=λb o e hx hb=>by
  rcases(Qo b hb).1 with z | z
  ·exact hx z
  ·exact absurd (Kr (Mw e) z) (Ku _)
 have cellK:∀x c,X.env.cells.lookup x=some c->∀v,s.heap.IsCell c v->h'.IsCell c v:=λx c e v ⟨o,ho,hd⟩=>by
  have SE:c∉ch:=λz=>(Qo c z).2.2.1 x c e rfl
  by_cases hc:c∈X.fs
  ·obtain⟨sl,q⟩:=slot c o (I.Qj x c e) hc SE ho (I.NF x c e)
   exact⟨_,q,hd⟩
  ·exact⟨o,keep c o (I.Qj x c e) hc SE ho (I.NF x c e),hd⟩
 refine⟨I.ok,I.os,hg,⟨λb o e n hb hx=>?_,λb o e n hb hx=>?_,λb o e n hx=>?_,λb o e hx=>?_,λb xs e=>NS b xs (I.base.NS b xs e),λb o xs e=>NR b o xs (I.base.NR b o xs e),λb ps e=>?_⟩,?_,λx c e=>?_,?_,λx c e=>?_,λp hp=>?_,Nm,I.len⟩
 ·exact keep b o (neL b o e) hb (PM b o e hx) (I.base.keep b o e n hb hx) (I.base.free b o e n hx)
 ·obtain⟨sl,e1⟩:=I.base.slot b o e n hb hx
  obtain⟨QP,e2⟩:=slot b _ (neL b o e) hb (PM b o e hx) e1 (I.base.free b o e n hx)
  exact⟨QP,e2⟩
 ·obtain⟨o',e1⟩:=I.base.there b o e hx
  exact free b o' (PM b o e hx) e1 (I.base.free b o e n hx)
 ·obtain⟨o',e1⟩:=I.base.there b o e hx
  exact there b o' (PM b o e hx) e1
 ·obtain⟨m1,e1⟩:=I.base.NT b ps e
  obtain⟨m2,e2⟩:=NT b _ e1
  exact⟨m1++m2,by rw[e2,Array.append_assoc]⟩
 ·obtain⟨m,hn,hl⟩:=I.loc
  refine⟨m,ns m hn,λi x v e1 e2 e3=>?_⟩
  obtain⟨u,r,l⟩:=hl i x v e1 e2 e3
  refine⟨u,r,?_⟩
  rcases l with l | ⟨k,c,e,z⟩
  ·exact .inl l
  ·exact .inr ⟨k,c,e,cellK x c e _ z⟩
 ·obtain⟨v,z⟩:=I.cell x c e
  exact⟨v,cellK x c e v z⟩
 ·obtain⟨m,⟨o,_,_,ho,_⟩,_⟩:=I.loc
  exact free _ o (λz=>(Qo _ z).2.1 rfl) ho I.free
 ·obtain⟨v,o,ho,hd⟩:=I.cell x c e
  exact free c o (λz=>(Qo c z).2.2.1 x c e rfl) ho (I.NF x c e)
 ·obtain⟨e,n,ne,nf,d⟩:=I.pin p hp
  have SE:p.1∉ch:=λz=>(Qo p.1 z).2.2.2 p hp rfl
  exact⟨keep p.1 p.2 ne nf SE e n,free p.1 p.2 SE e n,ne,nf,d⟩
theorem Inv.un (I:Inv X Nh σ H s)(u:Un X.fs [] H H' s.heap h')(Nm:cQ X.prog X.w H' h'):Inv X Nh σ H' {s with heap:=h',toks:=t'}:=by
 obtain⟨m,⟨o,es,ep,ho,r⟩,_⟩:=id I.loc
 obtain⟨sl,hL⟩:=u.any ho I.free (by simp)
 exact I.step (g':=s.gens) (d':=s.drawn) (ch:=[]) (λ_ z=>nomatch z) (λb o _ hb _ e n=>u.keep b o e n hb (by simp)) (λb o _ hb _ e n=>u.slot b o e n hb (by simp)) (λb o _ e n=>u.free b o e n (by simp)) (λb o _ e=>u.there b o e (by simp)) u.NS u.NR u.NT (λm' hm=>by
  obtain⟨o',QL,ep',Pf,r'⟩:=hm
  rw[ho] at Pf;cases Pf
  exact⟨_,QL,ep',hL,r'⟩) Nm I.bare
theorem Inv.call {g':Array GenState}{d':Drawn}(I:Inv X Nh σ H s)(u:Un (cG X.stack) ch H H' s.heap h')(Nm:cQ X.prog X.w H' h')(hg:KW g')
 (Qo:∀b∈ch,(b∈X.ex∨X.s₀.heap.objs.size<=b)/\b≠X.env.locals/\(∀x c,X.env.cells.lookup x=some c->c≠b)/\∀p∈X.pn++Nh,p.1≠b):
 Inv X Nh σ H' {s with heap:=h',gens:=g',drawn:=d',toks:=t'}:=by
 obtain⟨m,⟨o,es,ep,ho,r⟩,_⟩:=id I.loc
 obtain⟨sl,hL⟩:=u.any ho I.free λz=>(Qo _ z).2.1 rfl
 exact I.step (ch:=ch) Qo (λb o hL hb hc e n=>u.keep b o e n (λz=>(IY.mp (I.nc b z)).elim hL hb) hc) (λb o _ _ hc e n=>u.any e n hc) (λb o hc e n=>u.free b o e n hc) (λb o hc e=>u.there b o e hc) u.NS u.NR u.NT (λm' hm=>by
  obtain⟨o',QL,ep',Pf,r'⟩:=hm
  rw[ho] at Pf;cases Pf
  exact⟨_,QL,ep',hL,r'⟩) Nm hg
theorem Inv.turned {it:Addr}(I:Inv X Nh σ H s)(k:∀b o,b≠it->s.heap.get? b=some o->h'.get? b=some o)(hn:H it=none)(hL:it≠X.env.locals)
 (h1:it∈X.ex∨X.s₀.heap.objs.size<=it) (h2:∀x c,X.env.cells.lookup x=some c->c≠it) (h3:∀p∈X.pn++Nh,p.1≠it):Inv X Nh σ H {s with heap:=h',toks:=t'}:=by
 have SA:∀b u,H b=some u->b≠it:=λb u e z=>by rw[z,hn] at e;cases e
 refine I.step (g':=s.gens) (d':=s.drawn) (ch:=[it]) (λb hb=>?_) (λb o _ _ hc e _=>k b o (λz=>hc (by simp[z])) e) (λb o _ _ hc e _=>⟨o.slots,k b o (λz=>hc (by simp[z])) e⟩) (λ_ _ _ _ n=>n)
  (λb o hc e=>⟨o,k b o (λz=>hc (by simp[z])) e⟩) (λ_ _ e=>e) (λ_ _ _ e=>e) (λb ps e=>⟨#[],by rw[e];simp⟩) (λm hm=>?_) (λb u e=>?_) I.bare
 ·have e:b=it:=by simpa using hb
  subst e
  exact⟨h1,hL,h2,h3⟩
 ·obtain⟨o,es,ep,ho,r⟩:=hm
  exact⟨o,es,ep,k _ o (KG hL) ho,r⟩
 ·refine(I.Nm b u e).ja (λc v hc q=>k c v ?_ q) (λ_ q=>q) λ_ _ q=>q
  rcases hc with z | z
  ·rw[z];exact SA b u e
  ·exact SA c _ z
theorem Inv.tok (I:Inv X Nh σ H s)(t:Nat):Inv X Nh σ H {s with toks:=t}:=I.un (h':=s.heap) (t':=t) Un.refl I.Nm
theorem Inv.kept (I:Inv X Nh σ H s)(k:∀b u,s.heap.get? b=some u->h'.get? b=some u):Inv X Nh σ H {s with heap:=h',toks:=t'}:=I.un (Un.kept k) (I.Nm.kept k)
theorem Inv.laid {a:Addr}{o:HO}(I:Inv X Nh σ H s)(k:∀b u,s.heap.get? b=some u->h'.get? b=some u)(hp:s.heap.objs.size<=a)(new:cj X.prog X.w (upd H a o) h' a o):
 Inv X Nh σ (upd H a o) {s with heap:=h',toks:=t'}:=I.un (Un.laid k hp (I.Nm.fresh hp)) (I.Nm.laid k hp new)
theorem Inv.write {x e:Addr}{o:HO}(I:Inv X Nh σ H s)(mu:xD (H x))(he:e=x∨H e=some (.own x))(k:∀b u,b≠e->s.heap.get? b=some u->h'.get? b=some u)(Sb:∃u,h'.get? e=some u)
 (new:cj X.prog X.w (upd H x o) h' x o):Inv X Nh σ (upd H x o) {s with heap:=h',toks:=t'}:=I.un (Un.write mu he k Sb) (I.Nm.write mu he k Sb new)
theorem Inv.iQ {QQ:Ia}(I:Inv X Nh σ H s)(h:∀p∈QQ,s.heap.get? p.1=some p.2/\H p.1=none/\p.1≠X.env.locals/\p.1∉X.fs/\∀v,p.2.data≠ .cell v):Inv X QQ σ H s:=
 ⟨I.ok,I.os,I.bare,I.base,I.loc,I.cell,I.free,I.NF,λp hp=>(IS.mp hp).elim (λz=>I.pin p (IX _ z)) (h p),I.Nm,I.len⟩
theorem mO {N:Ic}(hN:N.Nodup){j:Nat}(a:N[i]?=some x)(b:N[j]?=some x):i=j:=by
 obtain⟨h1,e1⟩:=IG.mp a
 obtain⟨h2,e2⟩:=IG.mp b
 exact(JI hN).mp (e1.trans e2.symm)
theorem oG {M:Model}{A:La}{E:Value->K3->Prop}{v:V}{u:Value}{Q:Unit->K3->Prop}(I:Inv X Nh σ H s)(hN:X.N.Nodup)(hi:X.N[i]?=some x)(hx:Loc X.env.scope x)(r:RelV v u)
 (h:∀s',Inv X Nh (σ.set i (some v)) H s'->(∃a,Mz a s.heap s'.heap/\(a=X.env.locals∨X.env.cells.lookup x=some a))->Q () s') (hf:X.fn x=true∨X.env.scope.names.lookup x=some .local:=by first | exact .inl rfl | exact .inr rfl | assumption):wpAny M A (storeName X.env x u) Q E s:=by
 obtain⟨m,hn,hl⟩:=id I.loc
 have RI:(X.env.scope.kind== .class ||(X.env.scope.kind== .module&&X.env.locals != X.env.globals))=false:=by rw[I.ok.kind];rfl
 have hiσ:i < σ.length:=by rw[I.len];exact(IG.mp hi).1
 have Qj:=I.Qj
 have tracked:∀{a:Addr} {h':Heap},(∃o,s.heap.get? a=some o/\H a=none)->Mz a s.heap h'->cQ X.prog X.w H h':=λ{a h'} ha hs b ob e=>by
  obtain⟨_,_,Oy⟩:=ha
  refine(I.Nm b ob e).ja (λc w' hc q=>(hs.2 c ?_).trans q) (λ_ q=>q) λ_ _ q=>q
  rintro rfl
  rcases hc with rfl | hc
  ·rw[Oy] at e;cases e
  ·rw[Oy] at hc;cases hc
 rcases hx with hk | hk
 ·refine wpAny_storeName_local hk hn (λh' S1 hs=>?_) RI
  obtain⟨oL,_,_,hoL,_⟩:=id hn
  refine h _ ⟨I.ok,I.os,I.bare,⟨λb o e n hb hx=>?_,λb o e n hb hx=>?_,I.base.free,λb o e hx=>?_,I.base.NS,I.base.NR,I.base.NT⟩,⟨_,S1,λj y v' e1 e2 e3=>?_⟩,λy c e=>?_,I.free,I.NF,λp hp=>?_,tracked ⟨oL,hoL,I.free⟩ hs,by simpa using I.len⟩ ⟨_,hs,.inl rfl⟩
  ·exact(hs.2 b (Kt (Kr (Mw e) I.ok.above))).trans (I.base.keep b o e n hb hx)
  ·obtain⟨sl,e1⟩:=I.base.slot b o e n hb hx
   exact⟨sl,(hs.2 b (Kt (Kr (Mw e) I.ok.above))).trans e1⟩
  ·obtain⟨o',e1⟩:=I.base.there b o e hx
   exact⟨o',(hs.2 b (Kt (Kr (Mw e) I.ok.above))).trans e1⟩
  ·by_cases hj:j=i
   ·subst hj
    rw[hi] at e1;cases e1
    rw[Ji hiσ] at e2
    cases e2
    exact⟨u,r,.inl ⟨hk,by simp⟩⟩
   ·rw[Jk (KG hj)] at e2
    obtain⟨u',r',q⟩:=hl j y v' e1 e2 e3
    refine⟨u',r',?_⟩
    rcases q with⟨k,e⟩ | ⟨k,c,e,z⟩
    ·refine .inl ⟨k,?_⟩
     have:y≠x:=λe=>hj (mO hN e1 (e▸hi))
     simp[this,e]
    ·exact .inr ⟨k,c,e,z.sameBut hs (Qj y c e)⟩
  ·obtain⟨w',z⟩:=I.cell y c e
   exact⟨w',z.sameBut hs (Qj y c e)⟩
  ·obtain⟨e,n,ne,nf,d⟩:=I.pin p hp
   exact⟨(hs.2 p.1 ne).trans e,n,ne,nf,d⟩
 ·have hfn:X.fn x=true:=by
   rcases hf with z | z
   ·exact z
   ·rw[z] at hk;cases hk
  obtain⟨c,hc⟩:=I.ok.has x (.inl hk)
  obtain⟨w',z⟩:=I.cell x c hc
  refine wpAny_storeName_cell I.ok.kind hk hc z (λh' Pw hs=>?_)
  obtain⟨oc,hoc,hocd⟩:=id z
  refine h {s with heap:=h'} ⟨I.ok,I.os,I.bare,⟨λb o e n hb hx=>?_,λb o e n hb hx=>?_,I.base.free,λb o e hx=>?_,I.base.NS,I.base.NR,I.base.NT⟩,⟨m,hn.sameBut hs (KG (Qj x c hc)),λj y v' e1 e2 e3=>?_⟩,λy c' e=>?_,I.free,I.NF,λp hp=>?_,tracked ⟨oc,hoc,I.NF x c hc⟩ hs,by simpa using I.len⟩ ⟨c,hs,.inr hc⟩
  ·exact(hs.2 b (Kt (Kr (Mw e) (I.ok.QM x c hfn hc)))).trans (I.base.keep b o e n hb hx)
  ·obtain⟨sl,e1⟩:=I.base.slot b o e n hb hx
   exact⟨sl,(hs.2 b (Kt (Kr (Mw e) (I.ok.QM x c hfn hc)))).trans e1⟩
  ·obtain⟨o',e1⟩:=I.base.there b o e hx
   exact⟨o',(hs.2 b (Kt (Kr (Mw e) (I.ok.QM x c hfn hc)))).trans e1⟩
  ·by_cases hj:j=i
   ·subst hj
    rw[hi] at e1;cases e1
    rw[Ji hiσ] at e2
    cases e2
    exact⟨u,r,.inr ⟨.inl hk,c,hc,Pw⟩⟩
   ·rw[Jk (KG hj)] at e2
    obtain⟨u',r',q⟩:=hl j y v' e1 e2 e3
    refine⟨u',r',?_⟩
    rcases q with q | ⟨k,c',e,z'⟩
    ·exact .inl q
    ·refine .inr ⟨k,c',e,z'.sameBut hs ?_⟩
     rintro rfl
     exact hj (mO hN e1 (I.ok.inj _ _ _ e hc▸hi))
  ·by_cases Q1:c'=c
   ·subst Q1;exact⟨_,Pw⟩
   ·obtain⟨w2,z2⟩:=I.cell y c' e
    exact⟨w2,z2.sameBut hs Q1⟩
  ·obtain⟨e,n,ne,nf,d⟩:=I.pin p hp
   refine⟨(hs.2 p.1 ?_).trans e,n,ne,nf,d⟩
   intro q
   rw[q,hoc] at e
   have q':oc=p.2:=Option.some.inj e
   exact d w' (by rw[← q'];exact hocd)
theorem ki {M:Model}{A:La}{E:Value->K3->Prop}{v:V}{u:Value}{Q:Unit->K3->Prop}(I:Inv X Nh σ H s)(hN:X.N.Nodup)(hi:X.N[i]?=some x)(hx:Loc X.env.scope x)(r:RelV v u)
 (h:∀s',Inv X Nh (σ.set i (some v)) H s'->Q () s') (hf:X.fn x=true∨X.env.scope.names.lookup x=some .local:=by first | exact .inl rfl | exact .inr rfl | assumption):wpAny M A (storeName X.env x u) Q E s:=
 oG I hN hi hx r (λs' I' _=>h s' I') hf
theorem Inv.tX {s':K3}(I:Inv X Nh σ H s)(ho:s'.os=s.os)(u:Un (cG X.stack) ch H H' s.heap s'.heap)(Nm:cQ X.prog X.w H' s'.heap)(hg:KW s'.gens)
 (Qo:∀b∈ch,(b∈X.ex∨X.s₀.heap.objs.size<=b)/\b≠X.env.locals/\(∀x c,X.env.cells.lookup x=some c->c≠b)/\∀p∈X.pn++Nh,p.1≠b):Inv X Nh σ H' s':=by
 obtain⟨h',g',d',t',o'⟩:=s'
 have e:o'=s.os:=ho
 subst e
 exact I.call (g':=g') (t':=t') (d':=d') u Nm hg Qo
end
abbrev XK:=Value->Option Addr->Hp->Prop
abbrev St:=List (Option V)
abbrev VK:=V->Hp->Prop
abbrev TE:=St->Hp->VK->Prop
abbrev TT:=St->Hp->(Bool->Hp->Prop)->Prop
abbrev TA:=St->Hp->(List V->Hp->Prop)->Prop
structure Ends where
 nx:St->Hp->Prop
 rt:VK
 bk:St->Hp->Prop:=λ_ _=>False
 ct:St->Hp->Prop:=λ_ _=>False
abbrev TS:=Ends->St->Hp->Prop
def EP (X:Cx)(Nh:Ia)(σ:St)(Q:VK)(u:Value)(s':K3):Prop:=∃v H',Inv X Nh σ H' s'/\RelV v u/\Q v H'
def TP (X:Cx)(Nh:Ia)(σ:St)(Q:Bool->Hp->Prop)(b:Bool)(s':K3):Prop:=∃H',Inv X Nh σ H' s'/\Q b H'
def AP (X:Cx)(Nh:Ia)(σ:St)(Q:List V->Hp->Prop)(us:Ih)(s':K3):Prop:=∃vs H',Inv X Nh σ H' s'/\Vals vs us/\Q vs H'
def SP (X:Cx)(Nh:Ia)(D:Ends)(f:Flow)(s':K3):Prop:=
 match f with
 | .next=>∃σ' H',Inv X Nh σ' H' s'/\D.nx σ' H'
 | .brk=>∃σ' H',Inv X Nh σ' H' s'/\D.bk σ' H'
 | .cont=>∃σ' H',Inv X Nh σ' H' s'/\D.ct σ' H'
 | .ret u=>∃v σ' H',Inv X Nh σ' H' s'/\RelV v u/\D.rt v H'
def PE (X:Cx)(e:Expr)(t:TE):Prop:=
 ∀(Nh:Ia) (s:K3) (σ:St) (H:Hp) (Q:VK),Inv X Nh σ H s->t σ H Q->wpAny (model X.prog X.w) X.A (eval e X.env) (EP X Nh σ Q) X.xe s
def PT (X:Cx)(e:Expr)(t:TT):Prop:=
 ∀(Nh:Ia) (s:K3) (σ:St) (H:Hp) (Q:Bool->Hp->Prop),Inv X Nh σ H s->t σ H Q->wpAny (model X.prog X.w) X.A (LK e X.env (eval e X.env)) (TP X Nh σ Q) X.xe s
def PW (X:Cx)(e:Expr)(t:TT):Prop:=
 ∀(whole:Sem Value) (Nh:Ia) (s:K3) (σ:St) (H:Hp) (Q:Bool->Hp->Prop),Inv X Nh σ H s->t σ H Q->wpAny (model X.prog X.w) X.A (LK e X.env whole) (TP X Nh σ Q) X.xe s
theorem PW.pt {X:Cx}{e:Expr}{t:TT}(h:PW X e t):PT X e t:=h _
def PA (X:Cx)(es:Ii)(t:TA):Prop:=
 ∀(pos:Pos) (Nh:Ia) (s:K3) (σ:St) (H:Hp) (Q:List V->Hp->Prop),Inv X Nh σ H s->t σ H Q->wpAny (model X.prog X.w) X.A (spliced (Lb pos (K2 es X.env))) (AP X Nh σ Q) X.xe s
def PS (X:Cx)(st:Stmt)(t:TS):Prop:=
 ∀(Nh:Ia) (s:K3) (σ:St) (H:Hp) (D:Ends),Inv X Nh σ H s->t D σ H->wpAny (model X.prog X.w) X.A (exec st X.env) (SP X Nh D) X.xe s
def iy (X:Cx)(st:List Stmt)(t:TS):Prop:=
 ∀(Nh:Ia) (s:K3) (σ:St) (H:Hp) (D:Ends),Inv X Nh σ H s->t D σ H->wpAny (model X.prog X.w) X.A (execs st X.env) (SP X Nh D) X.xe s
theorem aQ {α:Type}{t:Sem α}{Q Q':α->K3->Prop}{M:Model}{A:La}{E:Value->K3->Prop}{s:K3}(h:wpAny M A t Q E s)(hQ:∀a s,Q a s->Q' a s):wpAny M A t Q' E s:=Lf h hQ λ_ _ x=>x
section
variable {X:Cx}
def HP (i:Nat):TE:=λσ H Q=>∃v,σ[i]?=some (some v)/\Q v H
def tC (v:V):TE:=λ_ H Q=>Q v H
theorem ba {i:Nat}{x:Str}{pos:Pos}(hN:X.N[i]?=some x)(hv:bZ X.env.scope x)(hd:Nr x:=by decide)(Np:NA x:=by decide):PE X (.Name x pos) (HP i):=by
 intro Nh s σ H Q I h
 obtain⟨v,e,h⟩:=h
 obtain⟨m,hn,hl⟩:=I.loc
 obtain⟨u,r,l⟩:=hl i x v hN e hv
 have fin:EP X Nh σ Q u s:=⟨v,H,I,r,h⟩
 rcases l with⟨hk,hm⟩ | ⟨hk,c,hc,OG⟩
 ·exact wpAny_Name (wpAny_loadName_local I.ok.kind hk hn hm fin) hd
 ·rcases hk with hk | hk
  ·exact wpAny_Name (wpAny_loadName_cell I.ok.kind hk hc OG fin) hd
  ·exact wpAny_Name (wpAny_loadName_free I.ok.kind hk hc OG fin Np) hd
theorem eU {i j pos}:PE X (.Constant (.int i) j pos) (tC (.int i)):=λ_ _ _ H _ I h=>wpAny_Constant_int ⟨.int i,H,I.tok _,⟨_,rfl⟩,h⟩
theorem uY {b j pos}:PE X (.Constant (.bool b) j pos) (tC (.bl b)):=λ_ _ _ H _ I h=>Constant_bool ⟨.bl b,H,I,rfl,h⟩
theorem Bz {j pos}:PE X (.Constant .none j pos) (tC .Nu):=λ_ _ _ H _ I h=>Constant_none ⟨.Nu,H,I,rfl,h⟩
theorem BD {x j pos}:PE X (.Constant (.str x) j pos) (tC (.str x)):=λ_ _ _ H _ I h=>Calls.Constant_str ⟨.str x,H,I.tok _,⟨_,rfl⟩,h⟩
def Gl (X:Cx)(x:Str):Prop:=X.env.kindOf x=some .globalImplicit
theorem h8 {E:Value->K3->Prop}{Nh:Ia}{s:K3}{σ:St}{H:Hp}{x:Str}{u:Value}{pos:Pos}{Q:Value->K3->Prop}(I:Inv X Nh σ H s)(hg:Gl X x)(hm:X.mg x=some u)(h:Q u s)
 (hd:Nr x:=by decide):wpAny (model X.prog X.w) X.A (eval (.Name x pos) X.env) Q E s:=
 Calls.Name_function_global I.ok.kind hg (Calls.loadGlobal_global (by rw[I.ok.glob];exact I.mod.glob.keeps I.bk) hm h) hd
theorem jU {E:Value->K3->Prop}{Nh:Ia}{s:K3}{σ:St}{H:Hp}{x:Str}{u:Value}{pos:Pos}{Q:Value->K3->Prop}(I:Inv X Nh σ H s)(hg:Gl X x)(hm:X.mg x=none)(hv:Lo x=some u)(h:Q u s)
 (hn:x≠"__name__":=by decide) (hd:Nr x:=by decide):wpAny (model X.prog X.w) X.A (eval (.Name x pos) X.env) Q E s:=by
 obtain⟨mb,h1,h2⟩:=I.mod.blt
 exact Calls.Name_function_global I.ok.kind hg (Calls.loadGlobal_builtin (by rw[I.ok.glob];exact I.mod.glob.keeps I.bk) hm (by rw[I.ok.blt];exact h1.keeps I.bk) ((h2 x hn).trans hv) h) hd
theorem iS {x:Str}{v:V}{u:Value}{pos:Pos}(hg:Gl X x)(hm:X.mg x=some u)(r:RelV v u)(hd:Nr x:=by decide):PE X (.Name x pos) (tC v):=
 λ_ _ _ H _ I h=>h8 I hg hm ⟨v,H,I,r,h⟩ hd
theorem tE {x:Str}{v:V}{u:Value}{pos:Pos}(hg:Gl X x)(hm:X.mg x=none)(hv:Lo x=some u)(r:RelV v u)(hn:x≠"__name__":=by decide)(hd:Nr x:=by decide):PE X (.Name x pos) (tC v):=
 λ_ _ _ H _ I h=>jU I hg hm hv ⟨v,H,I,r,h⟩ hn hd
variable {a b:Expr}{ta tb:TE}{pos:Pos}
def PC (X:Cx)(op:CmpOp)(a b:Expr)(t:TE):Prop:=
 ∀(Nh:Ia) (s:K3) (σ:St) (H:Hp) (Q:VK),Inv X Nh σ H s->t σ H Q->
  wpAny (model X.prog X.w) X.A (eval a X.env) (λv s₁=>wpAny (model X.prog X.w) X.A (eval b X.env) (λu s₂=>wpAny (model X.prog X.w) X.A (Lj op v u) (EP X Nh σ Q) X.xe s₂) X.xe s₁) X.xe s
def tB (t:TE):TT:=λσ H Q=>t σ H λx H1=>∃c,x= .bl c/\Q c H1
theorem C7 {op:CmpOp}{t:TE}(h:PC X op a b t)(h1:Lr op b=false:=by first | exact PK _ (by decide) (by decide) | rfl):PE X (.Compare a [op] [b] pos) t:=λNh s σ H Q I hw=>wpAny_Compare1 (h Nh s σ H Q I hw) h1
theorem wU {op:CmpOp}{t:TE}(h:PC X op a b t)(h1:Lr op b=false:=by first | exact PK _ (by decide) (by decide) | rfl):PT X (.Compare a [op] [b] pos) (tB t):=by
 intro Nh s σ H Q I hw
 refine wpAny_isTrue_Compare1 (aQ (h Nh s σ H _ I hw) λv s1 h1=>aQ h1 λu s2 h2=>aQ h2 λc s3 ⟨x,H1,I1,r1,q1⟩=>?_) h1
 obtain⟨d,rfl,q⟩:=q1
 cases r1
 exact Le ⟨H1,I1,q⟩
theorem BI {e:Expr}{t:TE}(h:PE X e t)(he:∀whole,LK e X.env whole=(do let v ← whole;LL e.pos;Lk [v] (Mb v)):=by intro _;rfl):PT X e (tB t):=by
 intro Nh s σ H Q I hw
 refine isTrue_plain (aQ (h Nh s σ H _ I hw) λv s1 ⟨x,H1,I1,r1,q1⟩=>?_) (he _)
 obtain⟨d,rfl,q⟩:=q1
 cases r1
 exact Le ⟨H1,I1,q⟩
variable {tA tB':TT}{rest:Ii}
def Hq (t u:TT):TT:=λσ H Q=>t σ H λc H1=>if c=true then u σ H1 Q else Q false H1
def tOr (t u:TT):TT:=λσ H Q=>t σ H λc H1=>if c=true then Q true H1 else u σ H1 Q
def HM (t:TT):TT:=λσ H Q=>t σ H λc H1=>Q (!c) H1
theorem tJ (ha:PT X a tA):PW X (.BoolOp .And [a] pos) tA:=by
 intro wh Nh s σ H Q I h
 refine isTrue_and (aQ (ha Nh s σ H Q I h) λc s1 e=>?_)
 cases c with
 | true=>exact isTrue_and_nil e
 | false=>exact e
theorem D7 (ha:PT X a tA):PW X (.BoolOp .Or [a] pos) tA:=by
 intro wh Nh s σ H Q I h
 refine isTrue_or (aQ (ha Nh s σ H Q I h) λc s1 e=>?_)
 cases c with
 | false=>exact isTrue_or_nil e
 | true=>exact e
theorem xJ (ha:PT X a tA)(hb:PW X (.BoolOp .And (b::rest) pos) tB'):PW X (.BoolOp .And (a::b::rest) pos) (Hq tA tB'):=by
 intro wh Nh s σ H Q I h
 refine isTrue_and (aQ (ha Nh s σ H _ I h) λc s1 ⟨H1,I1,q1⟩=>?_)
 cases c with
 | true=>exact hb wh Nh s1 σ H1 Q I1 q1
 | false=>exact⟨H1,I1,q1⟩
theorem FT (ha:PT X a tA)(hb:PW X (.BoolOp .Or (b::rest) pos) tB'):PW X (.BoolOp .Or (a::b::rest) pos) (tOr tA tB'):=by
 intro wh Nh s σ H Q I h
 refine isTrue_or (aQ (ha Nh s σ H _ I h) λc s1 ⟨H1,I1,q1⟩=>?_)
 cases c with
 | true=>exact⟨H1,I1,q1⟩
 | false=>exact hb wh Nh s1 σ H1 Q I1 q1
theorem B5 (ha:PT X a tA):PT X (.UnaryOp .Not a pos) (HM tA):=by
 intro Nh s σ H Q I h
 exact isTrue_not (ha Nh s σ H (λc H1=>Q (!c) H1) I h)
def F8 (ta tb:TE):TE:=λσ H Q=>ta σ H λx H1=>∃c,x= .bl c/\if c=true then tb σ H1 Q else Q (.bl false) H1
def Hx (ta tb:TE):TE:=λσ H Q=>ta σ H λx H1=>∃c,x= .bl c/\if c=true then Q (.bl true) H1 else tb σ H1 Q
def Fh (ta:TE):TE:=λσ H Q=>ta σ H λx H1=>∃c,x= .bl c/\Q (.bl (!c)) H1
theorem D5 {op}{t:TE}(h:PE X a t):PE X (.BoolOp op [a] pos) t:=λNh s σ H Q I hw=>BoolOp_one (h Nh s σ H Q I hw)
theorem Bx (ha:PE X a ta)(hb:PE X (.BoolOp .And (b::rest) pos) tb):PE X (.BoolOp .And (a::b::rest) pos) (F8 ta tb):=by
 intro Nh s σ H Q I h
 refine BoolOp_and (aQ (ha Nh s σ H _ I h) λv s1 ⟨x,H1,I1,r1,q1⟩=>?_)
 obtain⟨c,rfl,q1⟩:=q1
 cases r1
 refine Le ?_
 cases c with
 | true=>exact hb Nh s1 σ H1 Q I1 q1
 | false=>exact⟨.bl false,H1,I1,rfl,q1⟩
theorem Fx (ha:PE X a ta)(hb:PE X (.BoolOp .Or (b::rest) pos) tb):PE X (.BoolOp .Or (a::b::rest) pos) (Hx ta tb):=by
 intro Nh s σ H Q I h
 refine BoolOp_or (aQ (ha Nh s σ H _ I h) λv s1 ⟨x,H1,I1,r1,q1⟩=>?_)
 obtain⟨c,rfl,q1⟩:=q1
 cases r1
 refine Le ?_
 cases c with
 | false=>exact hb Nh s1 σ H1 Q I1 q1
 | true=>exact⟨.bl true,H1,I1,rfl,q1⟩
theorem B9 (ha:PE X a ta):PE X (.UnaryOp .Not a pos) (Fh ta):=by
 intro Nh s σ H Q I h
 refine UnaryOp_ (aQ (ha Nh s σ H _ I h) λv s1 ⟨x,H1,I1,r1,q1⟩=>?_)
 obtain⟨c,rfl,q1⟩:=q1
 cases r1
 exact not_of (Le ⟨.bl (!c),H1,I1,rfl,q1⟩)
def tIf (t:TT)(ta tb:TE):TE:=λσ H Q=>t σ H λc H1=>if c=true then ta σ H1 Q else tb σ H1 Q
theorem yf {c:Expr}(hc:PT X c tA)(ha:PE X a ta)(hb:PE X b tb):PE X (.IfExp c a b pos) (tIf tA ta tb):=by
 intro Nh s σ H Q I h
 refine wpAny_IfExp (aQ (hc Nh s σ H _ I h) λd s1 ⟨H1,I1,q1⟩=>?_)
 cases d with
 | true=>exact ha Nh s1 σ H1 Q I1 q1
 | false=>exact hb Nh s1 σ H1 Q I1 q1
end
def bt (K:MP)(H:Hp)(a:Addr)(xs:List V):Prop:=
 Rd H a (.lst xs)∨
  ∃(o:Obj) (Nj:Array Value) (n:Nat),K.lookup a=some o/\o.cls= .type "list"/\o.dict=none/\o.data= .seq Nj n/\Nj.size<=K4/\Vals xs Nj.toList
def ei (K:MP)(H:Hp)(a:Addr)(xs:List V):Prop:=
 Rd H a (.tup xs)∨
  ∃(o:Obj) (Nj:Array Value) (n:Nat),K.lookup a=some o/\o.cls= .type "tuple"/\o.data= .seq Nj n/\Nj.size<=K4/\Vals xs Nj.toList
def Hy:Value->Option V
 | .none=>some .Nu
 | .bool b=>some (.bl b)
 | .int i _=>some (.int i)
 | .str x _=>some (.str x)
 | .bytes b _=>some (.Py b)
 | .float b _=>some (.Sh b)
 | .ref a=>some (.ref a)
 | .type n=>some (.ty n)
 | _=>none
theorem RelV.abs {x:V}{u:Value}(r:RelV x u):Hy u=some x:=by
 cases x with
 | Nu=>cases r;rfl
 | bl _=>cases r;rfl
 | int _=>obtain⟨t,rfl⟩:=r;rfl
 | str _=>obtain⟨t,rfl⟩:=r;rfl
 | Py _=>obtain⟨t,rfl⟩:=r;rfl
 | Sh _=>obtain⟨t,rfl⟩:=r;rfl
 | ref _=>cases r;rfl
 | ty _=>cases r;rfl
theorem RelV.inj {x y:V}{u:Value}(r:RelV x u)(q:RelV y u):x=y:=Option.some.inj (r.abs.symm.trans q.abs)
theorem Vals.inj:∀{xs ys:List V} {us:Ih},Vals xs us->Vals ys us->xs=ys
 | _,_,_,.nil,.nil=>rfl
 | _,_,_,.cons r t,.cons r' t'=>by rw[r.inj r',Vals.inj t t']
section
variable {X:Cx}{Nh:Ia}{σ:St}{H:Hp}{s:K3}{a:Addr}{xs ys:List V}
theorem bt.of {K:MP}(h:H a=some (.lst xs)):bt K H a xs:=.inl (.inl h)
theorem ei.of {K:MP}(h:H a=some (.tup xs)):ei K H a xs:=.inl (.inl h)
theorem Inv.list (I:Inv X Nh σ H s)(h:bt X.K H a xs):∃Nj:Ih,Vals xs Nj/\PlainL s.heap a Nj.toArray/\xs.length<=K4:=by
 rcases h with h | ⟨o,Nj,n,hk,hc,hd,hs,hz,r⟩
 ·obtain⟨z,Nj,n,r,e⟩:=h.ok I.Nm
  exact⟨Nj,r,⟨_,n,e,rfl,rfl,rfl⟩,z⟩
 ·refine⟨Nj.toList,r,⟨o,n,I.eJ a o hk,hc,hd,by simpa using hs⟩,?_⟩
  have e:=r.length
  simp only[Ik] at e
  omega
theorem Inv.tuple (I:Inv X Nh σ H s)(h:ei X.K H a xs):∃Nj:Ih,Vals xs Nj/\IsTup s.heap a Nj.toArray/\xs.length<=K4:=by
 rcases h with h | ⟨o,Nj,n,hk,hc,hs,hz,r⟩
 ·obtain⟨z,Nj,r,p⟩:=h.ok I.Nm
  exact⟨Nj,r,p,z⟩
 ·refine⟨Nj.toList,r,⟨o,I.eJ a o hk,hc,n,by simpa using hs⟩,?_⟩
  have e:=r.length
  simp only[Ik] at e
  omega
theorem Inv.qD (I:Inv X Nh σ H s)(h:bt X.K H a xs)(h':bt X.K H a ys):xs=ys:=by
 obtain⟨Nj,r,⟨o,n,e,_,_,d⟩,_⟩:=I.list h
 obtain⟨its',r',⟨o',n',e',_,_,d'⟩,_⟩:=I.list h'
 rw[e] at e';cases e'
 rw[d] at d'
 injection d' with d1 _
 have:Nj=its':=by simpa using congrArg Array.toList d1
 subst this
 exact r.inj r'
theorem Inv.vV (I:Inv X Nh σ H s)(h:ei X.K H a xs)(h':ei X.K H a ys):xs=ys:=by
 obtain⟨Nj,r,⟨o,e,_,n,d⟩,_⟩:=I.tuple h
 obtain⟨its',r',⟨o',e',_,n',d'⟩,_⟩:=I.tuple h'
 rw[e] at e';cases e'
 rw[d] at d'
 injection d' with d1 _
 have:Nj=its':=by simpa using congrArg Array.toList d1
 subst this
 exact r.inj r'
end
abbrev Cx.ia (X:Cx)(E:Value->K3->Prop):Cx:={X with xe:=E}
abbrev Cx.cO (X:Cx):Cx:=X.ia λ_ _=>False
theorem Cx.Ok.ia {X:Cx}(ok:X.Ok)(E:Value->K3->Prop):(X.ia E).Ok:=
 ⟨ok.mod,ok.kind,ok.glob,ok.blt,ok.above,ok.inj,ok.has,ok.QM,ok.hd,ok.frames,ok.NG,ok.Q5,ok.bs,ok.PH,ok.OI,ok.OD,ok.N5,ok.Qq⟩
theorem Cx.Ok.fh {X:Cx}{E:Value->K3->Prop}(ok:(X.ia E).Ok):X.Ok:=
 ⟨ok.mod,ok.kind,ok.glob,ok.blt,ok.above,ok.inj,ok.has,ok.QM,ok.hd,ok.frames,ok.NG,ok.Q5,ok.bs,ok.PH,ok.OI,ok.OD,ok.N5,ok.Qq⟩
section
variable {X:Cx}{Nh:Ia}{σ:St}{H:Hp}{s:K3}{E:Value->K3->Prop}
theorem Inv.ia (I:Inv X Nh σ H s)(E:Value->K3->Prop):Inv (X.ia E) Nh σ H s:=⟨I.ok.ia E,I.os,I.bare,I.base,I.loc,I.cell,I.free,I.NF,I.pin,I.Nm,I.len⟩
theorem Inv.fh (I:Inv (X.ia E) Nh σ H s):Inv X Nh σ H s:=⟨I.ok.fh,I.os,I.bare,I.base,I.loc,I.cell,I.free,I.NF,I.pin,I.Nm,I.len⟩
theorem SP.fh {D:Ends}{f:Flow}{s':K3}(h:SP (X.ia E) Nh D f s'):SP X Nh D f s':=by
 cases f with
 | next=>obtain⟨σ',H',I,q⟩:=h;exact⟨σ',H',I.fh,q⟩
 | brk=>obtain⟨σ',H',I,q⟩:=h;exact⟨σ',H',I.fh,q⟩
 | cont=>obtain⟨σ',H',I,q⟩:=h;exact⟨σ',H',I.fh,q⟩
 | ret u=>obtain⟨v,σ',H',I,r,q⟩:=h;exact⟨v,σ',H',I.fh,r,q⟩
theorem iy.cO {st:List Stmt}{t:TS}(h:iy X.cO st t):iy X st t:=λNh s σ H D I hw=>
 Lf (h Nh s σ H D (I.ia _) hw) (λ_ _ q=>q.fh) λ_ _ z=>Iy z
end
section
variable {X:Cx}{st:Stmt}{rest:List Stmt}{t u:TS}{e:Expr}{te:TE}{pos:Pos}
def Gg:TS:=λD σ H=>D.nx σ H
def Hj (t u:TS):TS:=λD σ H=>t {D with nx:=u D} σ H
theorem Av:iy X [] Gg:=λ_ _ σ H _ I h=>Lx ⟨σ,H,I,h⟩
theorem gh (h1:PS X st t)(h2:iy X rest u):iy X (st::rest) (Hj t u):=by
 intro Nh s σ H D I h
 refine Lm (aQ (h1 Nh s σ H {D with nx:=u D} I h) λf s1 q=>?_)
 cases f with
 | next=>
   obtain⟨σ',H',I',q⟩:=q
   exact h2 Nh s1 σ' H' D I' q
 | ret v=>exact q
 | brk=>exact q
 | cont=>exact q
theorem sX (h1:PS X st t):iy X [st] t:=by
 intro Nh s σ H D I h
 refine Lm (aQ (h1 Nh s σ H D I h) λf s1 q=>?_)
 cases f with
 | next=>exact Lx q
 | ret v=>exact q
 | brk=>exact q
 | cont=>exact q
def FH:TS:=λD σ H=>D.ct σ H
theorem rZ:PS X (.Continue pos) FH:=λ_ _ σ H _ I h=>wpAny_Continue ⟨σ,H,I,h⟩
theorem Inv.quiet {Nh:Ia}{σ:St}{H:Hp}{s:K3}(I:Inv X Nh σ H s):interactive X.env=false:=by simp[interactive,I.ok.kind]
def EG (te:TE):TS:=λD σ H=>te σ H λ_ H1=>D.nx σ H1
theorem dY (he:PE X e te)(hs:K9 e none pos.line X.env=pure false:=by rfl):PS X (.Expr e pos) (EG te):=by
 intro Nh s σ H D I h
 exact Mc (aQ (he Nh s σ H _ I h) λv s1 ⟨x,H1,I1,r1,q1⟩=>⟨σ,H1,I1,q1⟩) I.quiet hs
def HK (te:TE):TS:=λD σ H=>te σ H D.rt
theorem fW (he:PE X e te):PS X (.Return (some e) pos) (HK te):=by
 intro Nh s σ H D I h
 exact wpAny_Return_some (aQ (he Nh s σ H _ I h) λv s1 ⟨x,H1,I1,r1,q1⟩=>⟨x,σ,H1,I1,r1,q1⟩)
def HJ (c:TT)(t u:TS):TS:=λD σ H=>c σ H λb H1=>if b=true then t D σ H1 else u D σ H1
theorem Ab {c:Expr}{a b:List Stmt}{tc:TT}(hc:PT X c tc)(ha:iy X a t)(hb:iy X b u):PS X (.If c a b pos) (HJ tc t u):=by
 intro Nh s σ H D I h
 refine wpAny_If (aQ (hc Nh s σ H _ I h) λd s1 ⟨H1,I1,q1⟩=>?_)
 cases d with
 | true=>exact ha Nh s1 σ H1 D I1 q1
 | false=>exact hb Nh s1 σ H1 D I1 q1
end
abbrev TG:=V->St->Hp->(St->Hp->Prop)->Prop
abbrev nK:=List V->St->Hp->(St->Hp->Prop)->Prop
def PG (X:Cx)(target:Expr)(t:TG):Prop:=
 ∀(Nh:Ia) (s:K3) (σ:St) (H:Hp) (v:V) (u:Value) (Q:St->Hp->Prop),Inv X Nh σ H s->RelV v u->t v σ H Q->
  wpAny (model X.prog X.w) X.A (Lp target X.env u) (λ_ s'=>∃σ' H',Inv X Nh σ' H' s'/\Q σ' H') X.xe s
def wQ (X:Cx)(ts:Ii)(t:nK):Prop:=
 ∀(Nh:Ia) (s:K3) (σ:St) (H:Hp) (vs:List V) (us:Ih) (Q:St->Hp->Prop),Inv X Nh σ H s->Vals vs us->t vs σ H Q->
  wpAny (model X.prog X.w) X.A (assignInOrder ((Lg ts X.env).map (·.2)) us) (λ_ s'=>∃σ' H',Inv X Nh σ' H' s'/\Q σ' H') X.xe s
abbrev pW:=V->V->V->Hp->(Hp->Prop)->Prop
def yN (X:Cx)(t:pW):Prop:=
 ∀(Nh:Ia) (s:K3) (σ:St) (H:Hp) (o i v:V) (ov iv u:Value) (Q:Hp->Prop),Inv X Nh σ H s->RelV o ov->RelV i iv->RelV v u->t o i v H Q->
  wpAny (model X.prog X.w) X.A (LR ov iv u) (λ_ s'=>∃H',Inv X Nh σ H' s'/\Q H') X.xe s
abbrev tw:=V->V->Hp->VK->Prop
def zN (X:Cx)(op:Mg)(t:tw):Prop:=
 ∀(Nh:Ia) (s:K3) (σ:St) (H:Hp) (x y:V) (v u:Value) (Q:VK),Inv X Nh σ H s->RelV x v->RelV y u->t x y H Q->
  wpAny (model X.prog X.w) X.A (inplaceOp op v u) (EP X Nh σ Q) X.xe s
section
variable {X:Cx}{pos:Pos}
variable {e:Expr}{te:TE}{i:Nat}{x:Str}
def pG (i:Nat):TG:=λv σ H Q=>Q (σ.set i (some v)) H
theorem eu (hN:X.N.Nodup)(hi:X.N[i]?=some x)(hx:Loc X.env.scope x)(hf:X.fn x=true∨X.env.scope.names.lookup x=some .local:=by first | exact .inl rfl | exact .inr rfl | assumption):PG X (.Name x pos) (pG i):=by
 intro Nh s σ H v u Q I r h
 exact wpAny_assign_Name (ki I hN hi hx r (λs' I'=>⟨_,H,I',h⟩) hf)
def HI:nK:=λvs σ H Q=>vs=[]/\Q σ H
def ES (t:TG)(u:nK):nK:=λvs σ H Q=>∃v r,vs=v::r/\t v σ H λσ' H'=>u r σ' H' Q
theorem lU:wQ X [] HI:=by
 intro Nh s σ H vs us Q I r h
 obtain⟨e,h⟩:=h
 subst e
 cases r
 exact assignInOrder_nil ⟨σ,H,I,h⟩
theorem eh {es:Ii}{t:TG}{u:nK}(h1:PG X e t)(h2:wQ X es u)
 (hs:(Lg (e::es) X.env).map (·.2)=Lp e X.env::(Lg es X.env).map (·.2):=by rfl):wQ X (e::es) (ES t u):=by
 intro Nh s σ H vs us Q I r h
 obtain⟨v,vr,e1,h⟩:=h
 subst e1
 cases r with
 | cons r rr=>
   rw[hs]
   refine assignInOrder_cons (aQ (h1 Nh s σ H _ _ _ I r h) λ_ s1 ⟨σ1,H1,I1,q1⟩=>?_)
   exact h2 Nh s1 σ1 H1 _ _ Q I1 rr q1
def HG (K:MP)(n:Nat)(t:nK):TG:=λv σ H Q=>∃a xs,v= .ref a/\ei K H a xs/\xs.length=n/\t xs σ H Q
theorem xI {es:Ii}{k:Nat}{t:nK}{n:Nat}(hc:X.calm=true)(h:wQ X es t)
 (hn:(Lg es X.env).length=n:=by rfl) (OA:(Lg es X.env).findIdx? (·.1)=none:=by rfl):PG X (.Tuple es k pos) (HG X.K n t):=by
 intro Nh s σ H v u Q I r hw
 obtain⟨a,xs,e1,hq,hl,hw⟩:=hw
 subst e1
 cases r
 obtain⟨Nj,rv,ht,hz⟩:=I.tuple hq
 refine assign_Tuple_tuple (I.ok.hd hc) ht (by simp[hn,← hl,rv.length]) OA λh' hx=>?_
 have I1:Inv X Nh σ H {s with heap:=h'}:=I.kept (t':=s.toks) λb o e=>hx b o (Kt (Mw e)) e
 exact h Nh _ σ H xs _ Q I1 (by simpa using rv) hw
def HR (to ti:TE)(t:pW):TG:=λv σ H Q=>to σ H λo H1=>ti σ H1 λi H2=>t o i v H2 λH3=>Q σ H3
theorem ng {o i:Expr}{to ti:TE}{t:pW}(ho:PE X o to)(hi:PE X i ti)(hs:yN X t)
 (ha:∀v,Lp (.Subscript o i pos) X.env v=(do
  let ov ← Lk [v] (eval o X.env)
  let iv ← Lk [v,ov] (eval i X.env)
  LL pos
  Lk [v,ov,iv] (LR ov iv v)
  L5 [v,ov,iv] []):=by intro _;rfl):PG X (.Subscript o i pos) (HR to ti t):=by
 intro Nh s σ H v u Q I r h
 rw[ha]
 refine K6 (Ln (aQ (ho Nh s σ H _ I h) λov s1 ⟨x,H1,I1,r1,q1⟩=>?_))
 refine K6 (Ln (aQ (hi Nh s1 σ H1 _ I1 q1) λiv s2 ⟨y,H2,I2,r2,q2⟩=>?_))
 refine K6 (L3 (K6 (Ln (aQ (hs Nh s2 σ H2 x y v ov iv u _ I2 r1 r2 r q2) λ_ s3 ⟨H3,I3,q3⟩=>?_))))
 exact wpAny_release ⟨σ,H3,I3,q3⟩
def yB (te:TE)(g:TG):TS:=λD σ H=>te σ H λx H1=>g x σ H1 D.nx
theorem iw {tg:Expr}{g:TG}(he:PE X e te)(hg:PG X tg g)(hs:Ls [tg] e pos.line X.env=pure false:=by rfl)(hw:Lu [tg] e X.env=pure none:=by rfl)
 (h1:(Lg [tg] X.env).map (·.2)=[Lp tg X.env]:=by rfl):PS X (.Assign [tg] e pos) (yB te g):=by
 intro Nh s σ H D I h
 refine wpAny_Assign_stores (aQ (he Nh s σ H _ I h) λv s1 ⟨x,H1,I1,r1,q1⟩=>?_) hs hw
 rw[h1]
 exact aQ (hg Nh s1 σ H1 x v _ I1 r1 q1) λ_ s2 q=>q
theorem eT {pos':Pos}(hN:X.N.Nodup)(hi:X.N[i]?=some x)(hx:Loc X.env.scope x)(he:PE X e te)(hs:K9 e (some (.Name x pos')) pos.line X.env=pure false:=by rfl)(hf:X.fn x=true∨X.env.scope.names.lookup x=some .local:=by first | exact .inl rfl | exact .inr rfl | assumption):
 PS X (.Assign [.Name x pos'] e pos) (yB te (pG i)):=by
 intro Nh s σ H D I h
 refine wpAny_Assign_Name (aQ (he Nh s σ H _ I h) λv s1 ⟨y,H1,I1,r1,q1⟩=>?_) hs
 exact ki I1 hN hi hx r1 (λs2 I2=>⟨_,H1,I2,q1⟩) hf
def HB (i:Nat)(te:TE)(ti:tw):TS:=λD σ H=>∃x,σ[i]?=some (some x)/\te σ H λy H1=>ti x y H1 λz H2=>D.nx (σ.set i (some z)) H2
theorem vH {op:Mg}{ti:tw}{pos':Pos}(hN:X.N.Nodup)(hi:X.N[i]?=some x)(hx:Loc X.env.scope x)(he:PE X e te)(ho:zN X op ti)(hf:X.fn x=true∨X.env.scope.names.lookup x=some .local:=by first | exact .inl rfl | exact .inr rfl | assumption):
 PS X (.AugAssign (.Name x pos') op e pos) (HB i te ti):=by
 intro Nh s σ H D I h
 obtain⟨v,e1,h⟩:=h
 obtain⟨m,hn,hl⟩:=I.loc
 have vis:bZ X.env.scope x:=by rcases hx with k | k;exact .inl k;exact .inr (.inl k)
 obtain⟨u,r,l⟩:=hl i x v hi e1 vis
 refine wpAny_AugAssign_Name ?_
 have go:wpAny (model X.prog X.w) X.A (eval e X.env) (λw s₂=>wpAny (model X.prog X.w) X.A (inplaceOp op u w) (λr s₃=>wpAny (model X.prog X.w) X.A (storeName X.env x r) (λ_=>SP X Nh D .next) X.xe s₃) X.xe s₂) X.xe s:=by
  refine aQ (he Nh s σ H _ I h) λw s1 ⟨y,H1,I1,r1,q1⟩=>?_
  refine aQ (ho Nh s1 σ H1 v y u w _ I1 r r1 q1) λz s2 ⟨zv,H2,I2,r2,q2⟩=>?_
  exact ki I2 hN hi hx r2 (λs3 I3=>⟨_,H2,I3,q2⟩) hf
 rcases l with⟨hk,hm⟩ | ⟨hk,c,hc,OG⟩
 ·exact wpAny_loadName_local I.ok.kind hk hn hm go
 ·rcases hk with hk | hk
  ·exact wpAny_loadName_cell I.ok.kind hk hc OG go
  ·rcases hx with k | k
   ·have:X.env.scope.names.lookup x=some .free:=hk
    rw[k] at this;cases this
   ·have:X.env.scope.names.lookup x=some .free:=hk
    rw[k] at this;cases this
def FA (to ti te:TE)(Qt:V->V->Hp->VK->Prop)(tip:tw)(Qr:pW):TS:=λD σ H=>to σ H λo H1=>ti σ H1 λi H2=>Qt o i H2 λx H3=>te σ H3 λy H4=>tip x y H4 λz H5=>Qr o i z H5 λH6=>D.nx σ H6
def Cd (X:Cx)(t:V->V->Hp->VK->Prop):Prop:=
 ∀(Nh:Ia) (s:K3) (σ:St) (H:Hp) (o i:V) (ov iv:Value) (Q:VK),Inv X Nh σ H s->RelV o ov->RelV i iv->t o i H Q->
  wpAny (model X.prog X.w) X.A (LS ov iv) (EP X Nh σ Q) X.xe s
theorem A6 {o i:Expr}{to ti:TE}{Qt:V->V->Hp->VK->Prop}{tip:tw}{Qr:pW}{op:Mg}{Ra:Pos}(ho:PE X o to)(hi:PE X i ti)(hg:Cd X Qt)(he:PE X e te)(hp:zN X op tip)(hs:yN X Qr)
 (ha:∀ov iv new,augStore i ov iv new=(do Lk [new,ov,iv] (LR ov iv new);L5 [new,ov,iv] [];pure .next):=by intros;rfl):PS X (.AugAssign (.Subscript o i Ra) op e pos) (FA to ti te Qt tip Qr):=by
 intro Nh s σ H D I h
 refine wpAny_AugAssign_SubscriptAny (aQ (ho Nh s σ H _ I h) λov s1 ⟨x1,H1,I1,r1,q1⟩=>?_) ha
 refine aQ (hi Nh s1 σ H1 _ I1 q1) λiv s2 ⟨x2,H2,I2,r2,q2⟩=>?_
 refine aQ (hg Nh s2 σ H2 x1 x2 ov iv _ I2 r1 r2 q2) λold s3 ⟨x3,H3,I3,r3,q3⟩=>?_
 refine aQ (he Nh s3 σ H3 _ I3 q3) λv s4 ⟨x4,H4,I4,r4,q4⟩=>?_
 refine aQ (hp Nh s4 σ H4 x3 x4 old v _ I4 r3 r4 q4) λnew s5 ⟨x5,H5,I5,r5,q5⟩=>?_
 exact aQ (hs Nh s5 σ H5 x1 x2 x5 ov iv new _ I5 r1 r2 r5 q5) λ_ s6 ⟨H6,I6,q6⟩=>⟨σ,H6,I6,q6⟩
def He (f:Int->Int->Int):tw:=λx y H Q=>∃i j,x= .int i/\y= .int j/\Q (.int (f i j)) H
theorem xM:zN X .Add (He λi j=>i + j):=by
 intro Nh s σ H x y v u Q I r1 r2 h
 obtain⟨i,j,e1,e2,q⟩:=h
 subst e1;subst e2
 obtain⟨t,rfl⟩:=r1
 obtain⟨t',rfl⟩:=r2
 exact iadd_int ⟨.int _,H,I.tok _,⟨_,rfl⟩,q⟩
theorem Ck:zN X .Sub (He λi j=>i - j):=by
 intro Nh s σ H x y v u Q I r1 r2 h
 obtain⟨i,j,e1,e2,q⟩:=h
 subst e1;subst e2
 obtain⟨t,rfl⟩:=r1
 obtain⟨t',rfl⟩:=r2
 exact isub_int ⟨.int _,H,I.tok _,⟨_,rfl⟩,q⟩
end
section
variable {X:Cx}{pos:Pos}
def DJ (c:TT)(tb:TS):TS:=λD σ H=>∃W:Nat->St->Hp->Prop,(∃m,W m σ H)/\∀m σ H,W m σ H->
 c σ H λb H1=>if b=true then∃N:St->Hp->Prop,(∀σ' H',N σ' H'->∃m',m' < m/\W m' σ' H')/\tb {D with nx:=N,ct:=N,bk:=D.nx} σ H1 else D.nx σ H1
theorem p7 {c:Expr}{body:List Stmt}{tc:TT}{tb:TS}(hp:LU (model X.prog X.w) X.A X.env X.xe)(hc:PT X c tc)(hb:iy X body tb):PS X (.While c body [] pos) (DJ tc tb):=by
 intro Nh s σ H D I h
 obtain⟨W,⟨m0,w0⟩,turn⟩:=h
 refine wpAny_While (codeAny_whileLoop (λn s'=>∃σ' H',Inv X Nh σ' H' s'/\W n σ' H') ?_ m0 ⟨σ,H,I,w0⟩)
 rintro n s1 ⟨σ1,H1,I1,w1⟩
 refine Ly hp (aQ (hc Nh s1 σ1 H1 _ I1 (turn n σ1 H1 w1)) λb s2 ⟨H2,I2,q2⟩=>?_)
 cases b with
 | true=>
   obtain⟨N,hN,q2⟩:=q2
   rw[if_pos rfl]
   refine Ly hp (aQ (hb Nh s2 σ1 H2 _ I2 q2) λf s3 q3=>?_)
   cases f with
   | next=>
     obtain⟨σ3,H3,I3,n3⟩:=q3
     obtain⟨m',hm,w3⟩:=hN σ3 H3 n3
     exact⟨m',hm,σ3,H3,I3,w3⟩
   | cont=>
     obtain⟨σ3,H3,I3,n3⟩:=q3
     obtain⟨m',hm,w3⟩:=hN σ3 H3 n3
     exact⟨m',hm,σ3,H3,I3,w3⟩
   | brk=>exact q3
   | ret v=>exact q3
 | false=>
   rw[if_neg Il]
   exact Lx ⟨σ1,H2,I2,q2⟩
end
section
variable {tg:Expr}{P:K7}{w:World}{K:MP}
structure It where
 go:Nat->Hp->Prop
 Q8:Nat->Hp->V->Hp->Prop
 stop:Nat->Hp->Prop
def kz (X:Cx)(Nh:Ia)(H:Hp)(b:Addr):Prop:=
 H b=none/\b≠X.env.locals/\b∉X.fs/\(b∈X.ex∨X.s₀.heap.objs.size<=b)/\(∀x c,X.env.cells.lookup x=some c->c≠b)/\∀p∈X.pn++Nh,p.1≠b
theorem Inv.oz {X:Cx}{Nh:Ia}{σ:St}{H H':Hp}{s:K3}{b:Addr}(I:Inv X Nh σ H s)(hb:s.heap.objs.size<=b)(hn:H' b=none):kz X Nh H' b:=by
 refine⟨hn,KD (Kr I.lt hb),I.Hv hb,.inr (Kq I.sz hb),λx c e z=>?_,λp hp z=>?_⟩
 ·obtain⟨v,q⟩:=I.cell x c e
  exact absurd (Kr q.lt (by rw[z];exact hb)) (Ku _)
 ·exact absurd (Kr (Mw (I.pin p hp).1) (by rw[z];exact hb)) (Ku _)
structure Turn (P:K7) (w:World) (K:MP) (tg:Expr) (J:It) (fp:Ig) (it:Addr) (tn:Nat->Heap->Prop):Prop where
 mem:it∈fp
 obj:∀i h,tn i h->∀b∈fp,∃o,h.get? b=some o/\∀v,o.data≠ .cell v
 keep:∀i h h',tn i h->(∀b∈fp,∀o,h.get? b=some o->h'.get? b=some o)->tn i h'
 item:∀(X:Cx),X.prog=P->X.w=w->X.K=K->X.calm=true->∀(i:Nat) (Nh:Ia) (s:K3) (σ:St) (H:Hp) (E:Value->K3->Prop),Inv X Nh σ H s->(∀b∈fp,kz X Nh H b)->tn i s.heap->J.go i H->
  wpAny (model P w) X.A (pyNext (.ref it)) (λr s1=>∃u,r=some u/\
   wpAny (model P w) X.A (LV tg (.ref it) u) (λ_ s2=>∃x H',Inv X Nh σ H' s2/\RelV x u/\J.Q8 i H x H'/\tn (i + 1) s2.heap/\∀b∈fp,H' b=none) E s1) E s
 done:∀(X:Cx),X.prog=P->X.w=w->X.K=K->X.calm=true->∀(i:Nat) (Nh:Ia) (s:K3) (σ:St) (H:Hp) (E:Value->K3->Prop),Inv X Nh σ H s->(∀b∈fp,kz X Nh H b)->tn i s.heap->J.stop i H->
  wpAny (model P w) X.A (pyNext (.ref it)) (λr s1=>r=none/\Inv X Nh σ H s1) E s
 self:∀(A:La) (i:Nat) (s:K3) (Q:Value->K3->Prop) (E:Value->K3->Prop),tn i s.heap->Q (.ref it) s->wpAny (model P w) A (pyIter (.ref it)) Q E s
abbrev TI:=St->Hp->(It->Hp->Prop)->Prop
def GW (X:Cx)(Nh:Ia)(σ:St)(tg:Expr)(R:It->Hp->Prop)(itv:Value)(s2:K3):Prop:=
 ∃(it:Addr) (fp:Ig) (tn:Nat->Heap->Prop) (J:It) (H':Hp),itv= .ref it/\Inv X Nh σ H' s2/\Turn X.prog X.w X.K tg J fp it tn/\tn 0 s2.heap/\(∀b∈fp,kz X Nh H' b)/\R J H'
def PI (X:Cx)(tg iter:Expr)(wi:TI):Prop:=
 ∀(Nh:Ia) (s:K3) (σ:St) (H:Hp) (R:It->Hp->Prop),Inv X Nh σ H s->wi σ H R->
  wpAny (model X.prog X.w) X.A (eval iter X.env) (λv s1=>wpAny (model X.prog X.w) X.A (pyIter v) (GW X Nh σ tg R) X.xe s1) X.xe s
theorem vg {M:Model}{A:La}{E:Value->K3->Prop}{s:K3}{it:Addr}{u:Value}{o:Obj}{n:String}{vs:Array Value}{Q:Unit->K3->Prop}(ho:s.heap.get? it=some o)(hc:o.cls= .type n)(hd:o.data= .fields vs)
 (hn:["enumerate","zip","dict_itemiterator","dict_reverseitemiterator","odict_iterator","itertools.zip_longest","itertools.pairwise"].contains n=false) (hQ:Q () s):wpAny M A (LV tg (.ref it) u) Q E s:=by
 unfold LV
 cases tg<;>first
  | exact K8 hQ
  | (cases u<;>first
   | exact K8 hQ
   | (refine K6 (wpAny_load ho ?_)
      rw[hc,hd]
      show wpAny M A (if(["enumerate","zip","dict_itemiterator","dict_reverseitemiterator","odict_iterator","itertools.zip_longest","itertools.pairwise"].contains n&&vs[0]?==some (rawInt _))=true then _ else _) Q E s
      rw[if_neg (by intro h;rw[hn,Bool.false_and] at h;cases h)]
      exact K8 hQ))
def G8 (K:MP)(a:Addr):It:=
 ⟨λi H=>∃xs x,bt K H a xs/\xs[i]?=some x,λi H x H'=>H'=H/\∀xs,bt K H a xs->xs[i]?=some x,λi H=>∃xs,bt K H a xs/\xs.length<=i⟩
def GC (K:MP)(a:Addr):It:=
 ⟨λi H=>∃xs x,ei K H a xs/\xs[i]?=some x,λi H x H'=>H'=H/\∀xs,ei K H a xs->xs[i]?=some x,λi H=>∃xs,ei K H a xs/\xs.length<=i⟩
def wj (lo:Int)(n:Nat):It:=⟨λi _=>i < n,λi H x H'=>H'=H/\x= .int (lo + i),λi _=>n<=i⟩
theorem xw (a it:Addr):Turn P w K tg (G8 K a) [it] it (λi h=>h.IsListIter it a i) where
 mem:=by simp
 obj:=λi h st b hb=>by
  have e:b=it:=by simpa using hb
  subst e
  obtain⟨o,e,c,d⟩:=st
  exact⟨o,e,λv z=>by rw[d] at z;cases z⟩
 keep:=λi h h' st k=>st.at λo e=>k it (by simp) o e
 item:=by
  intro X hP hw hK hc i Nh s σ H E I hf st hg
  subst hP hw hK
  obtain⟨xs,x,hq,hx⟩:=hg
  obtain⟨Nj,rv,p,hz⟩:=I.list hq
  obtain⟨u,hu,ru⟩:=rv.get hx
  obtain⟨f0,f1,f2,f3,f4,f5⟩:=hf it (by simp)
  refine wpAny_pyNext_list_item st p.isList (x:=u) (by simpa using hu) λh' QO sb=>?_
  have I1:Inv X Nh σ H {s with heap:=h'}:=I.turned (t':=s.toks) (λb o hb e=>(sb.2 b hb).trans e) f0 f1 f3 f4 f5
  obtain⟨o,e,c,d⟩:=id QO
  exact⟨u,rfl,vg (s:={s with heap:=h'}) e c d (by decide) ⟨x,H,I1,ru,⟨rfl,λys hy=>by rw[I.qD hy hq];exact hx⟩,QO,λb hb=>(hf b hb).1⟩⟩
 done:=by
  intro X hP hw hK hc i Nh s σ H E I hf st hg
  subst hP hw hK
  obtain⟨xs,hq,hx⟩:=hg
  obtain⟨Nj,rv,p,hz⟩:=I.list hq
  obtain⟨f0,f1,f2,f3,f4,f5⟩:=hf it (by simp)
  have hl:=rv.length
  exact wpAny_pyNext_list_end (I.ok.hd hc) st p.isList (by simp;omega) λh' eb=>⟨rfl,I.turned (t':=s.toks) (λb o hb e=>eb b o hb e) f0 f1 f3 f4 f5⟩
 self:=λ_ _ _ _ _ st h=>wpAny_pyIter_listiter st h
theorem uk (a it:Addr):Turn P w K tg (GC K a) [it] it (λi h=>h.IsTupleIter it a i) where
 mem:=by simp
 obj:=λi h st b hb=>by
  have e:b=it:=by simpa using hb
  subst e
  obtain⟨o,e,c,d⟩:=st
  exact⟨o,e,λv z=>by rw[d] at z;cases z⟩
 keep:=λi h h' st k=>st.at λo e=>k it (by simp) o e
 item:=by
  intro X hP hw hK hc i Nh s σ H E I hf st hg
  subst hP hw hK
  obtain⟨xs,x,hq,hx⟩:=hg
  obtain⟨Nj,rv,p,hz⟩:=I.tuple hq
  obtain⟨u,hu,ru⟩:=rv.get hx
  obtain⟨f0,f1,f2,f3,f4,f5⟩:=hf it (by simp)
  refine wpAny_pyNext_tuple_item st (show s.heap.IsTuple a Nj.toArray from p) (x:=u) (by simpa using hu) λh' QO sb=>?_
  have I1:Inv X Nh σ H {s with heap:=h'}:=I.turned (t':=s.toks) (λb o hb e=>(sb.2 b hb).trans e) f0 f1 f3 f4 f5
  obtain⟨o,e,c,d⟩:=id QO
  exact⟨u,rfl,vg (s:={s with heap:=h'}) e c d (by decide) ⟨x,H,I1,ru,⟨rfl,λys hy=>by rw[I.vV hy hq];exact hx⟩,QO,λb hb=>(hf b hb).1⟩⟩
 done:=by
  intro X hP hw hK hc i Nh s σ H E I hf st hg
  subst hP hw hK
  obtain⟨xs,hq,hx⟩:=hg
  obtain⟨Nj,rv,p,hz⟩:=I.tuple hq
  obtain⟨f0,f1,f2,f3,f4,f5⟩:=hf it (by simp)
  have hl:=rv.length
  exact wpAny_pyNext_tuple_end (I.ok.hd hc) st (show s.heap.IsTuple a Nj.toArray from p) (by simp;omega) λh' eb=>⟨rfl,I.turned (t':=s.toks) (λb o hb e=>eb b o hb e) f0 f1 f3 f4 f5⟩
 self:=λ_ _ _ _ _ st h=>wpAny_pyIter_tupleiter st h
theorem uJ (it:Addr)(lo:Int)(n:Nat):Turn P w K tg (wj lo n) [it] it (λi h=>IsRangeIter h it (lo + (i:Nat) * 1) ((n:Int) - (i:Nat)) 1) where
 mem:=by simp
 obj:=λi h st b hb=>by
  have e:b=it:=by simpa using hb
  subst e
  exact⟨_,st,λv z=>by
   have z':Data.fields _=Data.cell v:=z
   cases z'⟩
 keep:=λi h h' st k=>k it (by simp) _ st
 item:=by
  intro X hP hw hK hc i Nh s σ H E I hf st hg
  subst hP hw hK
  obtain⟨f0,f1,f2,f3,f4,f5⟩:=hf it (by simp)
  have W:=Walks.range (prog:=X.prog) (w:=X.w) (I.ok.hd hc) it lo 1 n
  refine W.item i s _ _ hg st λv h' tk hv QO kk=>?_
  obtain⟨t,rfl⟩:=hv
  have I1:Inv X Nh σ H {s with heap:=h',toks:=tk}:=I.turned (λb o hb e=>kk b o (by simpa using hb) e) f0 f1 f3 f4 f5
  refine⟨_,rfl,vg (s:={s with heap:=h',toks:=tk}) (n:="range_iterator") QO rfl rfl (by decide) ⟨.int (lo + i),H,I1,⟨t,?_⟩,⟨rfl,rfl⟩,QO,λb hb=>(hf b hb).1⟩⟩
  rw[Int.mul_one]
 done:=by
  intro X hP hw hK hc i Nh s σ H E I hf st hg
  subst hP hw hK
  obtain⟨f0,f1,f2,f3,f4,f5⟩:=hf it (by simp)
  exact wpAny_pyNext_range_end (I.ok.hd hc) st (by have:n<=i:=hg;omega) λh' eb=>⟨rfl,I.turned (t':=s.toks) (λb o hb e=>eb b o hb e) f0 f1 f3 f4 f5⟩
 self:=λ_ _ _ _ _ st h=>wpAny_pyIter_rangeiter st h
end
section
variable {X:Cx}{tg:Expr}
variable {Nh:Ia}{σ:St}{H:Hp}{s:K3}
def FG (K:MP)(tl:TE):TI:=λσ H R=>tl σ H λx H1=>∃a,x= .ref a/\(∃xs,bt K H1 a xs)/\R (G8 K a) H1
def HQ (K:MP)(tl:TE):TI:=λσ H R=>tl σ H λx H1=>∃a,x= .ref a/\(∃xs,ei K H1 a xs)/\R (GC K a) H1
theorem lM {l:Expr}{tl:TE}(hl:PE X l tl):PI X tg l (FG X.K tl):=by
 intro Nh s σ H R I h
 refine aQ (hl Nh s σ H _ I h) λv s1 ⟨x,H1,I1,r1,q1⟩=>?_
 obtain⟨a,e,⟨xs,hq⟩,q⟩:=q1
 subst e
 cases r1
 obtain⟨Nj,rv,p,hz⟩:=I1.list hq
 refine LP p.isList ?_
 refine⟨s1.heap.objs.size,[s1.heap.objs.size],_,_,H1,rfl,I1.kept (t':=s1.toks) λb o e=>Mx _ e,xw a _,⟨_,My _ rfl,rfl,rfl⟩,λb hb=>?_,q⟩
 have e:b=s1.heap.objs.size:=by simpa using hb
 subst e
 exact I1.oz (Kp _) (I1.Nm.fresh (Kp _))
theorem DK {l:Expr}{tl:TE}(hl:PE X l tl):PI X tg l (HQ X.K tl):=by
 intro Nh s σ H R I h
 refine aQ (hl Nh s σ H _ I h) λv s1 ⟨x,H1,I1,r1,q1⟩=>?_
 obtain⟨a,e,⟨xs,hq⟩,q⟩:=q1
 subst e
 cases r1
 obtain⟨Nj,rv,p,hz⟩:=I1.tuple hq
 refine wpAny_pyIter_tuple (show s1.heap.IsTuple a Nj.toArray from p) ?_
 refine⟨s1.heap.objs.size,[s1.heap.objs.size],_,_,H1,rfl,I1.kept (t':=s1.toks) λb o e=>Mx _ e,uk a _,⟨_,My _ rfl,rfl,rfl⟩,λb hb=>?_,q⟩
 have e:b=s1.heap.objs.size:=by simpa using hb
 subst e
 exact I1.oz (Kp _) (I1.Nm.fresh (Kp _))
theorem qI {R:It->Hp->Prop}{E:Value->K3->Prop}{lo hi:Int}{t u v:Tok}{tk:Nat}(I:Inv X Nh σ H s)(h1: -(2 ^ 62)<=lo)(h2:lo < 2 ^ 62)(h3: -(2 ^ 62)<=hi)(h4:hi < 2 ^ 62)
 (q:R (wj lo (hi - lo).toNat) H):wpAny (model X.prog X.w) X.A (pyIter (.ref s.heap.objs.size)) (GW X Nh σ tg R) E {s with heap:=s.heap.push {cls:=.type "range",data:=.fields #[.int lo t,.int hi u,.int 1 v]},toks:=tk}:=by
 refine wpAny_pyIter_range (IsRange.new ..) (small_one h1 h2 h3 h4) ?_
 have I1:Inv X Nh σ H {s with heap:=s.heap.push {cls:=.type "range",data:=.fields #[.int lo t,.int hi u,.int 1 v]},toks:=tk}:=I.kept λb o e=>Mx _ e
 refine⟨(s.heap.push {cls:=.type "range",data:=.fields #[.int lo t,.int hi u,.int 1 v]}).objs.size,[(s.heap.push {cls:=.type "range",data:=.fields #[.int lo t,.int hi u,.int 1 v]}).objs.size],_,_,H,rfl,
  I1.kept (t':=tk) λb o e=>Mx _ e,uJ _ lo (hi - lo).toNat,?_,λb hb=>?_,q⟩
 ·have e1:lo + ((0:Nat):Int) * 1=lo:=by simp
  have e2:(((hi - lo).toNat:Nat):Int) - ((0:Nat):Int)=Builtin.Range.rangeSize lo hi 1:=by rw[rangeSize_one];split<;>omega
  show IsRangeIter _ _ (lo + ((0:Nat):Int) * 1) ((((hi - lo).toNat:Nat):Int) - ((0:Nat):Int)) 1
  rw[e1,e2]
  exact My _ rfl
 ·have e:b=(s.heap.push {cls:=.type "range",data:=.fields #[.int lo t,.int hi u,.int 1 v]}).objs.size:=by simpa using hb
  subst e
  exact I1.oz (Kp _) (I1.Nm.fresh (Kp _))
def FQ (ta:TA):TI:=λσ H R=>ta σ H λvs H1=>∃j:Int,vs=[.int j]/\ -(2 ^ 62)<=j/\j < 2 ^ 62/\R (wj 0 j.toNat) H1
def ER (ta:TA):TI:=λσ H R=>ta σ H λvs H1=>∃i j:Int,vs=[.int i,.int j]/\(-(2 ^ 62)<=i/\i < 2 ^ 62/\ -(2 ^ 62)<=j/\j < 2 ^ 62)/\R (wj i (j - i).toNat) H1
theorem wd {a:Expr}{ta:TA}{p pos:Pos}(hg:Gl X "range")(hm:X.mg "range"=none)(ha:PA X [a] ta)(hs:K2 [a] X.env=[(false,eval a X.env)]:=by rfl):PI X tg (.Call (.Name "range" p) [a] [] pos) (FQ ta):=by
 intro Nh s σ H R I h
 refine Call_ (jU I hg hm boot_range (KS (aQ (ha pos Nh s σ H _ I h) λus s1 ⟨vs,H1,I1,r1,q1⟩=>?_) hs rfl))
 obtain⟨j,e,q1,q2,q⟩:=q1
 subst e
 cases r1 with
 | cons r rr=>
   cases rr
   obtain⟨t,rfl⟩:=r
   exact call_range_1 (qI I1 (by omega) (by omega) q1 q2 (by simpa using q))
theorem vE {a b:Expr}{ta:TA}{p pos:Pos}(hg:Gl X "range")(hm:X.mg "range"=none)(ha:PA X [a,b] ta)(hs:K2 [a,b] X.env=[(false,eval a X.env),(false,eval b X.env)]:=by rfl)(Pc:K2 [b] X.env=[(false,eval b X.env)]:=by rfl):
 PI X tg (.Call (.Name "range" p) [a,b] [] pos) (ER ta):=by
 intro Nh s σ H R I h
 refine Call_ (jU I hg hm boot_range (KS (aQ (ha pos Nh s σ H _ I h) λus s1 ⟨vs,H1,I1,r1,q1⟩=>?_) (by rw[hs,Pc]) (by rw[Pc];rfl)))
 obtain⟨i,j,e,⟨q1,q2,q3,q4⟩,q⟩:=q1
 subst e
 cases r1 with
 | cons r rr=>
   cases rr with
   | cons r' rr=>
     cases rr
     obtain⟨t,rfl⟩:=r
     obtain⟨t',rfl⟩:=r'
     exact call_range_2 (qI I1 q1 q2 q3 q4 q)
def HF (wi:TI)(g:TG)(tb:TS):TS:=λD σ H=>wi σ H λJ H1=>∃W:Nat->Nat->St->Hp->Prop,(∃m,W 0 m σ H1)/\∀i m σ H,W i m σ H->
 (J.stop i H/\D.nx σ H)∨(J.go i H/\∃N:St->Hp->Prop,(∀σ' H',N σ' H'->∃m',m' < m/\W (i + 1) m' σ' H')/\∀x H',J.Q8 i H x H'->g x σ H' λσ2 H2=>tb {D with nx:=N,ct:=N,bk:=D.nx} σ2 H2)
def jF (fp:Ig)(h:Heap):Ia:=fp.filterMap λb=>(h.get? b).map λo=>(b,o)
theorem iJ {fp:Ig}{h:Heap}{b:Addr}{o:Obj}(hb:b∈fp)(e:h.get? b=some o):(b,o)∈jF fp h:=J9.mpr ⟨b,hb,by rw[e];rfl⟩
theorem vz {fp:Ig}{h:Heap}{p:Addr×Obj}(hp:p∈jF fp h):p.1∈fp/\h.get? p.1=some p.2:=by
 obtain⟨b,hb,e⟩:=J9.mp hp
 cases q:h.get? b with
 | none=>rw[q] at e;cases e
 | some o=>
   rw[q] at e
   have e':(b,o)=p:=Option.some.inj e
   subst e'
   exact⟨hb,q⟩
theorem Inv.pinned {fp:Ig}(I:Inv X Nh σ H s)(hf:∀b∈fp,kz X Nh H b)(ho:∀b∈fp,∃o,s.heap.get? b=some o/\∀v,o.data≠ .cell v):Inv X (Nh++jF fp s.heap) σ H s:=
 I.iQ λp hp=>(IS.mp hp).elim (λz=>I.pin p (IU _ z)) λz=>by
   obtain⟨hb,e⟩:=vz z
   obtain⟨f0,f1,f2,_⟩:=hf p.1 hb
   obtain⟨o,e',d⟩:=ho p.1 hb
   rw[e] at e';cases e'
   exact⟨e,f0,f1,f2,d⟩
theorem Inv.fE {pl:Ia}(I:Inv X (Nh++pl) σ H s):Inv X Nh σ H s:=I.iQ λp hp=>I.pin p (IU _ (IX _ hp))
theorem qi {iter:Expr}{body:List Stmt}{wi:TI}{g:TG}{tb:TS}{pos:Pos}(hp:LU (model X.prog X.w) X.A X.env X.xe)(hc:X.calm=true)(hi:PI X tg iter wi)(hg:PG X tg g)(hb:iy X body tb)
 (hs:∀x,Lc iter X.env x=pure x:=by intro _;rfl):PS X (.For tg iter body [] pos) (HF wi g tb):=by
 intro Nh s σ H D I h
 refine wpAny_For (aQ (hi Nh s σ H _ I h) λv s1 h1=>aQ h1 λitv s2 h2=>?_) hs
 obtain⟨it,fp,tn,J,H2,e,I2,T,OT,f2,W,⟨m0,w0⟩,turn⟩:=h2
 subst e
 -- what stays true of PB Rn objects through PB loop
 have Rc:∀{H':Hp},(∀b∈fp,H' b=none)->∀b∈fp,kz X Nh H' b:=λhn b hb=>⟨hn b hb,(f2 b hb).2⟩
 refine codeAny_forLoop_any (λn s'=>∃i σ' H',Inv X Nh σ' H' s'/\tn i s'.heap/\(∀b∈fp,H' b=none)/\W i n σ' H') ?_ m0 ⟨0,σ,H2,I2,OT,λb hb=>(f2 b hb).1,w0⟩
 rintro n s3 ⟨i,σ3,H3,I3,OB,fr3,w3⟩
 rcases turn i n σ3 H3 w3 with⟨stop,qn⟩ | ⟨go,N,hN,step⟩
 ·refine Ly hp (aQ (T.done X rfl rfl rfl hc i Nh s3 σ3 H3 X.xe I3 (Rc fr3) OB stop) λr s4 ⟨hr,I4⟩=>?_)
  subst hr
  exact Lx ⟨σ3,H3,I4,qn⟩
 ·refine Ly hp (aQ (T.item X rfl rfl rfl hc i Nh s3 σ3 H3 X.xe I3 (Rc fr3) OB go) λr s4 ⟨u,hr,h4⟩=>?_)
  subst hr
  refine Ly hp (aQ h4 λ_ s5 ⟨x,H5,I5,r5,y5,Qk,fr5⟩=>?_)
  have I5':=I5.pinned (Rc fr5) (T.obj _ _ Qk)
  refine Ly hp (aQ (hg _ s5 σ3 H5 x u _ I5' r5 (step x H5 y5)) λ_ s6 ⟨σ6,H6,I6,q6⟩=>?_)
  refine Ly hp (aQ (hb _ s6 σ6 H6 _ I6 q6) λf s7 q7=>?_)
  have again:∀{σ7:St} {H7:Hp},Inv X (Nh++jF fp s5.heap) σ7 H7 s7->N σ7 H7->∃m,m < n/\∃i σ' H',Inv X Nh σ' H' s7/\tn i s7.heap/\(∀b∈fp,H' b=none)/\W i m σ' H':=λ{σ7 H7} I7 n7=>by
   obtain⟨m',hm,w7⟩:=hN σ7 H7 n7
   refine⟨m',hm,i + 1,σ7,H7,I7.fE,T.keep _ _ _ Qk λb hb o e=>(I7.pin (b,o) (IU _ (IU _ (iJ hb e)))).1,λb hb=>?_,w7⟩
   obtain⟨o,e,d⟩:=T.obj _ _ Qk b hb
   exact(I7.pin (b,o) (IU _ (IU _ (iJ hb e)))).2.1
  cases f with
  | next=>obtain⟨σ7,H7,I7,n7⟩:=q7;exact again I7 n7
  | cont=>obtain⟨σ7,H7,I7,n7⟩:=q7;exact again I7 n7
  | brk=>obtain⟨σ7,H7,I7,q7⟩:=q7;exact⟨σ7,H7,I7.fE,q7⟩
  | ret v=>obtain⟨x7,σ7,H7,I7,r7,q7⟩:=q7;exact⟨x7,σ7,H7,I7.fE,r7,q7⟩
end
abbrev R2:=V->V->Hp->VK->Prop
def d7 (X:Cx)(f:Value->Value->Sem Value)(r:R2):Prop:=
 ∀(Nh:Ia) (s:K3) (σ:St) (H:Hp) (x y:V) (v u:Value) (Q:VK),Inv X Nh σ H s->RelV x v->RelV y u->r x y H Q->
  wpAny (model X.prog X.w) X.A (f v u) (EP X Nh σ Q) X.xe s
def DQ (X:Cx)(f:Value->Sem Value)(r:V->Hp->VK->Prop):Prop:=
 ∀(Nh:Ia) (s:K3) (σ:St) (H:Hp) (x:V) (v:Value) (Q:VK),Inv X Nh σ H s->RelV x v->r x H Q->
  wpAny (model X.prog X.w) X.A (f v) (EP X Nh σ Q) X.xe s
def dH (X:Cx)(f:Value)(r:List V->Hp->VK->Prop):Prop:=
 ∀(Nh:Ia) (s:K3) (σ:St) (H:Hp) (xs:List V) (us:Ih) (Q:VK),Inv X Nh σ H s->Vals xs us->r xs H Q->
  wpAny (model X.prog X.w) X.A (call f us) (EP X Nh σ Q) X.xe s
def Hr (X:Cx)(r:V->Hp->(Bool->Hp->Prop)->Prop):Prop:=
 ∀(Nh:Ia) (s:K3) (σ:St) (H:Hp) (x:V) (v:Value) (Q:Bool->Hp->Prop),Inv X Nh σ H s->RelV x v->r x H Q->
  wpAny (model X.prog X.w) X.A (Mb v) (TP X Nh σ Q) X.xe s
def zx (r:R2)(ta tb:TE):TE:=λσ H Q=>ta σ H λx H1=>tb σ H1 λy H2=>r x y H2 Q
def tUn (r:V->Hp->VK->Prop)(ta:TE):TE:=λσ H Q=>ta σ H λx H1=>r x H1 Q
def rI (C:Int->Int->Prop)(g:Int->Int->V):R2:=λx y H Q=>∃i j,x= .int i/\y= .int j/\C i j/\Q (g i j) H
def pZ (g:Int->Int->V):R2:=λx y H Q=>∃i j,x= .int i/\y= .int j/\Q (g i j) H
def rU (g:Int->V):V->Hp->VK->Prop:=λx H Q=>∃i,x= .int i/\Q (g i) H
section
variable {X:Cx}{a b c:Expr}{ta tb tc:TE}{pos:Pos}
variable {f:Value->Value->Sem Value}
theorem yY (ha:PE X a ta)(hb:PE X b tb){Nh:Ia}{s:K3}{σ:St}{H:Hp}{R:V->V->Hp->Prop}(I:Inv X Nh σ H s)
 (h:ta σ H λx H1=>tb σ H1 λy H2=>R x y H2) {Q:Value->K3->Prop}
 (hf:∀v u s2 x y H2,Inv X Nh σ H2 s2->RelV x v->RelV y u->R x y H2->wpAny (model X.prog X.w) X.A (f v u) Q X.xe s2):
 wpAny (model X.prog X.w) X.A (eval a X.env) (λv s₁=>wpAny (model X.prog X.w) X.A (eval b X.env) (λu s₂=>wpAny (model X.prog X.w) X.A (f v u) Q X.xe s₂) X.xe s₁) X.xe s:=by
 refine aQ (ha Nh s σ H _ I h) λv s1 ⟨x,H1,I1,r1,q1⟩=>?_
 refine aQ (hb Nh s1 σ H1 _ I1 q1) λu s2 ⟨y,H2,I2,r2,q2⟩=>?_
 exact hf v u s2 x y H2 I2 r1 r2 q2
theorem pL {op:Mg}{r:R2}(ho:d7 X (LD op) r)(ha:PE X a ta)(hb:PE X b tb):PE X (.BinOp a op b pos) (zx r ta tb):=by
 intro Nh s σ H Q I h
 exact wpAny_BinOp (yY ha hb I h λv u s2 x y H2 I2 rx ry q=>ho Nh s2 σ H2 x y v u Q I2 rx ry q)
theorem FZ {op:UnaryOp}{r:V->Hp->VK->Prop}(ho:DQ X (unaryOp op) r)(ha:PE X a ta):PE X (.UnaryOp op a pos) (tUn r ta):=by
 intro Nh s σ H Q I h
 exact UnaryOp_ (aQ (ha Nh s σ H _ I h) λv s1 ⟨x,H1,I1,r1,q1⟩=>ho Nh s1 σ H1 x v Q I1 r1 q1)
theorem vX {C:Int->Int->Prop}{g:Int->Int->Int}
 (rule:∀(i j:Int) (t u:Tok) (s:K3) (Q:Value->K3->Prop) (E:Value->K3->Prop),C i j->Q (.int (g i j) s.toks) {s with toks:=s.toks + 1}->wpAny (model X.prog X.w) X.A (f (.int i t) (.int j u)) Q E s):
 d7 X f (rI C λi j=>.int (g i j)):=by
 intro Nh s σ H x y v u Q I rx ry h
 obtain⟨i,j,rfl,rfl,hc,q⟩:=h
 obtain⟨t,rfl⟩:=rx
 obtain⟨t',rfl⟩:=ry
 exact rule i j t t' s _ _ hc ⟨.int (g i j),H,I.tok _,⟨_,rfl⟩,q⟩
theorem D9 {g:Int->Int->Int}
 (rule:∀(i j:Int) (t u:Tok) (s:K3) (Q:Value->K3->Prop) (E:Value->K3->Prop),Q (.int (g i j) s.toks) {s with toks:=s.toks + 1}->wpAny (model X.prog X.w) X.A (f (.int i t) (.int j u)) Q E s):
 d7 X f (pZ λi j=>.int (g i j)):=by
 intro Nh s σ H x y v u Q I rx ry h
 obtain⟨i,j,rfl,rfl,q⟩:=h
 obtain⟨t,rfl⟩:=rx
 obtain⟨t',rfl⟩:=ry
 exact rule i j t t' s _ _ ⟨.int (g i j),H,I.tok _,⟨_,rfl⟩,q⟩
theorem yt {g:Int->Int->Bool}
 (rule:∀(i j:Int) (t u:Tok) (s:K3) (Q:Value->K3->Prop) (E:Value->K3->Prop),Q (.bool (g i j)) s->wpAny (model X.prog X.w) X.A (f (.int i t) (.int j u)) Q E s):
 d7 X f (pZ λi j=>.bl (g i j)):=by
 intro Nh s σ H x y v u Q I rx ry h
 obtain⟨i,j,rfl,rfl,q⟩:=h
 obtain⟨t,rfl⟩:=rx
 obtain⟨t',rfl⟩:=ry
 exact rule i j t t' s _ _ ⟨.bl (g i j),H,I,rfl,q⟩
def DN (i j:Int):Prop:=0<=j/\j<=1000000/\i.natAbs < 2 ^ 64
def uH (i j:Int):Prop:=(-(2 ^ 64) < i/\i < 2 ^ 64)∨(-(2 ^ 64) < j/\j < 2 ^ 64)
theorem uH.ok {i j:Int}(h:uH i j):IntMulOk i j:=by
 rcases h with⟨h1,h2⟩ | ⟨h1,h2⟩
 ·exact .of_left (Mh h1 h2)
 ·exact .of_right (Mh h1 h2)
theorem B0:d7 X (LD .Add) (pZ λi j=>.int (i + j)):=D9 λ_ _ _ _ _ _ _ q=>add_int q
theorem Cj:d7 X (LD .Sub) (pZ λi j=>.int (i - j)):=D9 λ_ _ _ _ _ _ _ q=>sub_int q
theorem CK:d7 X (LD .Mult) (rI uH λi j=>.int (i * j)):=vX λ_ _ _ _ _ _ _ hc q=>mul_int q hc.ok
theorem Cf:d7 X (LD .Mod) (rI (λ_ j=>0 < j) λi j=>.int (i % j)):=vX λi j _ _ _ _ _ hc q=>by
 have h1:(0:Int) < j:=hc
 exact mod_int' (by omega) (by rw[Int.fmod_eq_emod_of_nonneg i (by omega)];exact q)
theorem DU:d7 X (LD .Pow) (rI DN λi j=>.int (i ^ j.toNat)):=vX λ_ _ _ _ _ _ _ hc q=>pow_int_small hc.1 hc.2.1 hc.2.2 q
theorem unI {f:Value->Sem Value}{g:Int->Int}
 (rule:∀(i:Int) (t:Tok) (s:K3) (Q:Value->K3->Prop) (E:Value->K3->Prop),Q (.int (g i) s.toks) {s with toks:=s.toks + 1}->wpAny (model X.prog X.w) X.A (f (.int i t)) Q E s):
 DQ X f (rU λi=>.int (g i)):=by
 intro Nh s σ H x v Q I rx h
 obtain⟨i,rfl,q⟩:=h
 obtain⟨t,rfl⟩:=rx
 exact rule i t s _ _ ⟨.int (g i),H,I.tok _,⟨_,rfl⟩,q⟩
theorem DF:DQ X (unaryOp .USub) (rU λi=>.int (-i)):=unI λ_ _ _ _ _ q=>neg_int q
end
def De:V->V->Bool
 | .Nu,.Nu=>true | .Nu,.int _=>true | .int _,.Nu=>true | .Nu,.bl _=>true | .bl _,.Nu=>true | .Nu,.str _=>true | .str _,.Nu=>true
 | .int _,.int _=>true | .bl _,.bl _=>true | .str _,.str _=>true | .Py _,.Py _=>true
 | .int _,.str _=>true | .str _,.int _=>true | .bl _,.str _=>true | .str _,.bl _=>true
 | _,_=>false
def rEq:R2:=λx y H Q=>De x y=true/\Q (.bl (decide (x=y))) H
def rNe:R2:=λx y H Q=>De x y=true/\Q (.bl (!decide (x=y))) H
theorem lK {i j:Int}:decide (V.int i=V.int j)=(i==j):=by
 rw[Ip]
 simp
theorem wO {i j:Bool}:decide (V.bl i=V.bl j)=(i==j):=by
 rw[Ip]
 simp
theorem sJ {i j:Str}:decide (V.str i=V.str j)=(i==j):=by
 rw[Ip]
 simp
theorem tO {i j:Array UInt8}:decide (V.Py i=V.Py j)=(i.toList==j.toList):=by
 rw[Ip]
 cases i
 cases j
 simp
section
variable {X:Cx}{a b c:Expr}{ta tb tc:TE}{pos:Pos}
variable {op:CmpOp}{r:R2}
theorem bN {Nh:Ia}{σ:St}{H:Hp}{s:K3}{Q:VK}{k k':Bool}(I:Inv X Nh σ H s)(q:Q (.bl k) H)(e:k=k'):EP X Nh σ Q (.bool k') s:=by
 subst e
 exact⟨.bl k,H,I,rfl,q⟩
theorem EY:d7 X (Lj .Eq) rEq:=by
 intro Nh s σ H x y v u Q I rx ry h
 obtain⟨hs,q⟩:=h
 cases x with
 | Nu=>
   cases rx
   cases y with
   | Nu=>cases ry;exact PySem.EqNone.eq_none_none (bN I q (by simp))
   | bl j=>cases ry;exact PySem.EqNone.eq_none_bool (bN I q (by simp))
   | int j=>obtain⟨t',rfl⟩:=ry;exact PySem.EqNone.eq_none_int (bN I q (by simp))
   | str j=>obtain⟨t',rfl⟩:=ry;exact PySem.EqNone.eq_none_str (bN I q (by simp))
   | _=>exact absurd (show false=true from hs) Il
 | bl i=>
   cases rx
   cases y with
   | Nu=>cases ry;exact PySem.EqNone.eq_bool_none (bN I q (by simp))
   | bl j=>cases ry;exact eq_bool (bN I q wO)
   | str j=>obtain⟨t',rfl⟩:=ry;exact PySem.EqMixed.eq_bool_str (bN I q (by simp))
   | _=>exact absurd (show false=true from hs) Il
 | int i=>
   obtain⟨t,rfl⟩:=rx
   cases y with
   | Nu=>cases ry;exact PySem.EqNone.eq_int_none (bN I q (by simp))
   | int j=>obtain⟨t',rfl⟩:=ry;exact eq_int (bN I q lK)
   | str j=>obtain⟨t',rfl⟩:=ry;exact PySem.EqMixed.eq_int_str (bN I q (by simp))
   | _=>exact absurd (show false=true from hs) Il
 | str i=>
   obtain⟨t,rfl⟩:=rx
   cases y with
   | Nu=>cases ry;exact PySem.EqNone.eq_str_none (bN I q (by simp))
   | bl j=>cases ry;exact PySem.EqMixed.eq_str_bool (bN I q (by simp))
   | int j=>obtain⟨t',rfl⟩:=ry;exact PySem.EqMixed.eq_str_int (bN I q (by simp))
   | str j=>obtain⟨t',rfl⟩:=ry;exact eq_str (bN I q sJ)
   | _=>exact absurd (show false=true from hs) Il
 | Py i=>
   obtain⟨t,rfl⟩:=rx
   cases y with
   | Py j=>obtain⟨t',rfl⟩:=ry;exact PySem.W.eq_bytes (bN I q tO)
   | _=>exact absurd (show false=true from hs) Il
 | _=>cases y<;>exact absurd (show false=true from hs) Il
theorem E8:d7 X (Lj .NotEq) rNe:=by
 intro Nh s σ H x y v u Q I rx ry h
 obtain⟨hs,q⟩:=h
 cases x with
 | Nu=>
   cases rx
   cases y with
   | Nu=>cases ry;exact PySem.EqNone.ne_none_none (bN I q (by simp))
   | bl j=>cases ry;exact PySem.EqNone.ne_none_bool (bN I q (by simp))
   | int j=>obtain⟨t',rfl⟩:=ry;exact PySem.EqNone.ne_none_int (bN I q (by simp))
   | str j=>obtain⟨t',rfl⟩:=ry;exact PySem.EqNone.ne_none_str (bN I q (by simp))
   | _=>exact absurd (show false=true from hs) Il
 | bl i=>
   cases rx
   cases y with
   | Nu=>cases ry;exact PySem.EqNone.ne_bool_none (bN I q (by simp))
   | bl j=>cases ry;exact ne_bool (bN I q (congrArg not wO))
   | str j=>obtain⟨t',rfl⟩:=ry;exact PySem.EqMixed.ne_bool_str (bN I q (by simp))
   | _=>exact absurd (show false=true from hs) Il
 | int i=>
   obtain⟨t,rfl⟩:=rx
   cases y with
   | Nu=>cases ry;exact PySem.EqNone.ne_int_none (bN I q (by simp))
   | int j=>obtain⟨t',rfl⟩:=ry;exact ne_int (bN I q (congrArg not lK))
   | str j=>obtain⟨t',rfl⟩:=ry;exact PySem.EqMixed.ne_int_str (bN I q (by simp))
   | _=>exact absurd (show false=true from hs) Il
 | str i=>
   obtain⟨t,rfl⟩:=rx
   cases y with
   | Nu=>cases ry;exact PySem.EqNone.ne_str_none (bN I q (by simp))
   | bl j=>cases ry;exact PySem.EqMixed.ne_str_bool (bN I q (by simp))
   | int j=>obtain⟨t',rfl⟩:=ry;exact PySem.EqMixed.ne_str_int (bN I q (by simp))
   | str j=>obtain⟨t',rfl⟩:=ry;exact ne_str (bN I q (congrArg not sJ))
   | _=>exact absurd (show false=true from hs) Il
 | Py i=>
   obtain⟨t,rfl⟩:=rx
   cases y with
   | Py j=>obtain⟨t',rfl⟩:=ry;exact PySem.W.ne_bytes (bN I q (congrArg not tO))
   | _=>exact absurd (show false=true from hs) Il
 | _=>cases y<;>exact absurd (show false=true from hs) Il
theorem Gf:d7 X (Lj .Lt) (pZ λi j=>.bl (decide (i < j))):=yt λ_ _ _ _ _ _ _ q=>lt_int q
theorem Fn:d7 X (Lj .LtE) (pZ λi j=>.bl (decide (i<=j))):=yt λ_ _ _ _ _ _ _ q=>le_int q
theorem EK:d7 X (Lj .GtE) (pZ λi j=>.bl (decide (j<=i))):=yt λ_ _ _ _ _ _ _ q=>ge_int q
theorem wH:d7 X (Lj .Is) (λx y H Q=>y= .Nu/\Q (.bl (decide (x= .Nu))) H):=by
 intro Nh s σ H x y v u Q I rx ry h
 obtain⟨rfl,q⟩:=h
 cases ry
 refine is_none_gen (bN I q ?_)
 cases x<;>first
  | (cases rx;rfl)
  | (obtain⟨t,rfl⟩:=rx;rfl)
theorem rY (b:Expr)(h:op≠ .In:=by decide)(h2:op≠ .NotIn:=by decide):Lr op b=false:=by
 have e1:(op==CmpOp.In)=false:=by cases op<;>first | rfl | exact absurd rfl h
 have e2:(op==CmpOp.NotIn)=false:=by cases op<;>first | rfl | exact absurd rfl h2
 cases b<;>simp[Lr,e1,e2]
theorem AK (ho:d7 X (Lj op) r)(ha:PE X a ta)(hb:PE X b tb)(hm:Lr op b=false):PE X (.Compare a [op] [b] pos) (zx r ta tb):=by
 intro Nh s σ H Q I h
 exact wpAny_Compare1 (yY ha hb I h λv u s2 x y H2 I2 rx ry q=>ho Nh s2 σ H2 x y v u Q I2 rx ry q) hm
def Af (t:TE):TT:=λσ H Q=>t σ H λx H'=>∃k,x= .bl k/\Q k H'
theorem Ap (ho:d7 X (Lj op) r)(ha:PE X a ta)(hb:PE X b tb)(hm:Lr op b=false):PT X (.Compare a [op] [b] pos) (Af (zx r ta tb)):=by
 intro Nh s σ H Q I h
 refine wpAny_isTrue_Compare1 (aQ (ha Nh s σ H _ I h) λv s1 ⟨x,H1,I1,r1,q1⟩=>aQ (hb Nh s1 σ H1 _ I1 q1) λu s2 ⟨y,H2,I2,r2,q2⟩=>
  aQ (ho Nh s2 σ H2 x y v u _ I2 r1 r2 q2) λc s3 ⟨z,H3,I3,r3,k,e,q3⟩=>?_) hm
 subst e
 cases r3
 exact Le ⟨H3,I3,q3⟩
def we (r r':R2)(ta tb tc:TE):TE:=λσ H Q=>ta σ H λx H1=>tb σ H1 λy H2=>r x y H2 λz H3=>∃k,z= .bl k/\
 (if k=true then tc σ H3 λw' H4=>r' y w' H4 Q else Q (.bl false) H3)
theorem yi {O8:CmpOp}{r':R2}(ho:d7 X (Lj op) r)(Pf:d7 X (Lj O8) r')(ha:PE X a ta)(hb:PE X b tb)(hc:PE X c tc)
 (hm:lastMarks [op,O8] [b,c]=false:=by with_unfolding_all rfl):PE X (.Compare a [op,O8] [b,c] pos) (we r r' ta tb tc):=by
 intro Nh s σ H Q I h
 refine Compare_chain (aQ (ha Nh s σ H _ I h) λv s1 ⟨x,H1,I1,r1,q1⟩=>chain_link (aQ (hb Nh s1 σ H1 _ I1 q1) λu s2 ⟨y,H2,I2,r2,q2⟩=>
  aQ (ho Nh s2 σ H2 x y v u _ I2 r1 r2 q2) λd s3 ⟨z,H3,I3,r3,k,e,q3⟩=>?_)) hm
 subst e
 cases r3
 refine Le ?_
 cases k with
 | false=>exact ite_ff ⟨.bl false,H3,I3,rfl,q3⟩
 | true=>exact ite_tt (chain_last (aQ (hc Nh s3 σ H3 _ I3 q3) λw' s4 ⟨z',H4,I4,r4,q4⟩=>Pf Nh s4 σ H4 y z' u w' Q I4 r2 r4 q4))
theorem yT {O8:CmpOp}{r':R2}(ho:d7 X (Lj op) r)(Pf:d7 X (Lj O8) r')(ha:PE X a ta)(hb:PE X b tb)(hc:PE X c tc)
 (hm:lastMarks [op,O8] [b,c]=false:=by with_unfolding_all rfl):PT X (.Compare a [op,O8] [b,c] pos) (Af (we r r' ta tb tc)):=by
 intro Nh s σ H Q I h
 refine isTrue_chain (aQ (ha Nh s σ H _ I h) λv s1 ⟨x,H1,I1,r1,q1⟩=>test_link (aQ (hb Nh s1 σ H1 _ I1 q1) λu s2 ⟨y,H2,I2,r2,q2⟩=>
  aQ (ho Nh s2 σ H2 x y v u _ I2 r1 r2 q2) λd s3 ⟨z,H3,I3,r3,k,e,q3⟩=>?_)) hm
 subst e
 cases r3
 refine Le ?_
 cases k with
 | false=>
   obtain⟨k',e',q'⟩:=q3
   cases e'
   exact ite_ff ⟨H3,I3,q'⟩
 | true=>
   refine ite_tt (test_last (aQ (hc Nh s3 σ H3 _ I3 q3) λw' s4 ⟨z',H4,I4,r4,q4⟩=>aQ (Pf Nh s4 σ H4 y z' u w' _ I4 r2 r4 q4) λd' s5 ⟨z2,H5,I5,r5,k2,e2,q5⟩=>?_))
   subst e2
   cases r5
   exact Le ⟨H5,I5,q5⟩
def DB (K:MP)(x:V)(H:Hp)(k:Bool):Prop:=
 match x with
 | .Nu=>k=false
 | .bl b=>k=b
 | .int i=>k=(i != 0)
 | .str y=>y.length<=K4/\k=((y.length:Int) != 0)
 | .Py y=>y.size<=K4/\k=((y.size:Int) != 0)
 | .ref p=>(∃xs,bt K H p xs/\k= !xs.isEmpty)∨(∃xs,ei K H p xs/\k= !xs.isEmpty)∨∃kvs,H p=some (.dK kvs)/\k= !kvs.isEmpty
 | _=>False
theorem uE {κ:Type}{kvs:List (κ×V)}{vs:List (κ×Value)}(r:KV kvs vs):(!vs.isEmpty)= !kvs.isEmpty:=by
 cases r<;>rfl
theorem nt {xs:List V}{Nj:Ih}(r:Vals xs Nj):(!Nj.toArray.isEmpty)= !xs.isEmpty:=by
 cases r<;>simp
theorem jI:(K4:Nat) < 2 ^ 63:=by rw[L9];decide
theorem Cz:Hr X (λx H Q=>∃k,DB X.K x H k/\Q k H):=by
 intro Nh s σ H x v Q I rx h
 obtain⟨k,e,q⟩:=h
 have hl:=jI
 have hs:K4=16777216:=L9
 cases x with
 | Nu=>
   cases rx
   have e':k=false:=e
   subst e'
   exact truthy_none ⟨H,I,q⟩
 | bl b=>
   cases rx
   have e':k=b:=e
   subst e'
   exact Le ⟨H,I,q⟩
 | int i=>
   obtain⟨t,rfl⟩:=rx
   have e':k=(i != 0):=e
   subst e'
   exact PySem.P.truthy_int ⟨H,I,q⟩
 | str y=>
   obtain⟨t,rfl⟩:=rx
   obtain⟨hy,e'⟩:y.length<=K4/\k=((y.length:Int) != 0):=e
   subst e'
   exact PySem.P.truthy_str (by omega) ⟨H,I.tok _,q⟩
 | Py y=>
   obtain⟨t,rfl⟩:=rx
   obtain⟨hy,e'⟩:y.size<=K4/\k=((y.size:Int) != 0):=e
   subst e'
   exact PySem.W.truthy_bytes (by omega) ⟨H,I.tok _,q⟩
 | ref p=>
   cases rx
   have e':(∃xs,bt X.K H p xs/\k= !xs.isEmpty)∨(∃xs,ei X.K H p xs/\k= !xs.isEmpty)∨∃kvs,H p=some (.dK kvs)/\k= !kvs.isEmpty:=e
   rcases e' with⟨xs,hx,e'⟩ | ⟨xs,hx,e'⟩ | ⟨kvs,hx,e'⟩
   ·subst e'
    obtain⟨Nj,r,pl,hz⟩:=I.list hx
    have hlen:=r.length
    exact wpAny_truthy_list pl.isList (by simp only[Jc];omega) ⟨H,I.tok _,by rw[nt r];exact q⟩
   ·subst e'
    obtain⟨Nj,r,pl,hz⟩:=I.tuple hx
    have hlen:=r.length
    exact truthy_tuple pl (by simp only[Jc];omega) ⟨H,I.tok _,by rw[nt r];exact q⟩
   ·subst e'
    obtain⟨hz,hS,vs,r,m⟩:kvs.length<=K4/\(p==Lv)=false/\∃vs,KV kvs vs/\s.heap.DictOf (cU X.prog X.w) p vs:=I.Nm p _ hx
    have hlen:kvs.length=vs.length:=Paired.length r
    exact wpAny_truthy_dict hS m (by omega) ⟨H,I.tok _,by rw[uE r];exact q⟩
 | _=>exact(show False from e).elim
theorem mn (ha:PE X a ta)(he:∀whole,LK a X.env whole=(do let v ← whole;LL a.pos;Lk [v] (Mb v))):
 PT X a (λσ H Q=>ta σ H λx H'=>∃k,DB X.K x H' k/\Q k H'):=by
 intro Nh s σ H Q I h
 exact isTrue_plain (aQ (ha Nh s σ H _ I h) λv s1 ⟨x,H1,I1,r1,q1⟩=>Cz Nh s1 σ H1 x v Q I1 r1 q1) (he _)
theorem vals1 {x:V}{us:Ih}(r:Vals [x] us):∃u,us=[u]/\RelV x u:=by
 cases r with
 | cons r1 r2=>cases r2;exact⟨_,rfl,r1⟩
theorem vals2 {x y:V}{us:Ih}(r:Vals [x,y] us):∃u w',us=[u,w']/\RelV x u/\RelV y w':=by
 cases r with
 | cons r1 r2=>
   cases r2 with
   | cons r3 r4=>cases r4;exact⟨_,_,rfl,r1,r3⟩
theorem xk (hc:X.calm=true):dH X (.builtin "min") (λxs H Q=>∃i j,xs=[.int i,.int j]/\Q (.int (if j < i then j else i)) H):=by
 intro Nh s σ H xs us Q I r h
 obtain⟨i,j,rfl,q⟩:=h
 obtain⟨u,w',rfl,⟨t,rfl⟩,⟨t',rfl⟩⟩:=vals2 r
 refine min_two_ints (I.ok.hd hc) λh' tk k=>⟨_,H,I.kept k,?_,q⟩
 by_cases hj:j < i
 ·rw[if_pos hj,if_pos hj];exact⟨_,rfl⟩
 ·rw[if_neg hj,if_neg hj];exact⟨_,rfl⟩
theorem wx:dH X (.type "int") (λxs H Q=>(∃i,xs=[.int i]/\Q (.int i) H)∨∃k,xs=[.bl k]/\Q (.int (if k then 1 else 0)) H):=by
 intro Nh s σ H xs us Q I r h
 rcases h with⟨i,rfl,q⟩ | ⟨k,rfl,q⟩
 ·obtain⟨u,rfl,t,rfl⟩:=vals1 r
  exact call_int_int ⟨.int i,H,I,⟨_,rfl⟩,q⟩
 ·obtain⟨u,rfl,r1⟩:=vals1 r
  cases r1
  exact call_int_bool ⟨.int (if k then 1 else 0),H,I.tok _,⟨_,rfl⟩,q⟩
end
structure yQ (h:Heap) (x dx C:Addr) (mA:HZ):Prop where
 obj:h.get? x=some (Nb C dx)
 ns:h.Ns1 dx mA
 ne:dx≠x
theorem vZ {h:Heap}{dx:Addr}{mA:HZ}(n:h.Ns1 dx mA):∃od,h.get? dx=some od/\∀name,Nd name od=some (mA name):=by
 obtain⟨o,es,ep,ho,hd,hk,_,hm⟩:=n
 refine⟨o,ho,λname=>?_⟩
 have e:=hm name
 unfold nsFind findBy at e
 rw[← Array.find?_toList] at e
 unfold Nd
 rw[hd]
 dsimp only
 split
 ·rename_i y q
  rw[q] at e
  exact congrArg some e
 ·rename_i q
  rw[q] at e
  have a:es.toList.any (·.refKey)=false:=by
   rw[List.any_eq_false]
   intro y hy
   obtain⟨z,t,hkey⟩:=hk y (Array.mem_toList_iff.mp hy)
   simp[DictEntry.refKey,hkey]
  have a':¬es.toList.any (·.refKey)=true:=by rw[a];exact Il
  rw[if_neg a']
  exact congrArg some e
theorem yQ.look {h:Heap}{x dx C:Addr}{mA:HZ}(I:yQ h x dx C mA):∃od,PySem.W.InstAt h x (Nb C dx) C (some od)/\∀name,Nd name od=some (mA name):=
 let ⟨od,ho,hl⟩:=vZ I.ns
 ⟨od,⟨I.obj,rfl,rfl,ho⟩,hl⟩
section
variable {prog:K7}{w:World}{A:La}{E:Value->K3->Prop}{s:K3}{K:MP}{x dx C f:Addr}{mA:HZ}{name:Str}{v:Value}
end
theorem hU.some_of {v:V}{o:Ie}(r:hU (some v) o):∃u,o=some u/\RelV v u:=by
 cases o with
 | none=>exact(show False from r).elim
 | some u=>exact⟨u,rfl,r⟩
section
variable {P:K7}{w:World}{H H':Hp}{h h':Heap}{a C dx:Addr}{fs fs':List (Str×V)}
theorem Am (Nm:cQ P w H h)(e:H a=some (.ins C dx fs)):∃mA,yQ h a dx C mA/\(∀f,hU (fs.lookup f) (mA f))/\PySem.Within mA (fs.map (·.1))/\fs.length<=1000/\H dx=some (.own a):=by
 obtain⟨d,z,ne,ob,mA,n,r,q⟩:=(show cj P w H h a (.ins C dx fs) from Nm a _ e)
 exact⟨mA,⟨ob,n,ne⟩,r,q,z,d⟩
end
structure BC (K:MP) (C:Addr):Prop where
 pg:PySem.W.plainGet K C Str.empty=true
 hd:PySem.W.hasDictIn K C=true
 po:PySem.W.plainOver K C=true
 sa:M5 K (.ref C) "__setattr__"=some (some (.builtin "object.__setattr__"))
theorem BC.get {K:MP}{C:Addr}(c:BC K C)(f:Str):PySem.W.plainGet K C f=true:=c.pg
section
variable {X:Cx}{Nh:Ia}{σ:St}{H:Hp}{s:K3}{a C dx:Addr}{fs:List (Str×V)}{f:Str}{v:V}{A:La}{E:Value->K3->Prop}
end
section
variable {X:Cx}{o e value:Expr}{f:Str}{pos pos' Ra:Pos}{ta tv:TE}
end
section
variable {X:Cx}{Nh:Ia}{σ:St}{H:Hp}{s:K3}{A:La}{E:Value->K3->Prop}{Q:Value->K3->Prop}{c:Value}{b:Bool}
inductive eZ (K:MP) (H:Hp):V->Value->Prop where
 | Nu:eZ K H .Nu (.type "NoneType")
 | bl (x:Bool):eZ K H (.bl x) (.type "bool")
 | int (i:Int):eZ K H (.int i) (.type "int")
 | str (x:Str):eZ K H (.str x) (.type "str")
 | Sh (x:UInt64):eZ K H (.Sh x) (.type "float")
 | lst {a:Addr} {xs:List V} (e:H a=some (.lst xs)):eZ K H (.ref a) (.type "list")
 | N6 {a:Addr} {o:Obj} {xs:List V} (e:H a=some (.N6 o (.lst xs))):eZ K H (.ref a) (.type "list")
 | tup {a:Addr} {xs:List V} (e:H a=some (.tup xs)):eZ K H (.ref a) (.type "tuple")
 | dK {a:Addr} {kvs:List (Key×V)} (e:H a=some (.dK kvs)):eZ K H (.ref a) (.type "dict")
 | dT {a:Addr} {kvs:List (List Key×V)} (e:H a=some (.dT kvs)):eZ K H (.ref a) (.type "dict")
 | ins {a C dx:Addr} {fs:List (Str×V)} (e:H a=some (.ins C dx fs)) (cl:BC K C) (ha:M5 K (.ref C) "__class__"=some (some (.builtin "object.__class__")))
  (hn:PySem.W.specialIn K (.builtin "object.__class__") "__get__"=some (some (.builtin "getset_descriptor.__get__"))) (htk:PySem.W.takesIn K (.builtin "object.__class__")=some true)
  (hm:PySem.W.mroIn K C (.type "object")=some true):eZ K H (.ref a) (.ref C)
theorem xW {x:V}{u t:Value}(I:Inv X Nh σ H s)(rx:RelV x u)(ty:eZ X.K H x t)(e:MX X.K t c=some b)(h:∀tk,Q (.bool b) {s with toks:=tk}):
 wpAny (model X.prog X.w) A (call (.builtin "isinstance") [u,c]) Q E s:=by
 cases ty with
 | Nu=>cases (show u=MN from rx);exact MU PySem.W.kitx_none I.eJ Ng e (λz=>nomatch z) h
 | bl y=>cases (show u=MO y from rx);exact MU PySem.W.kitx_bool I.eJ Ng e (λz=>nomatch z) h
 | int i=>obtain⟨t,q⟩:=(show∃t,u=ML i t from rx);cases q;exact MU PySem.W.kitx_int I.eJ Ng e (λz=>nomatch z) h
 | str y=>obtain⟨t,q⟩:=(show∃t,u=MM y t from rx);cases q;exact MU PySem.W.kitx_str I.eJ Ng e (λz=>nomatch z) h
 | Sh y=>obtain⟨t,q⟩:=(show∃t,u=Value.float y t from rx);cases q;exact MU PySem.W.kitx_float I.eJ Ng e (λz=>nomatch z) h
 | @lst a xs ea=>
   cases (show u=MI a from rx)
   obtain⟨_,_,n,_,h1⟩:=(show cj X.prog X.w H s.heap a (.lst xs) from I.Nm a _ ea)
   exact MU PySem.W.kitx_list I.eJ ⟨_,h1,rfl⟩ e (λz=>nomatch z) h
 | @N6 a ob xs ea=>
   cases (show u=MI a from rx)
   obtain⟨_,_,_,n,_,h1⟩:=(show cj X.prog X.w H s.heap a (.N6 ob (.lst xs)) from I.Nm a _ ea)
   exact MU PySem.W.kitx_list I.eJ ⟨_,h1,rfl⟩ e (λz=>nomatch z) h
 | @tup a xs ea=>
   cases (show u=MI a from rx)
   obtain⟨_,_,_,p⟩:=(show cj X.prog X.w H s.heap a (.tup xs) from I.Nm a _ ea)
   obtain⟨o,h1,h2,_⟩:=p
   exact MU PySem.W.kitx_tuple I.eJ ⟨o,h1,h2⟩ e (λz=>nomatch z) h
 | @dK a kvs ea=>
   cases (show u=MI a from rx)
   obtain⟨_,_,vs,_,p⟩:=(show cj X.prog X.w H s.heap a (.dK kvs) from I.Nm a _ ea)
   obtain⟨o,es,ep,h1,h2,_⟩:=p
   exact MU PySem.W.kitx_dict I.eJ ⟨o,h1,h2.1⟩ e (λz=>nomatch z) h
 | @dT a kvs ea=>
   cases (show u=MI a from rx)
   obtain⟨_,_,xs,_,o,es,ep,h1,h2,_⟩:=(show cj X.prog X.w H s.heap a (.dT kvs) from I.Nm a _ ea)
   exact MU PySem.W.kitx_dict I.eJ ⟨o,h1,h2.1⟩ e (λz=>nomatch z) h
 | @ins a C dx fs ea cl ha hn htk hm=>
   cases (show u=MI a from rx)
   obtain⟨mA,O,_⟩:=Am I.Nm ea
   obtain⟨od,J,_⟩:=O.look
   exact MU (PySem.W.kitx_own (cl.get _) cl.hd ha hn htk hm) I.eJ J e (λz=>nomatch z) h
end
section
variable {A:La}
structure bI (k:Nat) (A:La):Prop where
 hd:A.handled=none
 dp:A.depth + 3 * k + 5 < recursionLimit
 un:A.units + 16 * k + 200 < cLine
theorem bI.mono {j k:Nat}(r:bI k A)(h:j<=k):bI j A:=⟨r.hd,by have:=r.dp;omega,by have:=r.un;omega⟩
theorem bI.deeper {k:Nat}(r:bI (k + 1) A)(env:Env):bI k (A.deeper env):=
 ⟨r.hd,by have:=r.dp;show A.depth + 1 + 3 * k + 5 < _;omega,by have:=r.un;show A.units + 3 + 16 * k + 200 < _;omega⟩
theorem bI.depth {k:Nat}(r:bI k A):A.depth < recursionLimit:=by have:=r.dp;omega
theorem bI.units {k:Nat}(r:bI k A):A.units + 64 < cLine:=by have:=r.un;omega
def Hm:TA:=λ_ H Q=>Q [] H
def EW (ta:TE)(tr:TA):TA:=λσ H Q=>ta σ H λx H1=>tr σ H1 λxs H2=>Q (x::xs) H2
end
section
variable {X:Cx}{e:Expr}{es:Ii}{te:TE}{t:TA}{pos:Pos}
theorem bJ:PA X [] Hm:=λ_ _ _ _ H Q I h=>Mq ⟨[],H,I,.nil,h⟩
theorem aH (ha:PE X e te)(hr:PA X es t)(hs:K2 (e::es) X.env=(false,eval e X.env)::K2 es X.env:=by rfl):PA X (e::es) (EW te t):=by
 intro pos Nh s σ H Q I h
 rw[hs]
 show wpAny _ _ (spliced ((false,eval e X.env)::Lb pos (K2 es X.env))) _ _ s
 refine Mn (aQ (ha Nh s σ H _ I h) λu s1 ⟨x,H1,I1,r1,q1⟩=>?_)
 exact aQ (hr pos Nh s1 σ H1 _ I1 q1) λus s2 ⟨xs,H2,I2,r2,q2⟩=>⟨x::xs,H2,I2,.cons r1 r2,q2⟩
def Hw (t:TA):TE:=λσ H Q=>t σ H λxs H1=>xs.length<=K4/\∀p,H1 p=none->Q (.ref p) (upd H1 p (.tup xs))
def HS (t:TA):TE:=λσ H Q=>t σ H λxs H1=>xs.length<=K4/\∀p,H1 p=none->Q (.ref p) (upd H1 p (.lst xs))
theorem lD {x1}(h:PA X es t):PE X (.Tuple es x1 pos) (Hw t):=by
 intro Nh s σ H Q I hq
 refine wpAny_Tuple_spliced (aQ (h pos Nh s σ H _ I hq) λus s1 ⟨xs,H1,I1,r,z,q⟩=>⟨by rw[← r.length];exact z,?_⟩)
 have hf:H1 s1.heap.objs.size=none:=I1.Nm.fresh (Kp _)
 refine⟨.ref s1.heap.objs.size,upd H1 s1.heap.objs.size (.tup xs),I1.laid (t':=s1.toks) (λb u e=>Mx _ e) (Kp _) ?_,rfl,q _ hf⟩
 exact⟨z,us,r,⟨_,My _ rfl,rfl,_,rfl⟩⟩
theorem vA (h:PA X es t):PE X (.List es pos) (HS t):=by
 intro Nh s σ H Q I hq
 refine wpAny_List_spliced (aQ (h pos Nh s σ H _ I hq) λus s1 ⟨xs,H1,I1,r,z,q⟩=>⟨by rw[← r.length];exact z,?_⟩)
 have hf:H1 s1.heap.objs.size=none:=I1.Nm.fresh (Kp _)
 refine⟨.ref s1.heap.objs.size,upd H1 s1.heap.objs.size (.lst xs),I1.laid (t':=s1.toks) (λb u e=>Mx _ e) (Kp _) ?_,rfl,q _ hf⟩
 exact⟨z,us,0,r,My _ rfl⟩
end
abbrev Sp:=List V->Hp->VK->XK->Prop
abbrev jV:=List Env->Hp->K3->XK->Value->K3->Prop
structure rO (P:K7) (w:World) (K:MP) (mg:HZ) (base:Heap) (A:La) (outer:List Env) (s:K3) (H:Hp):Prop where
 frames:A.frames=some outer
 mod:Mod K mg base
 bs:∀b o,base.get? b=some o->s.heap.get? b=some o/\H b=none
 PH:base.objs.size<=s.heap.objs.size
 N5:s.heap.FunFrames base outer
 Qq:∀b∈cG outer,H b=none
 Nm:cQ P w H s.heap
 bare:KW s.gens
def CE (outer:List Env)(P:K7)(w:World)(H:Hp)(s:K3)(Q:VK)(u:Value)(s':K3):Prop:=
 ∃v H',s'.os=s.os/\KW s'.gens/\Un (cG outer) [] H H' s.heap s'.heap/\cQ P w H' s'.heap/\RelV v u/\Q v H'
def CR (CX:jV)(outer:List Env)(P:K7)(w:World)(H:Hp)(s:K3)(Q:VK)(E:XK)(r:Result)(s':K3):Prop:=
 match r with
 | .ok (.ret u)=>CE outer P w H s Q u s'
 | .ok _=>False
 | .error e=>CX outer H s E e s'
structure fH (P:K7) (w:World) (K:MP) (mg:HZ) (base:Heap) (CX:jV) (k:Nat) (f:Addr) (fd:Ld) (ps:Ic) (sp:Sp):Prop where
 len:∀vs H Q E,sp vs H Q E->vs.length=ps.length
 run:∀(A:La) (outer:List Env) (s:K3) (H:Hp) (args:Args) (us:Ih) (vs:List V) (Q:VK) (E:XK),bI k A->rO P w K mg base A outer s H->Md s fd args (ps.zip us)->Vals vs us->sp vs H Q E->
  Me (model P w) A (.call (.ref f) args) (CR CX outer P w H s Q E) s
theorem fH.mono {P:K7}{w:World}{K:MP}{mg:HZ}{base:Heap}{CX:jV}{j k:Nat}{f:Addr}{fd:Ld}{ps:Ic}{sp:Sp}(F:fH P w K mg base CX j f fd ps sp)(h:j<=k):
 fH P w K mg base CX k f fd ps sp:=⟨F.len,λA outer s H args us vs Q E hr=>F.run A outer s H args us vs Q E (hr.mono h)⟩
section
variable {X:Cx}{Nh:Ia}{σ:St}{H:Hp}{s s':K3}
theorem Inv.zh (I:Inv X Nh σ H s):rO X.prog X.w X.K X.mg X.base X.A X.stack s H:=
 ⟨I.ok.frames,I.ok.mod,I.bs,Kq I.ok.PH I.sz,I.stack,I.gT,I.Nm,I.bare⟩
theorem Inv.after {Q:VK}{u:Value}(I:Inv X Nh σ H s)(h:CE X.stack X.prog X.w H s Q u s'):EP X Nh σ Q u s':=by
 obtain⟨v,H',os,bare,un,Nm,r,q⟩:=h
 obtain⟨hh,g,d,t,os'⟩:=s'
 obtain rfl:os'=s.os:=os
 exact⟨v,H',I.call (h':=hh) (g':=g) (d':=d) (t':=t) (ch:=[]) un Nm bare (λb z=>absurd z (by simp)),r,q⟩
end
def Fq (sp:Sp)(Q7:List V)(E:XK)(t:TA):TE:=λσ H Q=>t σ H λvs H1=>sp (vs++Q7) H1 Q E
def Binds (K:MP)(fd:Ld)(ps:Ic)(ds:Ih):Prop:=
 ∀(s:K3) (us:Ih),K.In s.heap->(us++ds).length=ps.length->Md s fd ⟨us,[]⟩ (ps.zip (us++ds))
theorem Binds.all {K:MP}{fd:Ld}{ps:Ic}(h:∀us:Ih,us.length=ps.length->bindArgs fd ⟨us,[]⟩=pure (ps.zip us)):Binds K fd ps []:=λs us _ hl=>by
 rw[Jj] at hl ⊢
 exact .of_eq (h us hl)
def Passes (CX:jV)(X:Cx)(E:XK):Prop:=∀(Nh:Ia) (σ:St) (H:Hp) (s:K3) (e:Value) (s':K3),Inv X Nh σ H s->CX X.stack H s E e s'->X.xe e s'
section
variable {X:Cx}{CX:jV}{k:Nat}{f C:Addr}{fd:Ld}{ps:Ic}{sp:Sp}{Q7:List V}{ds:Ih}{E:XK}{x m:Str}{p pos apos:Pos}{e o:Expr}{es:Ii}{ta:TE}{t:TA}
theorem BJ {Nh:Ia}{σ:St}{H:Hp}{s:K3}{Q:VK}{us:Ih}{vs:List V}(F:fH X.prog X.w X.K X.mg X.base CX k f fd ps sp)(hr:bI k X.A)(hb:Binds X.K fd ps ds)(hd:Vals Q7 ds)(hx:Passes CX X E)
 (I:Inv X Nh σ H s) (r:Vals vs us) (h:sp (vs++Q7) H Q E):wpAny (model X.prog X.w) X.A (call (.ref f) us) (EP X Nh σ Q) X.xe s:=by
 have r2:Vals (vs++Q7) (us++ds):=r.append hd
 have hl:(us++ds).length=ps.length:=by rw[← r2.length];exact F.len _ _ _ _ h
 refine L4 (LN (F.run X.A X.stack s H ⟨us,[]⟩ (us++ds) (vs++Q7) Q E hr I.zh (hb s us I.eJ hl) r2 h) λr s' hq=>?_)
 cases r with
 | error e=>exact hx Nh σ H s e s' I hq
 | ok fl=>
   cases fl with
   | ret u=>exact I.after hq
   | next=>exact Iy hq
   | brk=>exact Iy hq
   | cont=>exact Iy hq
theorem hZ (F:fH X.prog X.w X.K X.mg X.base CX k f fd ps sp)(hr:bI k X.A)(hg:Gl X x)(hm:X.mg x=some (.ref f))(hk:MZ X.K (.ref f)=true)(hb:Binds X.K fd ps ds)(hd:Vals Q7 ds)(hx:Passes CX X E)
 (ha:PA X (e::es) t) (Nx:Nr x:=by decide) (he:K2 (e::es) X.env=(false,eval e X.env)::K2 es X.env:=by rfl) (Nw:(Lb pos (K2 es X.env)).any (·.1)=false:=by rfl):
 PE X (.Call (.Name x p) (e::es) [] pos) (Fq sp Q7 E t):=by
 intro Nh s σ H Q I h
 refine Lw (h8 I hg hm ?_ Nx)
 refine M4 (h₀:=X.base) I.ok.mod.Qx hk (aQ (ha pos Nh s σ H _ I h) λus s1 ⟨vs,H1,I1,r,q⟩=>⟨I1.eJ,?_⟩) he Nw
 exact BJ F hr hb hd hx I1 r q
end
section
variable {X:Cx}{CX:jV}{k:Nat}{f C:Addr}{fd:Ld}{ps ks:Ic}{sp:Sp}{E:XK}{x m:Str}{p pos apos kpos:Pos}{e o:Expr}{es:Ii}{kws:List Ll}{te ta:TE}{t tk:TA}{nm:Option Str}
variable {g:Ih->Ih->Ih}{gV:List V->List V->List V}
end
structure aF (N P:Ic) (sc:Scope):Prop where
 kind:sc.kind= .function
 co:sc.isCoroutine=false
 gen:sc.isGenerator=false
 nd:N.Nodup
 pre:N.take P.length=P
 par:∀x∈P,sc.names.lookup x=some .local∨sc.names.lookup x=some .cell
 Rl:∀y∈sc.names,y.2≠ .free
theorem ND{N P:Ic}{sc:Scope}(a:sc.kind=.function:=by rfl)(b:sc.isCoroutine=false:=by rfl)(c:sc.isGenerator=false:=by rfl)(d:N.Nodup:=by decide +kernel)(e:N.take P.length=P:=by rfl)(f:∀x∈P,sc.names.lookup x=some .local∨sc.names.lookup x=some .cell:=by decide +kernel)(g:∀y∈sc.names,y.2≠.free:=by decide +kernel):aF N P sc:=⟨a,b,c,d,e,f,g⟩
theorem oD {kindOf:Str->Option LF}{x:Str}:∀{binds:List (Str×Value)} {m:HZ},(∀v,(x,v)∉binds)->bindL kindOf binds m x=m x
 | [],_,_=>rfl
 | (n,v)::r,m,h=>by
   unfold bindL
   rw[oD λw hw=>h w (IK _ hw)]
   split
   ·have:x≠n:=by rintro rfl;exact h v IT
    simp[this]
   ·rfl
theorem pj {kindOf:Str->Option LF}{x:Str}:∀{binds:List (Str×Value)} {m:HZ},(∀v,(x,v)∉binds)->bindC kindOf binds m x=m x
 | [],_,_=>rfl
 | (n,v)::r,m,h=>by
   unfold bindC
   rw[pj λw hw=>h w (IK _ hw)]
   split
   ·rfl
   ·have:x≠n:=by rintro rfl;exact h v IT
    simp[this]
theorem pv {kindOf:Str->Option LF}{x:Str}{v:Value}:∀{P:Ic} {vs:Ih} {i:Nat} {m:HZ},P.Nodup->P[i]?=some x->vs[i]?=some v->kindOf x=some .local->
 bindL kindOf (P.zip vs) m x=some v
 | [],_,_,_,_,h,_,_=>by simp at h
 | _::_,[],_,_,_,_,h,_=>by simp at h
 | p::P,w::vs,0,m,nd,h1,h2,hk=>by
   simp at h1 h2;subst h1;subst h2
   show bindL kindOf ((p,w)::P.zip vs) m p=_
   unfold bindL
   rw[oD λv hv=>(Jh.mp nd).1 (of_mem_zip hv).1,if_pos hk]
   simp
 | p::P,w::vs,i + 1,m,nd,h1,h2,hk=>by
   show bindL kindOf ((p,w)::P.zip vs) m x=_
   unfold bindL
   exact pv (i:=i) (Jh.mp nd).2 (by simpa using h1) (by simpa using h2) hk
theorem oV {kindOf:Str->Option LF}{x:Str}{v:Value}:∀{P:Ic} {vs:Ih} {i:Nat} {m:HZ},P.Nodup->P[i]?=some x->vs[i]?=some v->kindOf x≠some .local->
 bindC kindOf (P.zip vs) m x=some v
 | [],_,_,_,_,h,_,_=>by simp at h
 | _::_,[],_,_,_,_,h,_=>by simp at h
 | p::P,w::vs,0,m,nd,h1,h2,hk=>by
   simp at h1 h2;subst h1;subst h2
   show bindC kindOf ((p,w)::P.zip vs) m p=_
   unfold bindC
   rw[pj λv hv=>(Jh.mp nd).1 (of_mem_zip hv).1,if_neg hk]
   simp
 | p::P,w::vs,i + 1,m,nd,h1,h2,hk=>by
   show bindC kindOf ((p,w)::P.zip vs) m x=_
   unfold bindC
   exact oV (i:=i) (Jh.mp nd).2 (by simpa using h1) (by simpa using h2) hk
def start (N:Ic)(vs:List V):St:=vs.map some++Jd (N.length - vs.length) none
def bQ (CX:jV)(P:K7)(w:World)(K:MP)(mg:HZ)(base:Heap)(N:Ic)(qual:Str)(scope:Scope)(f:Addr)(cd:Value)(A:La)(outer:List Env)(s:K3)(H:Hp)(E:XK):Cx where
 prog:=P
 w:=w
 K:=K
 mg:=mg
 base:=base
 A:=A.deeper (KP qual scope s.heap.objs.size f cd)
 N:=N
 s₀:=s
 H₀:=H
 env:=KP qual scope s.heap.objs.size f cd
 outer:=outer
 stack:=KP qual scope s.heap.objs.size f cd::outer
 ex:=[]
 calm:=true
 fn:=λ_=>true
 pn:=[]
 xe:=λe s'=>wpAny (model P w) (A.deeper (KP qual scope s.heap.objs.size f cd)) (leaving (KP qual scope s.heap.objs.size f cd) e) (λ_ s''=>CX outer H s E e s'') (λe' s''=>CX outer H s E e' s'') s'
theorem aU {sc:Scope}{n:Nat}{x:Str}(h:sc.names.lookup x=some .cell):∃c,(cellsFrom n sc.names []).lookup x=some c:=by
 have q:=PySem.W.cellsFrom_some sc.names n [] (.inl h)
 exact Option.isSome_iff_exists.mp q
theorem wC {CX:jV}{P:K7}{w:World}{K:MP}{mg:HZ}{base:Heap}{N ps:Ic}{qual:Str}{scope:Scope}{f:Addr}{cd:Value}{A:La}{outer:List Env}{s s1:K3}{H:Hp}{E:XK}{us:Ih}{vs:List V}
 (S:aF N ps scope) (hd:A.handled=none) (e0:rO P w K mg base A outer s H) (hl:vs.length=ps.length) (r:Vals vs us)
 (x:InCallC s s.heap.objs.size (bindL (KP qual scope s.heap.objs.size f cd).kindOf (ps.zip us) λ_=>none) (cellsFrom (s.heap.objs.size + 1) scope.names []) (bindC (KP qual scope s.heap.objs.size f cd).kindOf (ps.zip us) λ_=>none) s1):
 Inv (bQ CX P w K mg base N qual scope f cd A outer s H E) [] (start N vs) H s1:=by
 have Nw:ps.length<=N.length:=by have:=congrArg List.length S.pre;rw[Jm] at this;omega
 obtain⟨h1,tk,rfl,hk⟩:=x.done
 have Sz:∀b:Addr,b∉(bQ CX P w K mg base N qual scope f cd A outer s H E).ex:=λb z=>absurd (show b∈([]:Ig) from z) (by simp)
 refine⟨⟨e0.mod,S.kind,rfl,rfl,Kp _,λy z c h1 h2=>?_,λy hy=>?_,λy c _ h=>?_,λ_=>hd,La.frames_deeper e0.frames,.inr ⟨rfl,rfl⟩,λb z=>absurd z (Sz b),e0.bs,e0.PH,λb _ _=>Sz b,λb z=>absurd z (Sz b),e0.N5,e0.Qq⟩,
  rfl,e0.bare,Un.kept hk,⟨_,x.toInCall.ns,λi y v h1 h2 h3=>?_⟩,λy c h=>⟨_,x.cell y c h⟩,e0.Nm.fresh (Kp _),λy c h=>?_,λp hp=>absurd (show p∈([]:Ia) from hp) (by simp),e0.Nm.kept hk,?_⟩
 ·exact name_of_addr x.apart (Lh h1) (Lh h2)
 ·have hy:scope.names.lookup y=some .cell∨scope.names.lookup y=some .free:=hy
  rcases hy with hy | hy
  ·exact aU hy
  ·exact absurd rfl (S.Rl _ (Lh hy))
 ·exact KC (x.above y c (Lh h))
 ·have hi:i < vs.length:=by
   unfold start at h2
   by_cases hi:i < vs.length
   ·exact hi
   ·rw[Jg (by simpa using hi)] at h2
    rw[JE] at h2
    split at h2<;>cases h2
  have ha:vs[i]?=some v:=by
   unfold start at h2
   rw[Jn (by simpa using hi),Je] at h2
   cases e:vs[i]? with
   | none=>rw[e] at h2;cases h2
   | some a=>rw[e] at h2;cases h2;rfl
  obtain⟨u,hu,rv⟩:=r.get ha
  have hp:ps[i]?=some y:=by
   rw[← S.pre,List.getElem?_take_of_lt (by omega)];exact h1
  have ndP:ps.Nodup:=by rw[← S.pre];exact S.nd.sublist (List.take_sublist _ _)
  refine⟨u,rv,?_⟩
  rcases S.par y (IQ hp) with k | k
  ·exact .inl ⟨k,pv ndP hp hu k⟩
  ·obtain⟨c,e⟩:=aU (n:=s.heap.objs.size + 1) k
   refine .inr ⟨.inl k,c,e,?_⟩
   have q:=x.cell y c e
   rw[oV ndP hp hu (by show scope.names.lookup y≠_;rw[k];decide)] at q
   exact q
 ·exact e0.Nm.fresh (KC (x.above y c (Lh h)))
 ·unfold start
  show _=N.length
  rw[IL,IM,JB]
  omega
theorem ua {CX:jV}{P:K7}{w:World}{K:MP}{mg:HZ}{base:Heap}{k:Nat}{f:Addr}{name qual:Str}{params:Arguments}{body:List Stmt}{scope:Scope}{dV kV doc pm Nl ct oc:Value}{an od:Option Addr}
 {O7:Array Ie} {N ps:Ic} {sp:Sp} (lk:K.lookup f=some ⟨oc,od,.func (MY name qual params body scope dV kV doc pm an Nl ct),O7⟩) (Np:M6 K Nl qual=true) (S:aF N ps scope)
 (len:∀vs H Q E,sp vs H Q E->vs.length=ps.length)
 (NH:∀(A:La) (outer:List Env) (s:K3) (H:Hp) (vs:List V) (Q:VK) (E:XK),bI k (A.deeper (KP qual scope s.heap.objs.size f Nl))->sp vs H Q E->
  ∃t,iy (bQ CX P w K mg base N qual scope f Nl A outer s H E) body t/\t {nx:=λ_ H'=>Q .Nu H',rt:=Q} (start N vs) H):
 fH P w K mg base CX (k + 1) f (MY name qual params body scope dV kV doc pm an Nl ct) ps sp:=by
 refine⟨len,λA outer s H args us vs Q E hr e0 hb r QU=>?_⟩
 have hl:=len _ _ _ _ QU
 have KX:K.In s.heap:=e0.mod.Qx.keeps λb o e=>(e0.bs b o e).1
 have lim:s.heap.NoLimit:=e0.mod.nolimit.keeps λb o e=>(e0.bs b o e).1
 have S7:∀y∈ps.zip us,scope.names.lookup y.1=some .local∨(scope.names.lookup y.1=some .cell/\((cellsFrom (s.heap.objs.size + 1) scope.names []).lookup y.1).isSome=true):=λ⟨n,v⟩ hy=>by
  rcases S.par n (of_mem_zip hy).1 with q | q
  ·exact .inl q
  ·exact .inr ⟨q,PySem.W.cellsFrom_some _ _ _ (.inl q)⟩
 refine codeAny_call_function hr.depth (KX _ _ lk) rfl S.co S.gen rfl (PySem.W.codeRec_of KX Np) (hb _ _ _ _ ?_)
 refine wpAny_newFunctionEnv_cells S.kind S7 λenv he s1 x=>?_
 subst he
 refine⟨lim.keeps x.toInCall.keep,codeAny_func ?_⟩
 obtain⟨t,ht,hq⟩:=NH A outer s H vs Q E (hr.deeper _) QU
 have I:Inv (bQ CX P w K mg base N qual scope f Nl A outer s H E) [] (start N vs) H s1:=wC S hr.hd e0 hl r x
 refine Lf (ht [] s1 (start N vs) H _ I hq) (λfl s' hs=>?_) λe s' hs=>hs
 have fin:∀{σ':St} {H':Hp} {v:V} {u:Value},Inv (bQ CX P w K mg base N qual scope f Nl A outer s H E) [] σ' H' s'->RelV v u->Q v H'->CE outer P w H s Q u s':=
  λ{σ' H' v u} J rv q=>⟨v,H',J.os,J.bare,J.base,J.Nm,rv,q⟩
 cases fl with
 | ret u=>
   obtain⟨v,σ',H',J,rv,q⟩:=hs
   exact fin J rv q
 | next=>
   obtain⟨σ',H',J,q⟩:=hs
   exact fin (v:=V.Nu) (u:=MN) J rfl q
 | brk=>
   obtain⟨_,_,_,q⟩:=hs
   exact Iy q
 | cont=>
   obtain⟨_,_,_,q⟩:=hs
   exact Iy q
section
variable {X:Cx}{x:Str}{p pos:Pos}{e:Expr}{es:Ii}{t:TA}{id T:String}{r:List V->Hp->VK->Prop}
def Gv (r:List V->Hp->VK->Prop)(t:TA):TE:=λσ H Q=>t σ H λvs H1=>r vs H1 Q
theorem dq (hc:dH X (.builtin id) r)(hg:Gl X x)(hm:X.mg x=none)(hv:Lo x=some (.builtin id))(ha:PA X (e::es) t)(hn:x≠"__name__":=by decide)(Nx:Nr x:=by decide)
 (he:K2 (e::es) X.env=(false,eval e X.env)::K2 es X.env:=by rfl) (Nw:(Lb pos (K2 es X.env)).any (·.1)=false:=by rfl):PE X (.Call (.Name x p) (e::es) [] pos) (Gv r t):=by
 intro Nh s σ H Q I h
 refine Lw (jU I hg hm hv ?_ hn Nx)
 exact PyProof.Rows.callWith_builtin1 (aQ (ha pos Nh s σ H _ I h) λus s1 ⟨vs,H1,I1,r1,q1⟩=>hc Nh s1 σ H1 vs us Q I1 r1 q1) he Nw
theorem gx (hc:dH X (.type T) r)(hg:Gl X x)(hm:X.mg x=none)(hv:Lo x=some (.type T))(ha:PA X (e::es) t)(hn:x≠"__name__":=by decide)(Nx:Nr x:=by decide)
 (he:K2 (e::es) X.env=(false,eval e X.env)::K2 es X.env:=by rfl) (Nw:(Lb pos (K2 es X.env)).any (·.1)=false:=by rfl):PE X (.Call (.Name x p) (e::es) [] pos) (Gv r t):=by
 intro Nh s σ H Q I h
 refine Lw (jU I hg hm hv ?_ hn Nx)
 exact KS (aQ (ha pos Nh s σ H _ I h) λus s1 ⟨vs,H1,I1,r1,q1⟩=>hc Nh s1 σ H1 vs us Q I1 r1 q1) he Nw
end
end L2
namespace HT
open PySem PyProof.Rows
section
open PySem.SeqAt
open PySem.AutoSeq1 (wpAny_loadPart')
open PySem.MeetsSeq PySem.MeetsSeq2 PySem.MeetsSeq3
end
section
variable {prog:K7}{w:World}{A:La}{E:Value->K3->Prop}{s:K3}
def Ny (n d:Nat):Option Int->Nat
 | none=>d
 | some v=>if v < 0 then(v + (n:Int)).toNat else min v.toNat n
theorem B3 (n d:Nat)(hd:d<=n)(o:Option Int):Ny n d o<=n:=by
 cases o with
 | none=>exact hd
 | some v=>
   show(if v < 0 then(v + (n:Int)).toNat else min v.toNat n)<=n
   by_cases hv:v < 0
   ·rw[if_pos hv];omega
   ·rw[if_neg hv];exact Nat.min_le_right _ _
theorem sM (v:Int)(n d:Nat):(if v < 0 then max (v + (n:Int)) 0 else min v (n:Int))=((Ny n d (some v):Nat):Int):=by
 show(if v < 0 then max (v + (n:Int)) 0 else min v (n:Int))=(((if v < 0 then(v + (n:Int)).toNat else min v.toNat n):Nat):Int)
 by_cases hv:v < 0
 ·simp only[if_pos hv];omega
 ·simp only[if_neg hv];omega
theorem uG (lo hi:Option Int)(n:Nat):Ml lo hi 1 (n:Int)=(((Ny n 0 lo:Nat):Int),((Ny n n hi:Nat):Int)):=by
 have h1:¬((1:Int) < 0):=by omega
 unfold Ml
 simp only[h1,if_false]
 refine Prod.ext ?_ ?_
 ·cases lo with
  | none=>rfl
  | some v=>exact sM v n 0
 ·cases hi with
  | none=>rfl
  | some v=>exact sM v n n
theorem uB (i j:Nat):Mk (i:Int) (j:Int) 1=j - i:=by
 unfold Mk
 have h1:(1:Int) > 0:=by omega
 simp only[h1,if_true,Int.ediv_one]
 split<;>omega
theorem nH {v:Value}{o:Option Int}{Q:Option Int->K3->Prop}(p:L8 v o)(h:Q o s):wpAny (model prog w) A (Builtin.Slice.slicePartIndex v) Q E s:=by
 cases p with
 | none=>exact slicePart_none h
 | int i t=>exact slicePart_int h
theorem mF {sl:Addr}{vl vu:Value}{lo hi:Option Int}{n:Nat}{Q:Int×Int×Nat->K3->Prop}(hs:s.heap.IsSliceOf sl vl vu .none)(pl:L8 vl lo)(pu:L8 vu hi)
 (h:Q (((Ny n 0 lo:Nat):Int),1,Ny n n hi - Ny n 0 lo) s):wpAny (model prog w) A (Builtin.Slice.sliceApplied (.ref sl) (pure (n:Int))) Q E s:=by
 obtain⟨os,SX,hcs,hds⟩:=id hs
 unfold Builtin.Slice.sliceApplied Builtin.Slice.sliceFields
 refine K6 (K6 (wpAny_field SX hds (x:=vl) rfl (K6 (wpAny_field SX hds (x:=vu) rfl (K6 (wpAny_field SX hds (x:=.none) rfl (K8 ?_)))))))
 refine K6 (slicePart_none ?_)
 show wpAny _ _ (if((1:Int)==0)=true then _ else _) _ _ s
 rw[if_neg (by decide)]
 refine K6 (nH pl (K6 (nH pu (K6 (K8 ?_)))))
 show wpAny _ _ (match Ml lo hi 1 (n:Int) with | (lo,hi)=>pure (lo,(1:Int),Mk lo hi 1)) _ _ s
 rw[uG lo hi n]
 show wpAny _ _ (pure (((Ny n 0 lo:Nat):Int),(1:Int),Mk ((Ny n 0 lo:Nat):Int) ((Ny n n hi:Nat):Int) 1)) _ _ s
 rw[uB]
 exact K8 h
theorem y9 (xs:Array Value)(i k:Nat):((JH k).filterMap λ(m:Nat)=>xs[((i:Int) + (m:Int) * 1).toNat]?).toArray=((xs.toList.drop i).take k).toArray:=by
 have e:(λ(m:Nat)=>xs[((i:Int) + (m:Int) * 1).toNat]?)=λm=>xs[i + m]?:=by
  funext m
  have:((i:Int) + (m:Int) * 1).toNat=i + m:=by omega
  rw[this]
 rw[e]
 have:=pick_run xs i k
 rw[List.filterMap_map] at this
 have e2:((λx=>xs[x]?) ∘ λx=>i + x)=λm=>xs[i + m]?:=rfl
 rw[e2] at this
 rw[this]
theorem lX {t sl:Addr}{items:Array Value}{vl vu:Value}{lo hi:Option Int}{Q:Value->K3->Prop}(ht:IsTup s.heap t items)(hs:s.heap.IsSliceOf sl vl vu .none)(pl:L8 vl lo)(pu:L8 vu hi)
 (hw:¬(Ny items.size 0 lo=0/\Ny items.size items.size hi=items.size))
 (h:Q (.ref s.heap.objs.size) {s with heap:=s.heap.push {cls:=.type "tuple",data:=.seq ((items.toList.drop (Ny items.size 0 lo)).take (Ny items.size items.size hi - Ny items.size 0 lo)).toArray}})
 (hsz:items.size<=K4):wpAny (model prog w) A (LS (.ref t) (.ref sl)) Q E s:=by
 have Pl:sizeOk (.seq ((items.toList.drop (Ny items.size 0 lo)).take (Ny items.size items.size hi - Ny items.size 0 lo)).toArray):=by
  show((items.toList.drop (Ny items.size 0 lo)).take (Ny items.size items.size hi - Ny items.size 0 lo)).toArray.size<=K4
  rw[Jc,Jm,J6,Ik]
  omega
 have hj:Ny items.size items.size hi<=items.size:=B3 _ _ (Kp _) hi
 obtain⟨os,SX,hcs,hds⟩:=id hs
 have hTs:s.TypeIs (.ref sl) "slice":=⟨os,SX,hcs⟩
 unfold LS
 try with_reducible refine Ln ?_
 first | refine K6 (K8 ?_) | skip
 refine K6 (wpAny_sequenceKey ht.typeIs (by decide) ?_)
 refine K6 (wpAny_callSpecial?_slot (name:=Str.ofString "__getitem__") ht.typeIs KU
  (wpAny_call_entry KU ht.typeIs entry_tuple_getitem ?_ (args_tuple_getitem _ _)))
 show wpAny _ _ (Builtin.Tuple.tupleItemsOf (.ref t) >>=_) _ _ s
 refine K6 (tupleItemsOf_ ht ?_)
 refine K6 (wpAny_typeOf hTs ?_)
 rw[if_pos (by decide)]
 refine K6 (mF hs pl pu ?_)
 have OZ:¬((((Ny items.size 0 lo:Nat):Int)==0&&(1:Int)==1&&(Ny items.size items.size hi - Ny items.size 0 lo)==items.size)=true):=by
  intro q
  rw[Io,Io] at q
  have q1:((Ny items.size 0 lo:Nat):Int)=0:=eq_of_beq q.1.1
  have q2:Ny items.size items.size hi - Ny items.size 0 lo=items.size:=eq_of_beq q.2
  exact hw ⟨by omega,by omega⟩
 show wpAny _ _ (if(((Ny items.size 0 lo:Nat):Int)==0&&(1:Int)==1&&(Ny items.size items.size hi - Ny items.size 0 lo)==items.size)=true then _ else _) _ _ s
 rw[if_neg OZ,y9]
 first
  | exact K6 (m:=Mm _) (LI (K8 ⟨_,rfl,K8 h⟩) Pl)
  | exact K6 (m:=Mm _) (LI (K6 (K8 (K8 ⟨_,rfl,K8 h⟩))) Pl)
  | exact K6 (K6 (m:=Mm _) (LI (K8 (K8 ⟨_,rfl,K8 h⟩)) Pl))
  | exact K6 (K6 (m:=Mm _) (LI (K8 ⟨_,rfl,K8 h⟩) Pl))
end
end HT
namespace L2
open PySem PySem.Spec PyProof.Rows
abbrev TO:=St->Hp->(Option Int->Hp->Prop)->Prop
def PO (X:Cx)(e:Option Expr)(t:TO):Prop:=
 ∀(Nh:Ia) (s:K3) (σ:St) (H:Hp) (Q:Option Int->Hp->Prop),Inv X Nh σ H s->t σ H Q->
  wpAny (model X.prog X.w) X.A (evalPart e X.env) (λu s'=>∃o H',Inv X Nh σ H' s'/\L8 u o/\Q o H') X.xe s
def Bi:TO:=λ_ H Q=>Q none H
def F0 (t:TE):TO:=λσ H Q=>t σ H λx H1=>∃i,x= .int i/\Q (some i) H1
theorem intsAre_of {ns:Ib}:∀{us:Ih},Vals (ns.map V.int) us->KZ us ns:=by
 induction ns with
 | nil=>intro us r;rw[map_nil] at r;cases r;exact .nil
 | cons n ns ih=>
   intro us r
   rw[Js] at r
   cases r with
   | cons r1 r2=>
     obtain⟨t,e⟩:=r1
     subst e
     exact .cons n t (ih r2)
section
variable {X:Cx}{e:Expr}{te:TE}{lo hi:Option Expr}{tl th:TO}{pos p2:Pos}
theorem sU:PO X none Bi:=by
 intro Nh s σ H Q I h
 rw[evalPart_none]
 exact K8 ⟨none,H,I,.none,h⟩
theorem tH (h:PE X e te):PO X (some e) (F0 te):=by
 intro Nh s σ H Q I hw
 rw[evalPart_some]
 refine aQ (h Nh s σ H _ I hw) λu s1 ⟨x,H1,I1,r1,q1⟩=>?_
 obtain⟨i,rfl,q⟩:=q1
 obtain⟨t,rfl⟩:=r1
 exact⟨some i,H1,I1,.int i t,q⟩
def CZ (X:Cx)(r:V->Option Int->Option Int->Hp->VK->Prop):Prop:=
 ∀(Nh:Ia) (s:K3) (σ:St) (H:Hp) (x:V) (v vl vu:Value) (lo hi:Option Int) (sl:Addr) (Q:VK),Inv X Nh σ H s->RelV x v->s.heap.IsSliceOf sl vl vu .none->L8 vl lo->L8 vu hi->r x lo hi H Q->
  ∃T id,typeLookup (.type T) "__getitem__"=pure (some (.builtin id))/\s.TypeIs v T/\wpAny (model X.prog X.w) X.A (LS v (.ref sl)) (EP X Nh σ Q) X.xe s
def tSl (r:V->Option Int->Option Int->Hp->VK->Prop)(te:TE)(tl th:TO):TE:=λσ H Q=>te σ H λx H1=>tl σ H1 λl H2=>th σ H2 λu H3=>r x l u H3 Q
theorem mE {r:V->Option Int->Option Int->Hp->VK->Prop}(hr:CZ X r)(he:PE X e te)(hl:PO X lo tl)(hu:PO X hi th):PE X (.Subscript e (.Slice lo hi none p2) pos) (tSl r te tl th):=by
 intro Nh s σ H Q I h
 refine Subscript_ (aQ (he Nh s σ H _ I h) λv s1 ⟨x,H1,I1,r1,q1⟩=>?_)
 refine wpAny_Slice (aQ (hl Nh s1 σ H1 _ I1 q1) λvl s2 ⟨l,H2,I2,pl,q2⟩=>aQ (hu Nh s2 σ H2 _ I2 q2) λvu s3 ⟨u,H3,I3,pu,q3⟩=>?_)
 rw[evalPart_none]
 refine K8 ?_
 have I4:Inv X Nh σ H3 {s3 with heap:=s3.heap.push {cls:=.type "slice",data:=.fields #[vl,vu,.none]}}:=I3.kept (t':=s3.toks) λb ob q=>Mx _ q
 obtain⟨T,id,hT,ht,hg⟩:=hr Nh {s3 with heap:=s3.heap.push {cls:=.type "slice",data:=.fields #[vl,vu,.none]}} σ H3 x v vl vu l u s3.heap.objs.size Q I4 r1 (Heap.IsSliceOf.new ..) pl pu q3
 show wpAny (model X.prog X.w) X.A (K0 e (.Slice lo hi none p2) v (.ref s3.heap.objs.size)) (EP X Nh σ Q) X.xe {s3 with heap:=s3.heap.push {cls:=.type "slice",data:=.fields #[vl,vu,.none]}}
 exact tail_any (ops:=[.ref s3.heap.objs.size,v]) ht hT hg (by with_unfolding_all rfl)
def kZ (xs:List V)(lo hi:Option Int):List V:=(xs.drop (HT.Ny xs.length 0 lo)).take (HT.Ny xs.length xs.length hi - HT.Ny xs.length 0 lo)
theorem ma (xs:List V)(lo hi:Option Int):(kZ xs lo hi).length<=xs.length:=by
 unfold kZ
 rw[Jm,J6]
 omega
def HE (K:MP):V->Option Int->Option Int->Hp->VK->Prop:=λx lo hi H Q=>∃a xs,x= .ref a/\ei K H a xs/\
 ¬(HT.Ny xs.length 0 lo=0/\HT.Ny xs.length xs.length hi=xs.length)/\∀p,H p=none->Q (.ref p) (upd H p (.tup (kZ xs lo hi)))
theorem Ej:CZ X (HE X.K):=by
 intro Nh s σ H x v vl vu lo hi sl Q I rx hs pl pu h
 obtain⟨a,xs,rfl,hx,hw,q⟩:=h
 cases rx
 obtain⟨Nj,r,ht,hz⟩:=I.tuple hx
 have hlen:Nj.toArray.size=xs.length:=by rw[Jc];exact r.length.symm
 refine⟨"tuple",_,KU.lookup,ht.typeIs,?_⟩
 refine HT.lX ht hs pl pu (by rw[hlen];exact hw) ?_ (by rw[hlen];exact hz)
 rw[hlen]
 refine⟨.ref s.heap.objs.size,_,I.laid (t':=s.toks) (o:=.tup (kZ xs lo hi)) (λb ob q=>Mx _ q) (Kp _) ?_,rfl,q _ (I.Nm.fresh (Kp _))⟩
 exact⟨Kq (ma xs lo hi) hz,_,(r.drop (HT.Ny xs.length 0 lo)).take (HT.Ny xs.length xs.length hi - HT.Ny xs.length 0 lo),IsTup.new _ _⟩
end
section
variable {α:Type}
def eR (n:Nat)(i:Int):Option Nat:=if 0<=i then(if i < n then some i.toNat else none) else if -(n:Int)<=i then some (i + n).toNat else none
def cS (xs:List α)(i:Int):Option α:=(eR xs.length i).bind λj=>xs[j]?
theorem nW {n:Nat}{i:Int}{j:Nat}(h:eR n i=some j):seqIndex? i n=some j/\j < n/\ -(n:Int)<=i/\i < n:=by
 unfold eR at h
 by_cases h0:0<=i
 ·rw[if_pos h0] at h
  by_cases h1:i < n
  ·rw[if_pos h1] at h
   have e:i.toNat=j:=Option.some.inj h
   exact⟨by rw[LX h0 h1,e],by omega,by omega,h1⟩
  ·rw[if_neg h1] at h;cases h
 ·rw[if_neg h0] at h
  by_cases h1: -(n:Int)<=i
  ·rw[if_pos h1] at h
   have e:(i + n).toNat=j:=Option.some.inj h
   exact⟨by rw[seqIndex_neg (by omega) h1,e],by omega,h1,by omega⟩
  ·rw[if_neg h1] at h;cases h
theorem n4 {xs:List α}{i:Int}{v:α}(h:cS xs i=some v):∃j,seqIndex? i xs.length=some j/\xs[j]?=some v/\j < xs.length/\ -(xs.length:Int)<=i/\i < xs.length:=by
 unfold cS at h
 cases e:eR xs.length i with
 | none=>rw[e] at h;cases h
 | some j=>
   rw[e] at h
   obtain⟨h1,h2,h3,h4⟩:=nW e
   exact⟨j,h1,h,h2,h3,h4⟩
theorem Bf {xs:List α}{j:Nat}{v:α}(h:xs[j]?=some v):cS xs (j:Int)=some v:=by
 have hj:j < xs.length:=(IG.mp h).1
 have e:eR xs.length (j:Int)=some j:=by
  unfold eR
  rw[if_pos (by omega),if_pos (by omega)];simp
 unfold cS;rw[e];exact h
def fQ (b:Expr):Prop:=∀o i,Ma b false o i=operate [o,i] (LS o i)
def Ci (X:Cx)(r:R2):Prop:=
 ∀(value slice:Expr) (Nh:Ia) (s:K3) (σ:St) (H:Hp) (x y:V) (v u:Value) (Q:VK),Inv X Nh σ H s->RelV x v->RelV y u->r x y H Q->
  Ma slice false v u=operate [v,u] (LS v u)->wpAny (model X.prog X.w) X.A (K0 value slice v u) (EP X Nh σ Q) X.xe s
def zl (X:Cx)(id:String)(r:V->List V->Hp->VK->Prop):Prop:=
 ∀(Nh:Ia) (s:K3) (σ:St) (H:Hp) (x:V) (xs:List V) (v:Value) (us:Ih) (Q:VK),Inv X Nh σ H s->RelV x v->Vals xs us->r x xs H Q->
  wpAny (model X.prog X.w) X.A (call (.builtin id) (v::us)) (EP X Nh σ Q) X.xe s
end
section
variable {X:Cx}{a b:Expr}{ta tb:TE}{pos:Pos}
theorem jt {r:R2}(hr:Ci X r)(ha:PE X a ta)(hb:PE X b tb)(hs:fQ b):PE X (.Subscript a b pos) (zx r ta tb):=by
 intro Nh s σ H Q I h
 exact Subscript_ (yY ha hb I h λv u s2 x y H2 I2 rx ry q=>hr a b Nh s2 σ H2 x y v u Q I2 rx ry q (hs _ _))
def HY (K:MP):R2:=λx y H Q=>∃p xs i v,x= .ref p/\y= .int i/\bt K H p xs/\cS xs i=some v/\Q v H
def HN (K:MP):R2:=λx y H Q=>∃p xs i v,x= .ref p/\y= .int i/\ei K H p xs/\cS xs i=some v/\Q v H
theorem h7:Ci X (HY X.K):=by
 intro value slice Nh s σ H x y v u Q I rx ry h hs
 obtain⟨p,xs,i,z,rfl,rfl,hq,he,q⟩:=h
 cases rx
 obtain⟨t,rfl⟩:=ry
 obtain⟨Nj,r,pl,hz⟩:=I.list hq
 obtain⟨j,h1,h2,h3,h4,h5⟩:=n4 he
 obtain⟨w,ew,O6⟩:=r.get h2
 have hl:=r.length
 have hn:=jI
 have fin:EP X Nh σ Q w s:=⟨z,H,I,O6,q⟩
 by_cases h0:0<=i
 ·have hj:i.toNat=j:=by
   rw[LX h0 h5] at h1
   exact Option.some.inj h1
  exact item_listR pl.isList h0 (by omega) (by rw[hj];simpa using ew) fin hs
 ·have hj:(i + (Nj.toArray.size:Int)).toNat=j:=by
   rw[seqIndex_neg (by omega) h4] at h1
   rw[Jc,← hl]
   exact Option.some.inj h1
  exact subscriptTail_builtinR (x:=w) pl.isList.typeIs slot_list_getitem.lookup
   (wpAny_getItem_list_neg (Q:=λr s'=>r=w/\EP X Nh σ Q r s') pl.isList (by omega) (by rw[Jc]<;>omega) (by omega) (by rw[hj];simpa using ew) ⟨rfl,fin⟩) hs
theorem D6:Ci X (HN X.K):=by
 intro value slice Nh s σ H x y v u Q I rx ry h hs
 obtain⟨p,xs,i,z,rfl,rfl,hq,he,q⟩:=h
 cases rx
 obtain⟨t,rfl⟩:=ry
 obtain⟨Nj,r,pl,hz⟩:=I.tuple hq
 obtain⟨j,h1,h2,h3,h4,h5⟩:=n4 he
 obtain⟨w,ew,O6⟩:=r.get h2
 have hl:=r.length
 have hn:=jI
 have fin:EP X Nh σ Q w s:=⟨z,H,I,O6,q⟩
 exact subscriptTail_builtinR (x:=w) pl.typeIs slot_tuple_getitem.lookup
  (getItem_tuple (j:=j) (Q:=λr s'=>r=w/\EP X Nh σ Q r s') pl (by omega) (by omega) (by rw[Jc,← hl];exact h1) (by simpa using ew) ⟨rfl,fin⟩) hs
theorem tY (Nj:Ih)(n j:Nat)(u:Value):MB (·.setIfInBounds j u) {cls:=.type "list",data:=.seq Nj.toArray n}={cls:=.type "list",data:=.seq (Nj.set j u).toArray n}:=by
 simp[MB]
theorem Inv.lst {Nh:Ia}{σ:St}{H:Hp}{s:K3}{p:Addr}{xs:List V}(I:Inv X Nh σ H s)(h:H p=some (.lst xs)):
 ∃(Nj:Ih) (n:Nat),Vals xs Nj/\s.heap.get? p=some {cls:=.type "list",data:=.seq Nj.toArray n}/\xs.length<=K4:=by
 obtain⟨z,Nj,n,r,e⟩:=I.Nm p _ h
 exact⟨Nj,n,r,e,z⟩
theorem Inv.Eb {Nh:Ia}{σ:St}{H:Hp}{s:K3}{p:Addr}{xs ys:List V}{Nj its':Ih}{n n':Nat}{f:Obj->Obj}(I:Inv X Nh σ H s)(h:H p=some (.lst xs))
 (ho:s.heap.get? p=some {cls:=.type "list",data:=.seq Nj.toArray n}) (hf:f {cls:=.type "list",data:=.seq Nj.toArray n}={cls:=.type "list",data:=.seq its'.toArray n'}) (r:Vals ys its') (hz:ys.length<=K4) (t:Nat):
 Inv X Nh σ (upd H p (.lst ys)) {s with heap:=s.heap.update p f,toks:=t}:=by
 have e:(s.heap.update p f).get? p=some {cls:=.type "list",data:=.seq its'.toArray n'}:=by
  rw[Heap.get?_update_self f ho (by rw[hf]<;>rfl),hf]
 refine I.write (x:=p) (e:=p) (by rw[h];trivial) (.inl rfl) (λb u hb q=>(Heap.get?_update_other _ _ (KG hb)).trans q) ⟨_,e⟩ ?_
 exact⟨hz,its',n',r,e⟩
def EB:V->V->V->Hp->(Hp->Prop)->Prop:=λo i v H Q=>∃p xs k j,o= .ref p/\i= .int k/\H p=some (.lst xs)/\eR xs.length k=some j/\Q (upd H p (.lst (xs.set j v)))
theorem set_list:yN X EB:=by
 intro Nh s σ H o i v ov iv u Q I ro ri rv h
 obtain⟨p,xs,k,j,rfl,rfl,hp,hj,q⟩:=h
 cases ro
 obtain⟨t,rfl⟩:=ri
 obtain⟨Nj,n,r,ho,hz⟩:=I.lst hp
 obtain⟨h1,h2,h3,h4⟩:=nW hj
 have hl:=r.length
 have hn:=jI
 have I':Inv X Nh σ (upd H p (.lst (xs.set j v))) {s with heap:=s.heap.update p (MB (·.setIfInBounds j u))}:=
  I.Eb hp ho (tY Nj n j u) (r.set rv j) (by rw[Jp];exact hz) s.toks
 by_cases h0:0<=k
 ·have hk:k.toNat=j:=by
   rw[LX h0 h4] at h1
   exact Option.some.inj h1
  exact PySem.W.ki_setAt ho h0 (by omega) (by rw[Jc,← hl];exact h4) (by rw[hk];exact⟨_,I',q⟩)
 ·have hk:(k + (Nj.toArray.size:Int)).toNat=j:=by
   rw[seqIndex_neg (by omega) h3] at h1
   rw[Jc,← hl]
   exact Option.some.inj h1
  exact PySem.W.ki_setBack ho (by omega) (by rw[Jc,← hl];exact h3) (by omega) (by rw[hk];exact⟨_,I',q⟩)
theorem pU (lo hi:Option Int)(n:Nat):(LM lo hi none n).1=((HT.Ny n 0 lo:Nat):Int)/\(LM lo hi none n).2.1=((HT.Ny n n hi:Nat):Int)/\(LM lo hi none n).2.2=1:=by
 refine⟨?_,?_,rfl⟩
 ·cases lo with
  | none=>simp[LM,HT.Ny]
  | some i=>
    simp only[LM,HT.Ny,Option.getD_none,show(1:Int) > 0 by decide,if_true]
    by_cases h:i < 0
    ·simp only[h,if_true]<;>omega
    ·simp only[h,if_false]<;>omega
 ·cases hi with
  | none=>simp[LM,HT.Ny]
  | some i=>
    simp only[LM,HT.Ny,Option.getD_none,show(1:Int) > 0 by decide,if_true]
    by_cases h:i < 0
    ·simp only[h,if_true]<;>omega
    ·simp only[h,if_false]<;>omega
theorem pB (Nj:Ih)(lo hi:Option Int):slicePick Nj.toArray lo hi none=((Nj.drop (HT.Ny Nj.length 0 lo)).take (HT.Ny Nj.length Nj.length hi - HT.Ny Nj.length 0 lo)).toArray:=by
 obtain⟨h1,h2,h3⟩:=pU lo hi Nj.toArray.size
 unfold slicePick
 rw[h1,h2,h3]
 simp only[sliceRange_one,pick_run,Jc]<;>rfl
def Hk (K:MP):V->Option Int->Option Int->Hp->VK->Prop:=λx lo hi H Q=>∃a xs,x= .ref a/\bt K H a xs/\∀p,H p=none->Q (.ref p) (upd H p (.lst (kZ xs lo hi)))
theorem sL:CZ X (Hk X.K):=by
 intro Nh s σ H x v vl vu lo hi sl Q I rx hs pl pu h
 obtain⟨a,xs,rfl,hx,q⟩:=h
 cases rx
 obtain⟨Nj,r,ht,hz⟩:=I.list hx
 have hlen:=r.length
 refine⟨"list",_,slot_list_getitem.lookup,ht.isList.typeIs,?_⟩
 refine wpAny_getItem_list_slice ht.isList hs pl pu .none (by simp) ?_ (by rw[Jc]<;>omega)
 rw[pB,← hlen]
 refine⟨.ref s.heap.objs.size,_,I.laid (t':=s.toks) (o:=.lst (kZ xs lo hi)) (λb ob q=>Mx _ q) (Kp _) ?_,rfl,q _ (I.Nm.fresh (Kp _))⟩
 exact⟨Kq (ma xs lo hi) hz,_,0,(r.drop (HT.Ny xs.length 0 lo)).take (HT.Ny xs.length xs.length hi - HT.Ny xs.length 0 lo),My _ rfl⟩
def iH:V->Bool
 | .Nu=>true
 | .bl _=>true
 | .int _=>true
 | .str _=>true
 | _=>false
def nj:V->V->Bool
 | .Nu,.Nu=>true
 | .bl a,.bl b=>a==b
 | .bl a,.int b=>(if a then 1 else 0)==b
 | .int a,.bl b=>a==(if b then 1 else 0)
 | .int a,.int b=>a==b
 | .str a,.str b=>a==b
 | _,_=>false
theorem Bo {A:La}{s:K3}{y x:V}{u v:Value}(ry:RelV y u)(rx:RelV x v)(fy:iH y=true)(fx:iH x=true):MD A s u v (nj y x):=by
 cases y with
 | Nu=>
   cases ry
   cases x with
   | Nu=>cases rx;exact MD.same _
   | bl b=>cases rx;exact MD.none_bool b
   | int b=>obtain⟨t,rfl⟩:=rx;exact MD.none_int b t
   | str b=>obtain⟨t,rfl⟩:=rx;exact MD.none_str b t
   | _=>exact absurd (show false=true from fx) Il
 | bl a=>
   cases ry
   cases x with
   | Nu=>cases rx;exact MD.bool_none a
   | bl b=>cases rx;exact MD.bool_bool a b
   | int b=>obtain⟨t,rfl⟩:=rx;exact MD.bool_int a b t
   | str b=>obtain⟨t,rfl⟩:=rx;exact MD.bool_str a b t
   | _=>exact absurd (show false=true from fx) Il
 | int a=>
   obtain⟨t',rfl⟩:=ry
   cases x with
   | Nu=>cases rx;exact MD.int_none a t'
   | bl b=>cases rx;exact MD.int_bool a t' b
   | int b=>obtain⟨t,rfl⟩:=rx;exact MD.int_int a t' b t
   | str b=>obtain⟨t,rfl⟩:=rx;exact MD.int_str a t' b t
   | _=>exact absurd (show false=true from fx) Il
 | str a=>
   obtain⟨t',rfl⟩:=ry
   cases x with
   | Nu=>cases rx;exact MD.str_none a t'
   | bl b=>cases rx;exact MD.str_bool a t' b
   | int b=>obtain⟨t,rfl⟩:=rx;exact MD.str_int a t' b t
   | str b=>obtain⟨t,rfl⟩:=rx;exact MD.str_str a t' b t
   | _=>exact absurd (show false=true from fx) Il
 | _=>exact absurd (show false=true from fy) Il
def i9 (x:V)(u:Value):Bool:=match u with
 | .none=>nj .Nu x
 | .bool b=>nj (.bl b) x
 | .int i _=>nj (.int i) x
 | .str z _=>nj (.str z) x
 | _=>false
theorem wg {x y:V}{u:Value}(r:RelV y u)(f:iH y=true):i9 x u=nj y x:=by
 cases y with
 | Nu=>cases r;rfl
 | bl b=>cases r;rfl
 | int i=>obtain⟨t,rfl⟩:=r;rfl
 | str z=>obtain⟨t,rfl⟩:=r;rfl
 | _=>exact absurd (show false=true from f) Il
theorem jQ {x:V}:∀{xs:List V} {us:Ih},Vals xs us->xs.all iH=true->us.any (i9 x)=xs.any λy=>nj y x
 | _,_,.nil,_=>rfl
 | y::xs,u::us,.cons r t,f=>by
   rw[all_cons,Io] at f
   rw[Kg,Kg,wg r f.1,jQ t f.2]
theorem i8 {A:La}{s:K3}{x:V}{v:Value}(rx:RelV x v)(fx:iH x=true):∀{xs:List V} {us:Ih},Vals xs us->xs.all iH=true->∀u∈us,MD A s u v (i9 x u)
 | _,_,.nil,_=>λu hu=>by cases hu
 | y::xs,u::us,.cons r t,f=>λu' hu=>by
   rw[all_cons,Io] at f
   rcases IY.mp hu with rfl | hu
   ·rw[wg r f.1];exact Bo r rx f.1 fx
   ·exact i8 rx fx t f.2 u' hu
def zZ (x:V)(xs:List V):Bool:=xs.any λy=>nj y x
def GY (K:MP)(neg:Bool):R2:=λx y H Q=>∃p xs,y= .ref p/\(bt K H p xs∨ei K H p xs)/\iH x=true/\xs.all iH=true/\Q (.bl (if neg then !zZ x xs else zZ x xs)) H
theorem vU:d7 X (Lj .In) (GY X.K false):=by
 intro Nh s σ H x y v u Q I rx ry h
 obtain⟨p,xs,rfl,hq,fx,fs,q⟩:=h
 cases ry
 rcases hq with hq | hq
 ·obtain⟨Nj,r,pl,hz⟩:=I.list hq
  refine SeqAt.in_listAt (i9 x) pl.isList (λw hw=>i8 rx fx r fs w (by simpa using hw)) ⟨.bl _,H,I,rfl,?_⟩
  rw[show Nj.toArray.any (i9 x)=Nj.any (i9 x) by simp,jQ r fs]
  exact q
 ·obtain⟨Nj,r,pl,hz⟩:=I.tuple hq
  refine SeqAt.in_tupleAt (i9 x) pl (λw hw=>i8 rx fx r fs w (by simpa using hw)) ⟨.bl _,H,I,rfl,?_⟩
  rw[show Nj.toArray.any (i9 x)=Nj.any (i9 x) by simp,jQ r fs]
  exact q
theorem qX:d7 X (Lj .NotIn) (GY X.K true):=by
 intro Nh s σ H x y v u Q I rx ry h
 obtain⟨p,xs,rfl,hq,fx,fs,q⟩:=h
 cases ry
 rcases hq with hq | hq
 ·obtain⟨Nj,r,pl,hz⟩:=I.list hq
  refine SeqAt.notIn_listAt (i9 x) pl.isList (λw hw=>i8 rx fx r fs w (by simpa using hw)) ⟨.bl _,H,I,rfl,?_⟩
  rw[show Nj.toArray.any (i9 x)=Nj.any (i9 x) by simp,jQ r fs]
  exact q
 ·obtain⟨Nj,r,pl,hz⟩:=I.tuple hq
  refine SeqAt.notIn_tupleAt (i9 x) pl (λw hw=>i8 rx fx r fs w (by simpa using hw)) ⟨.bl _,H,I,rfl,?_⟩
  rw[show Nj.toArray.any (i9 x)=Nj.any (i9 x) by simp,jQ r fs]
  exact q
theorem fB:dH X (.builtin "len") (λxs H Q=>∃p ys,xs=[.ref p]/\(bt X.K H p ys∨ei X.K H p ys)/\Q (.int ys.length) H):=by
 intro Nh s σ H xs us Q I r h
 obtain⟨p,ys,rfl,hq,q⟩:=h
 obtain⟨u,rfl,rx⟩:=vals1 r
 cases rx
 have hn:=jI
 rcases hq with hq | hq
 ·obtain⟨Nj,r',pl,hz⟩:=I.list hq
  have hlen:=r'.length
  exact Calls.call_len_list pl.isList (by simp only[Jc]<;>omega) ⟨.int ys.length,H,I.tok _,⟨s.toks + 1,by rw[Jc,hlen]⟩,q⟩
 ·obtain⟨Nj,r',pl,hz⟩:=I.tuple hq
  have hlen:=r'.length
  exact len_tuple pl (by simp only[Jc]<;>omega) ⟨.int ys.length,H,I.tok _,⟨s.toks + 1,by rw[Jc,hlen]⟩,q⟩
theorem kP:dH X (.type "list") (λxs H Q=>∃p ys,xs=[.ref p]/\(bt X.K H p ys∨ei X.K H p ys)/\∀l,H l=none->Q (.ref l) (upd H l (.lst ys))):=by
 intro Nh s σ H xs us Q I r h
 obtain⟨p,ys,rfl,hq,q⟩:=h
 obtain⟨u,rfl,rx⟩:=vals1 r
 cases rx
 have fin:∀(Nj:Ih),Vals ys Nj->ys.length<=K4->∀(h':Heap) (c':Nat),(∀b o',s.heap.get? b=some o'->h'.get? b=some o')->
  h'.get? s.heap.objs.size=some {cls:=.type "list",dict:=none,data:=.seq Nj.toArray c',slots:= #[]}->EP X Nh σ Q (.ref s.heap.objs.size) {s with heap:=h'}:=λNj r' hz h' c' kp e=>
  ⟨.ref s.heap.objs.size,_,I.laid (t':=s.toks) kp (Kp _) (show cj X.prog X.w _ h' _ (.lst ys) from⟨hz,Nj,c',r',e⟩),rfl,q _ (I.Nm.fresh (Kp _))⟩
 rcases hq with hq | hq
 ·obtain⟨Nj,r',pl,hz⟩:=I.list hq
  have hlen:=r'.length
  obtain⟨o,ho,hc,n,hd⟩:=pl.isList
  exact call_list_seq p (.inl rfl) ho hc hd (λh' c' kp e=>fin Nj r' hz h' c' kp e) (by simp only[Jc]<;>omega)
 ·obtain⟨Nj,r',pl,hz⟩:=I.tuple hq
  have hlen:=r'.length
  obtain⟨o,ho,hc,n,hd⟩:=pl
  exact call_list_seq p (.inr rfl) ho hc hd (λh' c' kp e=>fin Nj r' hz h' c' kp e) (by simp only[Jc]<;>omega)
theorem pD:dH X (.type "tuple") (λxs H Q=>∃p ys,xs=[.ref p]/\((bt X.K H p ys/\∀l,H l=none->Q (.ref l) (upd H l (.tup ys)))∨(ei X.K H p ys/\Q (.ref p) H))):=by
 intro Nh s σ H xs us Q I r h
 obtain⟨p,ys,rfl,h⟩:=h
 obtain⟨u,rfl,rx⟩:=vals1 r
 cases rx
 rcases h with⟨hq,q⟩ | ⟨hq,q⟩
 ·obtain⟨Nj,r',pl,hz⟩:=I.list hq
  have hlen:=r'.length
  refine call_tuple_list pl.isList (λh' kp=>?_) (by simp only[Jc]<;>omega)
  have I1:Inv X Nh σ H {s with heap:=h'}:=I.kept (t':=s.toks) kp
  have I2:Inv X Nh σ (upd H h'.objs.size (.tup ys)) {s with heap:=h'.push {cls:=.type "tuple",data:=.seq Nj.toArray}}:=
   I1.laid (t':=s.toks) (λb o e=>Mx _ e) (Kp _) (show cj X.prog X.w _ _ _ (.tup ys) from⟨hz,Nj,r',IsTup.new _ _⟩)
  exact⟨.ref h'.objs.size,_,I2,rfl,q _ (I1.Nm.fresh (Kp _))⟩
 ·obtain⟨Nj,r',pl,hz⟩:=I.tuple hq
  exact call_tuple_same pl ⟨.ref p,H,I,rfl,q⟩
def En (K:MP)(T:String)(x:V)(H:Hp):Prop:=match x with
 | .str _=>T="str"
 | .int _=>T="int"
 | .ref p=>(T="list"/\∃xs,bt K H p xs)∨(T="tuple"/\∃o,K.lookup p=some o/\o.cls= .type "tuple"/\o.dict=none)∨
  (T="dict"/\((∃kvs,H p=some (.dK kvs))∨∃kvs,H p=some (.dT kvs)))∨(T="set"/\∃S n,H p=some (.set S n))
 | _=>False
theorem xG {Nh:Ia}{σ:St}{H:Hp}{s:K3}{T:String}{x:V}{v:Value}(I:Inv X Nh σ H s)(r:RelV x v)(ty:En X.K T x H):
 s.TypeIs v T/\∀a,v= .ref a->∃ob,s.heap.get? a=some ob/\ob.dict=none:=by
 cases x with
 | str z=>
   obtain⟨t,rfl⟩:=r
   cases (show T="str" from ty)
   exact⟨typeIs_str s z t,λ_ e=>nomatch e⟩
 | int i=>
   obtain⟨t,rfl⟩:=r
   cases (show T="int" from ty)
   exact⟨typeIs_int s i t,λ_ e=>nomatch e⟩
 | ref p=>
   cases r
   rcases ty with⟨rfl,xs,hq⟩ | ⟨rfl,o,hk,hc,hd⟩ | ⟨rfl,hk⟩ | ⟨rfl,S,n,hk⟩
   ·obtain⟨Nj,_,pl,_⟩:=I.list hq
    refine⟨pl.isList.typeIs,λa e=>?_⟩
    cases e
    obtain⟨o,n,e,c,hd,_⟩:=pl
    exact⟨o,e,hd⟩
   ·refine⟨⟨o,I.eJ p o hk,hc⟩,λa e=>?_⟩
    cases e
    exact⟨o,I.eJ _ o hk,hd⟩
   ·have z:∃o,s.heap.get? p=some o/\o.ExactDict:=by
     rcases hk with⟨kvs,hk⟩ | ⟨kvs,hk⟩
     ·obtain⟨_,_,_,_,o,_,_,e,ex,_⟩:=I.Nm p _ hk
      exact⟨o,e,ex⟩
     ·obtain⟨_,_,_,_,o,_,_,e,ex,_⟩:=I.Nm p _ hk
      exact⟨o,e,ex⟩
    obtain⟨o,e,ex⟩:=z
    refine⟨⟨o,e,ex.1⟩,λa e2=>?_⟩
    cases e2
    exact⟨o,e,ex.2.1⟩
   ·obtain⟨o,_,_,_,e,ex,_⟩:=I.Nm p _ hk
    refine⟨⟨o,e,ex.1⟩,λa e2=>?_⟩
    cases e2
    exact⟨o,e,ex.2.1⟩
 | _=>exact Iy ty
def Ht (K:MP)(T:String)(r:V->List V->Hp->VK->Prop)(to:TE):TE:=λσ H Q=>to σ H λx H1=>En K T x H1/\r x [] H1 Q
def tBM (K:MP)(T:String)(r:V->List V->Hp->VK->Prop)(to:TE)(t:TA):TE:=λσ H Q=>to σ H λx H1=>En K T x H1/\t σ H1 λxs H2=>r x xs H2 Q
variable {o e:Expr}{es:Ii}{to:TE}{t:TA}{name:Str}{apos NX:Pos}{T id:String}{r:V->List V->Hp->VK->Prop}
theorem Dc (pa:PlainAttrs T)(slot:Slot T name id)(hty:typeOf (.builtin id)=pure (.type "method_descriptor"))(hm:zl X id r)(ho:PE X o to)
 (Nv:Li o name X.env (eval o X.env)=eval o X.env:=by rfl) (hline:(apos.endLine==NX.line)=true:=by rfl):PE X (.Call (.Attribute o name apos) [] [] NX) (Ht X.K T r to):=by
 intro Nh s σ H Q I h
 refine wpAny_Call_method0_late Nv hline (aQ (ho Nh s σ H _ I h) λv s1 ⟨x,H1,I1,r1,ty,q1⟩=>?_)
 obtain⟨h1,h2⟩:=xG I1 r1 ty
 exact⟨T,id,pa,slot,hty,h1,h2,Mo rfl (PySem.evalArgs_none (hm Nh s1 σ H1 x [] v [] Q I1 r1 .nil q1))⟩
theorem iG (pa:PlainAttrs T)(slot:Slot T name id)(hty:typeOf (.builtin id)=pure (.type "method_descriptor"))(hm:zl X id r)(ho:PE X o to)(ha:PA X (e::es) t)
 (Nv:Li o name X.env (eval o X.env)=eval o X.env:=by rfl)
 (NN:((Lb NX (K2 (e::es) X.env)).all (λx=> !x.1)&&(LH NX (Lq [] X.env)).all (λx=>x.1.isSome)
  &&decide ((e::es).length + ([]:List Ll).length + (if([]:List Ll).isEmpty then 0 else 1) < 30))=true:=by rfl)
 (hline:(apos.endLine==NX.line)=true:=by rfl) (hs:K2 (e::es) X.env=(false,eval e X.env)::K2 es X.env:=by rfl) (Rv:(Lb NX (K2 es X.env)).any (·.1)=false:=by rfl):
 PE X (.Call (.Attribute o name apos) (e::es) [] NX) (tBM X.K T r to t):=by
 intro Nh s σ H Q I h
 refine wpAny_Call_method_late Nv NN hline rfl (aQ (ho Nh s σ H _ I h) λv s1 ⟨x,H1,I1,r1,ty,q1⟩=>?_)
 obtain⟨h1,h2⟩:=xG I1 r1 ty
 refine⟨T,id,pa,slot,hty,h1,h2,?_⟩
 have hA:=ha NX Nh s1 σ H1 _ I1 q1
 rw[hs] at hA ⊢
 refine Mo (by show(false ||(Lb NX (K2 es X.env)).any (·.1))=false;rw[Rv]<;>rfl) (Mp ?_)
 exact aQ hA λus s2 ⟨vs,H2,I2,r2,q2⟩=>hm Nh s2 σ H2 x vs v us Q I2 r1 r2 q2
end
def wJ (X:Cx)(id:String)(r:V->List V->Hp->VK->Prop):Prop:=
 ∀(Nh:Ia) (s:K3) (σ:St) (H:Hp) (x:V) (xs:List V) (v:Value) (us:Ih) (Q:VK),Inv X Nh σ H s->RelV x v->Vals xs us->r x xs H Q->
  wpAny (model X.prog X.w) X.A (call (.builtin id) (v::us)) (EP X Nh σ Q) X.xe s
theorem Vals.one:∀{x:V} {us:Ih},Vals [x] us->∃u,us=[u]/\RelV x u
 | _,_,.cons r .nil=>⟨_,rfl,r⟩
theorem Vals.zero:∀{us:Ih},Vals [] us->us=[]
 | _,.nil=>rfl
theorem Vals.dropLast {xs:List V}{us:Ih}(h:Vals xs us):Vals xs.dropLast us.dropLast:=by
 induction h with
 | nil=>exact .nil
 | cons r t ih=>
   cases t with
   | nil=>exact .nil
   | cons q t'=>exact .cons r ih
theorem Vals.eraseIdx:∀{xs:List V} {us:Ih} (i:Nat),Vals xs us->Vals (xs.eraseIdx i) (us.eraseIdx i)
 | _,_,_,.nil=>.nil
 | _,_,0,.cons _ t=>t
 | _,_,i + 1,.cons r t=>.cons r (Vals.eraseIdx i t)
theorem Vals.rep {xs:List V}{us:Ih}(h:Vals xs us):∀k:Nat,Vals (Jd k xs).flatten (Jd k us).flatten
 | 0=>.nil
 | k + 1=>by
   rw[JC,JC,J4,J4]
   exact Vals.append h (Vals.rep h k)
theorem u7 {α:Type}(l:List α):l.eraseIdx (l.length - 1)=l.dropLast:=by
 induction l with
 | nil=>rfl
 | cons a r ih=>
   cases r with
   | nil=>rfl
   | cons b r=>
     have e:(a::b::r).length - 1=((b::r).length - 1) + 1:=by
      have h1:(a::b::r).length=r.length + 2:=rfl
      have h2:(b::r).length=r.length + 1:=rfl
      omega
     rw[e,List.eraseIdx_cons_succ,ih]
     all_goals rfl
theorem oU {α:Type}:∀(l:List α) (i:Nat),(l.eraseIdx i).length<=l.length
 | [],_=>Kp _
 | _::_,0=>Kv _
 | _::r,i + 1=>Nat.succ_le_succ (oU r i)
theorem foldl_rep (Nj:Ih):∀(k:Nat) (acc:Ih),
 List.foldl (λx1 x2=>x1++x2) acc.toArray (Jd k Nj.toArray)=(acc++(Jd k Nj).flatten).toArray
 | 0,acc=>by simp
 | k + 1,acc=>by
   have e:acc.toArray++Nj.toArray=(acc++Nj).toArray:=by simp
   have e2:(acc++Nj)++(Jd k Nj).flatten=acc++(Jd (k + 1) Nj).flatten:=by
    rw[JC,J4,Jv]
   rw[← e2,← foldl_rep Nj k (acc++Nj),← e,JC,List.foldl_cons]
section
variable {X:Cx}{Nh:Ia}{σ:St}{H:Hp}{s:K3}{l b:Addr}{xs ys zs:List V}
theorem Inv.qF {Nj its':Ih}{n:Nat}{f:Array Value->Array Value}{t':Nat}(I:Inv X Nh σ H s)(hH:H l=some (.lst xs))
 (e:s.heap.get? l=some {cls:=.type "list",data:=.seq Nj.toArray n}) (hf:f Nj.toArray=its'.toArray) (hv:Vals ys its') (hz:ys.length<=K4):
 Inv X Nh σ (upd H l (.lst ys)) {s with heap:=s.heap.update l (MB f),toks:=t'}:=by
 have q:=PySem.IsL.update e f
 rw[hf] at q
 refine I.write (x:=l) (e:=l) (by rw[hH];exact trivial) (.inl rfl) (λb' u hb hu=>(Heap.get?_update_other s.heap (MB f) (KG hb)).trans hu) ⟨_,q⟩ ?_
 exact⟨hz,its',_,hv,q⟩
theorem Inv.DG {Nj:Ih}{t':Nat}(I:Inv X Nh σ H s)(hv:Vals ys Nj)(hz:ys.length<=K4):
 Inv X Nh σ (upd H s.heap.objs.size (.lst ys)) {s with heap:=s.heap.push {cls:=.type "list",data:=.seq Nj.toArray},toks:=t'}:=
 I.laid (λ_ _ q=>Mx _ q) (Kp _) ⟨hz,Nj,0,hv,My _ rfl⟩
theorem Inv.fresh (I:Inv X Nh σ H s):H s.heap.objs.size=none:=I.Nm.fresh (Kp _)
theorem Inv.jC (I:Inv X Nh σ H s)(hH:H l=some (.lst xs)):xs.length<=K4/\∃(Nj:Ih) (n:Nat),Vals xs Nj/\xs.length=Nj.length/\s.heap.get? l=some {cls:=.type "list",data:=.seq Nj.toArray n}:=by
 obtain⟨z,Nj,n,r,e⟩:=I.Nm l _ hH
 exact⟨z,Nj,n,r,r.length,e⟩
theorem yA {n:Nat}(h:n<=K4):Mj n=false:=by
 unfold Mj
 exact decide_eq_false (by omega)
end
section
variable {X:Cx}
def Ay:V->List V->Hp->VK->Prop:=λx vs H Q=>∃l xs y,x= .ref l/\vs=[y]/\H l=some (.lst xs)/\xs.length < K4/\Q .Nu (upd H l (.lst (xs++[y])))
theorem jq:wJ X "list.append" Ay:=by
 intro Nh s σ H x vs v us Q I rx rv h
 obtain⟨l,xs,y,rfl,rfl,hH,hz,q⟩:=h
 cases rx
 obtain⟨u,rfl,ru⟩:=rv.one
 obtain⟨z,Nj,n,r,hl,e⟩:=I.jC hH
 refine Lz F.slot_list_append ⟨_,e,rfl⟩ F.entry_list_append (F.args_list_append_2 _ _) (PySem.list_append l Nj.toArray n u (by rw[Jc];omega)) ⟨e,?_⟩
 refine⟨.Nu,_,I.qF (its':=Nj++[u]) hH e (by simp) (r.append (.cons ru .nil)) ?_,rfl,q⟩
 rw[IL,Jo]
 omega
def HW:V->List V->Hp->VK->Prop:=λx vs H Q=>∃l xs y,x= .ref l/\vs=[]/\H l=some (.lst xs)/\xs[xs.length - 1]?=some y/\Q y (upd H l (.lst xs.dropLast))
theorem Cn:wJ X "list.pop" HW:=by
 intro Nh s σ H x vs v us Q I rx rv h
 obtain⟨l,xs,y,rfl,rfl,hH,hy,q⟩:=h
 cases rx
 have hus:=rv.zero
 subst hus
 obtain⟨z,Nj,n,r,hl,e⟩:=I.jC hH
 obtain⟨u,hu,ru⟩:=r.get hy
 have hy':Nj.toArray[Nj.toArray.size - 1]?=some u:=by
  show Nj.toArray[Nj.length - 1]?=some u
  rw[← Array.getElem?_toList,← hl]
  exact hu
 refine Lz F.slot_list_pop ⟨_,e,rfl⟩ F.entry_list_pop (F.args_list_pop_1 _) (MeetsSeq.list_pop_last l Nj.toArray n u hy' (by rw[Jc];omega)) ⟨e,?_⟩
 refine⟨y,_,I.qF (its':=Nj.dropLast) hH e ?_ r.dropLast ?_,ru,q⟩
 ·show Nj.toArray.eraseIdxIfInBounds (Nj.toArray.size - 1)=Nj.dropLast.toArray
  rw[Jc,JS,u7]
 ·rw[List.length_dropLast]
  omega
def Dr:V->List V->Hp->VK->Prop:=λx vs H Q=>∃l xs i k y,x= .ref l/\vs=[.int i]/\H l=some (.lst xs)/\ -(2 ^ 63)<=i/\i < 2 ^ 63/\seqIndex? i xs.length=some k/\xs[k]?=some y/\Q y (upd H l (.lst (xs.eraseIdx k)))
theorem yW:wJ X "list.pop" Dr:=by
 intro Nh s σ H x vs v us Q I rx rv h
 obtain⟨l,xs,i,k,y,rfl,rfl,hH,h1,h2,hk,hy,q⟩:=h
 cases rx
 obtain⟨u,rfl,ru⟩:=rv.one
 obtain⟨t,rfl⟩:=ru
 obtain⟨z,Nj,n,r,hl,e⟩:=I.jC hH
 obtain⟨w,hw,O6⟩:=r.get hy
 refine Lz F.slot_list_pop ⟨_,e,rfl⟩ F.entry_list_pop (F.args_list_pop_2 _ _)
  (MeetsSeq.list_pop_at l Nj.toArray n i t k w (Mf h1 h2) (by rw[Jc,← hl];exact hk) (by rw[← Array.getElem?_toList];exact hw) (by rw[Jc];omega)) ⟨e,?_⟩
 refine⟨y,_,I.qF (its':=Nj.eraseIdx k) hH e ?_ (r.eraseIdx k) ?_,O6,q⟩
 ·show Nj.toArray.eraseIdxIfInBounds k=(Nj.eraseIdx k).toArray
  rw[JS]
 ·have:=oU xs k
  omega
def Dw:R2:=λx y H Q=>∃l b xs zs,x= .ref l/\y= .ref b/\H l=some (.lst xs)/\H b=some (.lst zs)/\xs.length + zs.length<=K4/\∀p,H p=none->Q (.ref p) (upd H p (.lst (xs++zs)))
theorem vL:d7 X (LD .Add) Dw:=by
 intro Nh s σ H x y v u Q I rx ry h
 obtain⟨l,b,xs,zs,rfl,rfl,hH,hB,hz,q⟩:=h
 cases rx
 cases ry
 obtain⟨z,Nj,n,r,hl,e⟩:=I.jC hH
 obtain⟨z2,SI,n2,r2,Ql,e2⟩:=I.jC hB
 refine PySem.P.add_list e e2 ?_ (by rw[Jc,Jc];omega)
 have ea:Nj.toArray++SI.toArray=(Nj++SI).toArray:=by simp
 rw[ea]
 exact⟨.ref _,_,I.DG (t':=s.toks) (r.append r2) (by rw[IL];omega),rfl,q _ I.fresh⟩
def Hl:R2:=λx y H Q=>∃l k xs,x= .ref l/\y= .int k/\H l=some (.lst xs)/\ -(2 ^ 63)<=k/\k < 2 ^ 63/\xs.length * k.toNat<=K4/\
 ∀p,H p=none->Q (.ref p) (upd H p (.lst (Jd k.toNat xs).flatten))
theorem len_rep {α:Type}(xs:List α)(k:Nat):(Jd k xs).flatten.length=k * xs.length:=by
 induction k with
 | zero=>simp
 | succ k ih=>rw[JC,J4,IL,ih,Nat.succ_mul,Nat.add_comm]
theorem Bm:d7 X (LD .Mult) Hl:=by
 intro Nh s σ H x y v u Q I rx ry h
 obtain⟨l,k,xs,rfl,rfl,hH,h1,h2,hz,q⟩:=h
 cases rx
 obtain⟨t,rfl⟩:=ry
 obtain⟨z,Nj,n,r,hl,e⟩:=I.jC hH
 have hlen:Nj.toArray.size * k.toNat<=K4:=by rw[Jc,← hl];exact hz
 have hcap:¬Nj.toArray.size * k.toNat > (2 ^ 63 - 1) / 8:=by
  have:(K4:Nat)<=(2 ^ 63 - 1) / 8:=by decide
  omega
 have RC:¬(!Builtin.List.listFitsIndex k)=true:=by
  rw[Mf h1 h2]
  exact Il
 have S5:¬Mj (Nj.toArray.size * k.toNat)=true:=by
  rw[yA hlen]
  exact Il
 have hnew:List.foldl (λx1 x2=>x1++x2) #[] (Jd (if Nj.toArray.isEmpty=true then 0 else k.toNat) Nj.toArray)=(Jd k.toNat Nj).flatten.toArray:=by
  have f0:∀m:Nat,List.foldl (λx1 x2=>x1++x2) #[] (Jd m Nj.toArray)=(Jd m Nj).flatten.toArray:=λm=>by
   have:=foldl_rep Nj m []
   rw[List.nil_append] at this
   exact this
  rw[f0]
  cases Nj with
  | nil=>simp
  | cons a r'=>rw[if_neg (by simp)]
 refine wpAny_binaryOp_repeat_ref (T:="list") (U:="int") (by decide) ⟨_,e,rfl⟩ (λs'=>typeIs_int s' k t) noFill_list_mul F.fills_int_mul F.slot_int_rmul repeat_list F.slot_int_index.lookup
  (Lz F.slot_int_rmul (typeIs_int s k t) F.entry_int_rmul (F.args_int_rmul_2 _ _) (int___rmul___int_list k t l Nj.toArray n)
   ⟨e,rfl,⟨_,e,rfl⟩,Lz F.slot_list_mul ⟨_,e,rfl⟩ F.entry_list_mul (F.args_list_mul_2 _ _) (AutoListH.list___mul___list_int_3 l Nj.toArray n k t RC hcap S5) ⟨e,?_⟩⟩)
 rw[hnew]
 exact⟨.ref _,_,I.DG (t':=s.toks) (r.rep k.toNat) (by rw[len_rep,Nat.mul_comm];exact hz),rfl,q _ I.fresh⟩
end
section
variable {prog:K7}{w:World}{A:La}{E:Value->K3->Prop}{s:K3}
end
section
variable {X:Cx}
end
section
variable {κ:Type} [DecidableEq κ]
variable {kvs:List (κ×V)}{vs:List (κ×Value)}
def dk (kvs:List (κ×V))(k:κ):Option V:=(kvs.find? λkv=>decide (kv.1=k)).map (·.2)
def putK (kvs:List (κ×V))(k:κ)(v:V):List (κ×V):=
 if(kvs.any λkv=>decide (kv.1=k))=true then kvs.map (λkv=>if kv.1=k then(kv.1,v) else kv) else kvs++[(k,v)]
theorem dF {p:κ×V}{r:List (κ×V)}{k:κ}(e:p.1=k):dk (p::r) k=some p.2:=by simp[dk,JR,e]
theorem dE {p:κ×V}{r:List (κ×V)}{k:κ}(e:¬p.1=k):dk (p::r) k=dk r k:=by simp[dk,JR,e]
theorem gf (k:κ):∀kvs:List (κ×V),(kvs.any λkv=>decide (kv.1=k))=(dk kvs k).isSome
 | []=>rfl
 | p::r=>by
   rw[Kg]
   by_cases e:p.1=k
   ·simp only[dF e,decide_eq_true e,Bool.true_or,Option.isSome_some]
   ·rw[dE e,decide_eq_false e,Bool.false_or];exact gf k r
theorem qr (k j:κ)(y:V):∀kvs:List (κ×V),dk (kvs.map λkv=>if kv.1=k then(kv.1,y) else kv) j=(dk kvs j).map λx=>if j=k then y else x
 | []=>rfl
 | p::r=>by
   have ih:=qr k j y r
   rw[Js]
   by_cases h:p.1=k
   ·rw[if_pos h]
    by_cases e:p.1=j
    ·rw[dF (p:=(p.1,y)) e,dF e,KI,if_pos (e.symm.trans h)]
    ·rw[dE (p:=(p.1,y)) e,dE e,ih]
   ·rw[if_neg h]
    by_cases e:p.1=j
    ·rw[dF (p:=p) e,dF e,KI,if_neg (λz=>h (e.trans z))]
    ·rw[dE (p:=p) e,dE e,ih]
theorem pk (k j:κ)(y:V):∀kvs:List (κ×V),dk kvs k=none->dk (kvs++[(k,y)]) j=if j=k then some y else dk kvs j
 | [],_=>by
   by_cases e:k=j
   ·rw[if_pos e.symm];exact dF (p:=(k,y)) e
   ·rw[if_neg (λz=>e z.symm)];exact dE (p:=(k,y)) e
 | p::r,hn=>by
   rw[J0]
   have hk:¬p.1=k:=λz=>by rw[dF z] at hn;cases hn
   rw[dE hk] at hn
   have ih:=pk k j y r hn
   by_cases e:p.1=j
   ·rw[dF e,dF e,if_neg (λz=>hk (e.trans z))]
   ·rw[dE e,dE e,ih]
theorem x8 (kvs:List (κ×V))(k j:κ)(y:V):dk (putK kvs k y) j=if j=k then some y else dk kvs j:=by
 unfold putK
 by_cases a:(kvs.any λkv=>decide (kv.1=k))=true
 ·rw[if_pos a,qr]
  rw[gf] at a
  by_cases e:j=k
  ·obtain⟨x,hx⟩:=Option.isSome_iff_exists.mp a
   rw[if_pos e,e,hx,KI,if_pos rfl]
  ·rw[if_neg e]
   cases dk kvs j with
   | none=>rfl
   | some x=>rw[KI,if_neg e]
 ·rw[if_neg a]
  refine pk k j y kvs ?_
  rw[gf] at a
  cases q:dk kvs k with
  | none=>rfl
  | some x=>rw[q] at a;exact(a rfl).elim
theorem jA (kvs:List (κ×V))(k:κ)(v:V):(putK kvs k v).length<=kvs.length + 1:=by
 unfold putK
 split
 ·rw[IM];omega
 ·rw[IL,I0,Kd];omega
theorem yH {k:κ}(v:V)(h:dk kvs k=none):putK kvs k v=kvs++[(k,v)]:=by
 unfold putK
 rw[gf,h]
 exact if_neg (by decide)
theorem hU.iA {o:Option V}{u:Ie}(r:hU o u):o.isSome=u.isSome:=by
 cases o with
 | none=>cases u with
   | none=>rfl
   | some _=>exact(show False from r).elim
 | some _=>cases u with
   | none=>exact(show False from r).elim
   | some _=>rfl
theorem hU.getD {o:Option V}{u:Ie}{d:V}{d':Value}(r:hU o u)(rd:RelV d d'):RelV (o.getD d) (u.getD d'):=by
 cases o with
 | none=>cases u with
   | none=>exact rd
   | some _=>exact(show False from r).elim
 | some _=>cases u with
   | none=>exact(show False from r).elim
   | some _=>exact r
theorem KV.val (r:KV kvs vs)(k:κ):hU (dk kvs k) (L6 vs k):=by
 unfold KV at r
 induction r with
 | nil=>exact Ng
 | @cons p q ps qs h t ih=>
   obtain⟨h1,h2⟩:=h
   by_cases e:p.1=k
   ·have e':q.1=k:=h1.symm.trans e
    have b:L6 (q::qs) k=some q.2:=by simp[L6,JR,e']
    rw[dF e,b];exact h2
   ·have e':¬q.1=k:=λz=>e (h1.trans z)
    have b:L6 (q::qs) k=L6 qs k:=by simp[L6,JR,e']
    rw[dE e,b];exact ih
theorem KV.any (r:KV kvs vs)(k:κ):(kvs.any λkv=>decide (kv.1=k))=vs.any λkv=>decide (kv.1=k):=by
 unfold KV at r
 induction r with
 | nil=>rfl
 | cons h t ih=>rw[Kg,Kg,ih,h.1]
theorem KV.yD (r:KV kvs vs)(k:κ){y:V}{u:Value}(ry:RelV y u):
 KV (kvs.map λkv=>if kv.1=k then(kv.1,y) else kv) (vs.map λkv=>if kv.1=k then(kv.1,u) else kv):=by
 unfold KV at r ⊢
 induction r with
 | nil=>exact .nil
 | @cons p q ps qs h t ih=>
   rw[Js,Js]
   refine .cons ?_ ih
   obtain⟨h1,h2⟩:=h
   by_cases e:p.1=k
   ·rw[if_pos e,if_pos (h1.symm.trans e)];exact⟨h1,ry⟩
   ·rw[if_neg e,if_neg (λz=>e (h1.trans z))];exact⟨h1,h2⟩
theorem KV.put (r:KV kvs vs)(k:κ){y:V}{u:Value}(ry:RelV y u):KV (putK kvs k y) (stored vs k u):=by
 unfold putK stored
 rw[r.any k]
 by_cases e:(vs.any λkv=>decide (kv.1=k))=true
 ·rw[if_pos e,if_pos e];exact r.yD k ry
 ·rw[if_neg e,if_neg e];exact Paired.snoc r ⟨rfl,ry⟩
theorem KV.length (r:KV kvs vs):kvs.length=vs.length:=Paired.length r
end
section
variable {H:Hp}{kvs:List (List Key×V)}{xs:List (List Key×Addr×Value)}{u:Value}
theorem kE {P:K7}{w:World}{k:Key}(r:RelV (kV k) u):(cU P w).is k u=true:=by
 cases k with
 | inl i=>obtain⟨t,e⟩:=(show∃t,u=ML i t from r);subst e;exact r9 P w i t
 | inr x=>obtain⟨t,e⟩:=(show∃t,u=MM x t from r);subst e;exact r8 P w x t
theorem oJ {P:K7}{w:World}:∀{ks:List Key} {us:Ih},Vals (ks.map kV) us->ItemsAre (cU P w) ks us
 | [],_,r=>by rw[map_nil] at r;cases r;exact .nil
 | k::ks,_,r=>by
   rw[Js] at r
   cases r with
   | cons h t=>exact .cons (kE h) (oJ t)
abbrev KT (H:Hp):List (List Key×V)->List (List Key×Addr×Value)->Prop:=Paired λp q=>p.1=q.1/\H q.2.1=some (.tup (p.1.map kV))/\RelV p.2 q.2.2
theorem KT.val (r:KT H kvs xs)(k:List Key):hU (dk kvs k) ((atKey xs k).map (·.2)):=by
 induction r with
 | nil=>exact Ng
 | @cons p q ps qs h t ih=>
   obtain⟨h1,_,h2⟩:=h
   by_cases e:p.1=k
   ·have e':q.1=k:=h1.symm.trans e
    have b:atKey (q::qs) k=some q.2:=by simp[atKey,JR,e']
    rw[dF e,b];exact h2
   ·have e':¬q.1=k:=λz=>e (h1.trans z)
    have b:atKey (q::qs) k=atKey qs k:=by simp[atKey,JR,e']
    rw[dE e,b];exact ih
theorem KT.yD (r:KT H kvs xs)(k:List Key){y:V}(ry:RelV y u):
 KT H (kvs.map λkv=>if kv.1=k then(kv.1,y) else kv) (xs.map (putAt k u)):=by
 induction r with
 | nil=>exact .nil
 | @cons p q ps qs h t ih=>
   rw[Js,Js]
   refine .cons ?_ ih
   obtain⟨h1,h2,h3⟩:=h
   unfold putAt
   by_cases e:p.1=k
   ·rw[if_pos e,if_pos (h1.symm.trans e)];exact⟨h1,h2,ry⟩
   ·rw[if_neg e,if_neg (λz=>e (h1.trans z))];exact⟨h1,h2,h3⟩
theorem KT.put (r:KT H kvs xs)(k:List Key){b:Addr}{y:V}(hb:H b=some (.tup (k.map kV)))(ry:RelV y u):
 KT H (putK kvs k y) (storedH xs k b u):=by
 have e:(kvs.any λkv=>decide (kv.1=k))=(atKey xs k).isSome:=by
  rw[gf,(r.val k).iA,KJ]
 unfold putK storedH
 rw[e]
 by_cases q:(atKey xs k).isSome=true
 ·rw[if_pos q,if_pos q];exact r.yD k ry
 ·rw[if_neg q,if_neg q];exact Paired.snoc r ⟨rfl,hb,ry⟩
theorem KT.keeps {H':Hp}(r:KT H kvs xs)(ht:∀b ys,H b=some (.tup ys)->H' b=some (.tup ys)):KT H' kvs xs:=
 Paired.yp r λ_ _ z=>⟨z.1,ht _ _ z.2.1,z.2.2⟩
end
section
variable {P:K7}{w:World}{H:Hp}{h:Heap}{a:Addr}
theorem Ah {u:HO}(ok:cQ P w H h)(e:Rd H a u):cj P w H h a u:=e.ok ok
theorem ju {kvs:List (Key×V)}(ok:cQ P w H h)(e:Rd H a (.dK kvs)):kvs.length<=K4/\(a==Lv)=false/\∃vs,KV kvs vs/\h.DictOf (cU P w) a vs:=
 show cj P w H h a (.dK kvs) from Ah ok e
theorem Ac {kvs:List (Key×V)}(ok:cQ P w H h)(e:H a=some (.dK kvs)):kvs.length<=K4/\(a==Lv)=false/\∃vs,KV kvs vs/\h.DictOf (cU P w) a vs:=ju ok (.inl e)
theorem jZ {ks:List Key}(ok:cQ P w H h)(e:H a=some (.tup (ks.map kV))):(LZ (cU P w)).is h ks a:=by
 obtain⟨_,Nj,r,o,h1,h2,n,h3⟩:=(show cj P w H h a (.tup (ks.map kV)) from ok a _ e)
 exact⟨o,Nj.toArray,n,h1,h2,h3,by simpa using oJ r⟩
theorem ku {kvs:List (List Key×V)}(ok:cQ P w H h)(e:Rd H a (.dT kvs)):kvs.length<=K4/\(a==Lv)=false/\
 ∃xs,KT H kvs xs/\h.DictOfH (LZ (cU P w)) a xs:=by
 obtain⟨z,y,xs,r,o,es,ep,h1,h2,h3,h4,h5⟩:=(show cj P w H h a (.dT kvs) from Ah ok e)
 refine⟨z,y,xs,r,o,es,ep,h1,h2,h3,h4,λx hx=>?_,h5⟩
 have all:∀{l:List (List Key×V)} {m:List (List Key×Addr×Value)},KT H l m->∀x∈m,(LZ (cU P w)).is h x.1 x.2.1:=by
  intro l m q
  induction q with
  | nil=>intro x hx;exact nomatch hx
  | @cons p q ps qs hq t ih=>
    intro x hx
    rcases IY.mp hx with e | hx
    ·subst e
     exact jZ ok (by rw[← hq.1];exact hq.2.1)
    ·exact ih x hx
 exact all r x hx
theorem Fu {kvs:List (List Key×V)}(ok:cQ P w H h)(e:H a=some (.dT kvs)):kvs.length<=K4/\(a==Lv)=false/\
 ∃xs,KT H kvs xs/\h.DictOfH (LZ (cU P w)) a xs:=ku ok (.inl e)
end
def eY (H:Hp)(a:Addr)(y:V)(r:Option V):Prop:=
 (∃kvs k,Rd H a (.dK kvs)/\y=kV k/\r=dk kvs k)∨∃kvs k b,Rd H a (.dT kvs)/\y= .ref b/\H b=some (.tup (k.map kV))/\r=dk kvs k
def oa (H:Hp)(a:Addr)(y v:V)(H':Hp):Prop:=
 (∃kvs k,H a=some (.dK kvs)/\y=kV k/\kvs.length < K4/\H'=upd H a (.dK (putK kvs k v)))∨
 ∃kvs k b,H a=some (.dT kvs)/\y= .ref b/\H b=some (.tup (k.map kV))/\kvs.length < K4/\H'=upd H a (.dT (putK kvs k v))
theorem eY.k {H:Hp}{a:Addr}{kvs:List (Key×V)}{k:Key}(e:H a=some (.dK kvs)):eY H a (kV k) (dk kvs k):=.inl ⟨kvs,k,.inl e,rfl,rfl⟩
theorem oa.k {H:Hp}{a:Addr}{kvs:List (Key×V)}{k:Key}{v:V}(e:H a=some (.dK kvs))(hl:kvs.length < K4):oa H a (kV k) v (upd H a (.dK (putK kvs k v))):=.inl ⟨kvs,k,e,rfl,hl,rfl⟩
section
variable {X:Cx}{Nh:Ia}{σ:St}{H:Hp}{s:K3}{a:Addr}{y v:V}{u r:Value}{o:Option V}{A:La}{E:Value->K3->Prop}
variable {Q:Value->K3->Prop}
theorem Inv.big (I:Inv X Nh σ H s):Lv < s.heap.objs.size:=by
 have h:K5 < s.heap.objs.size:=(I.mod.glob.keeps I.bk).lt
 exact Nat.lt_trans (by decide) h
theorem xu (hu:A.units + 1 < cLine)(I:Inv X Nh σ H s)(g:eY H a y (some v))(ry:RelV y u)(h:∀w' s',Inv X Nh σ H s'->RelV v w'->Q w' s'):
 wpAny (model X.prog X.w) A (LS (.ref a) u) Q E s:=by
 rcases g with⟨kvs,k,e,ey,l⟩ | ⟨kvs,k,b,e,ey,eb,l⟩
 ·subst ey
  obtain⟨z,hd,vs,rel,dd⟩:=ju I.Nm e
  obtain⟨w',hw,O6⟩:=hU.some_of (v:=v) (o:=L6 vs k) (by rw[l];exact rel.val k)
  exact wpAny_getItem_of (kE ry) dd.mapOf hw (h w' _ (I.tok _) O6)
 ·subst ey
  cases (show u=MI b from ry)
  obtain⟨z,hd,xs,rel,dd⟩:=ku I.Nm e
  obtain⟨w',hw,O6⟩:=hU.some_of (v:=v) (o:=(atKey xs k).map (·.2)) (by rw[l];exact rel.val k)
  obtain⟨p,hp,hp2⟩:=Option.map_eq_some_iff.mp hw
  refine wpAny_getItem_heap (LA hu) (jZ I.Nm eb) dd hp ?_
  rw[hp2]
  exact h w' _ (I.tok _) O6
theorem Ho (hu:A.units + 1 < cLine)(I:Inv X Nh σ H s)(g:eY H a y o)(ry:RelV y u)(h:∀s',Inv X Nh σ H s'->Q (.bool o.isSome) s'):
 wpAny (model X.prog X.w) A (Lj .In u (.ref a)) Q E s:=by
 rcases g with⟨kvs,k,e,ey,l⟩ | ⟨kvs,k,b,e,ey,eb,l⟩
 ·subst ey
  obtain⟨z,hd,vs,rel,dd⟩:=ju I.Nm e
  refine wpAny_in_of (kE ry) hd dd.mapOf ?_
  rw[← (rel.val k).iA,← l]
  exact h _ (I.tok _)
 ·subst ey
  cases (show u=MI b from ry)
  obtain⟨z,hd,xs,rel,dd⟩:=ku I.Nm e
  refine wpAny_in_heap (LA hu) (jZ I.Nm eb) hd dd ?_
  have q:=(rel.val k).iA
  rw[KJ] at q
  rw[← q,← l]
  exact h _ (I.tok _)
theorem AV (hu:A.units + 1 < cLine)(I:Inv X Nh σ H s)(g:eY H a y o)(ry:RelV y u)(h:∀s',Inv X Nh σ H s'->Q (.bool (!o.isSome)) s'):
 wpAny (model X.prog X.w) A (Lj .NotIn u (.ref a)) Q E s:=by
 rcases g with⟨kvs,k,e,ey,l⟩ | ⟨kvs,k,b,e,ey,eb,l⟩
 ·subst ey
  obtain⟨z,hd,vs,rel,dd⟩:=ju I.Nm e
  refine wpAny_notIn_of (kE ry) hd dd.mapOf ?_
  rw[← (rel.val k).iA,← l]
  exact h _ (I.tok _)
 ·subst ey
  cases (show u=MI b from ry)
  obtain⟨z,hd,xs,rel,dd⟩:=ku I.Nm e
  refine wpAny_notIn_heap (LA hu) (jZ I.Nm eb) hd dd ?_
  have q:=(rel.val k).iA
  rw[KJ] at q
  rw[← q,← l]
  exact h _ (I.tok _)
theorem nX {h':Heap}{t':Nat}{ob:HO}(I:Inv X Nh σ H s)(mu:xD (H a))(hs:Mz a s.heap h')(he:∃q,h'.get? a=some q)(new:cj X.prog X.w (upd H a ob) h' a ob):
 Inv X Nh σ (upd H a ob) {s with heap:=h',toks:=t'}:=
 I.write (x:=a) (e:=a) mu (.inl rfl) (λb q hb z=>(hs.2 b hb).trans z) he new
theorem xT {P:K7}{w:World}{H':Hp}{h':Heap}{kvs:List (Key×V)}{vs:List (Key×Value)}(z:kvs.length<=K4)(hd:(a==Lv)=false)(rel:KV kvs vs)(dd:h'.DictOf (cU P w) a vs):
 cj P w H' h' a (.dK kvs):=⟨z,hd,vs,rel,dd⟩
theorem vI {H':Hp}{Q:Unit->K3->Prop}(hu:A.units + 1 < cLine)(I:Inv X Nh σ H s)(g:oa H a y v H')(ry:RelV y u)(rv:RelV v r)(h:∀s',Inv X Nh σ H' s'->Q () s'):
 wpAny (model X.prog X.w) A (LR (.ref a) u r) Q E s:=by
 rcases g with⟨kvs,k,e,ey,l,eH⟩ | ⟨kvs,k,b,e,ey,eb,l,eH⟩
 ·subst ey eH
  obtain⟨z,hd,vs,rel,dd⟩:=Ac I.Nm e
  have hz:vs.length<=K4:=by rw[← rel.length];exact z
  have hl:(putK kvs k v).length<=K4:=by have:=jA kvs k v;omega
  refine wpAny_setItem_pairs (hsz:=hz) (kE ry) dd λh' RR hs=>h _ ?_
  have he:∃q,h'.get? a=some q:=let ⟨q,_,_,hq,_⟩:=RR;⟨q,hq⟩
  exact nX I (by rw[e];exact Ng) hs he (xT hl hd (rel.put k rv) RR)
 ·subst ey eH
  cases (show u=MI b from ry)
  obtain⟨z,hd,xs,rel,dd⟩:=Fu I.Nm e
  have hz:xs.length<=K4:=by rw[← Paired.length rel];exact z
  have hl:(putK kvs k v).length<=K4:=by have:=jA kvs k v;omega
  refine wpAny_setItem_heap (hsz:=hz) (LA hu) (jZ I.Nm eb) dd λh' RR hs=>h _ ?_
  obtain⟨q,es,ep,hq,h2,h3,h4,_,h5⟩:=RR
  refine nX I (by rw[e];exact Ng) hs ⟨q,hq⟩ ⟨hl,hd,_,(rel.put k eb rv).keeps λc ys ec=>?_,q,es,ep,hq,h2,h3,h4,h5⟩
  rw[aM (Fw ec e (λz=>nomatch z))]
  exact ec
end
section
variable {X:Cx}{Nh:Ia}{σ:St}{H:Hp}{s:K3}{a:Addr}{kvs:List (Key×V)}{k:Key}{u:Value}{A:La}{E:Value->K3->Prop}
theorem FU {Q:Value->K3->Prop}(I:Inv X Nh σ H s)(e:Rd H a (.dK kvs))(h:∀t s',Inv X Nh σ H s'->Q (.int kvs.length t) s'):wpAny (model X.prog X.w) A (call (.builtin "len") [.ref a]) Q E s:=by
 obtain⟨z,hd,vs,rel,dd⟩:=ju I.Nm e
 refine call_len_dict hd dd (by rw[← rel.length];rw[L9] at z;omega) ?_
 rw[← rel.length]
 exact h _ _ (I.tok _)
end
def rE (i:Expr):Prop:=∀ov iv,Ma i false ov iv=operate [ov,iv] (LS ov iv)
theorem AR {prog:K7}{w:World}{A:La}{E:Value->K3->Prop}{s:K3}{env:Env}{value slice:Expr}{pos:Pos}{T id:String}{Q:Value->K3->Prop}
 (hl:typeLookup (.type T) "__getitem__"=pure (some (.builtin id))) (hs:rE slice)
 (h:wpAny (model prog w) A (eval value env) (λo s₁=>wpAny (model prog w) A (eval slice env) (λi s₂=>s₂.TypeIs o T/\wpAny (model prog w) A (LS o i) Q E s₂) E s₁) E s):
 wpAny (model prog w) A (eval (.Subscript value slice pos) env) Q E s:=by
 refine Subscript_ (Lf h (λo s₁ h₁=>Lf h₁ (λi s₂ h₂=>?_) λ_ _ x=>x) λ_ _ x=>x)
 obtain⟨hT,h₂⟩:=h₂
 unfold K0
 refine K6 ?_
 rw[getitemInPython_of_ne hT.not_modules]
 refine K6 (wpAny_specialOf hT hl ?_)
 have fin:wpAny (model prog w) A (Ma slice false o i) (λr s₃=>wpAny (model prog w) A (letTemporaryGo value o r >>=λ_=>pure r) Q E s₃) E s₂:=by
  rw[hs o i]
  exact wpAny_operating (Lf h₂ (λr s₃ h₃=>K6 (wpAny_letTemporaryGo (K8 h₃))) λ_ _ x=>x)
 first
  | exact K8 (K6 fin)
  | exact K6 (K8 (K6 fin))
  | exact K6 fin
theorem sr {X:Cx}{Nh:Ia}{σ:St}{H:Hp}{s:K3}{a:Addr}{y:V}{o:Option V}(I:Inv X Nh σ H s)(g:eY H a y o):s.TypeIs (.ref a) "dict":=by
 rcases g with⟨kvs,k,e,_,_⟩ | ⟨kvs,k,b,e,_,_,_⟩
 ·obtain⟨_,_,vs,_,dd⟩:=ju I.Nm e
  exact dd.typeIs
 ·obtain⟨_,_,xs,_,dd⟩:=ku I.Nm e
  exact dd.typeIs
def EX (td ty:TE):TE:=λσ H Q=>td σ H λx H1=>ty σ H1 λy H2=>∃a v,x= .ref a/\eY H2 a y (some v)/\Q v H2
def HL (ty td:TE):TE:=λσ H Q=>ty σ H λy H1=>td σ H1 λx H2=>∃a o,x= .ref a/\eY H2 a y o/\Q (.bl o.isSome) H2
def AI (ty td:TE):TE:=λσ H Q=>ty σ H λy H1=>td σ H1 λx H2=>∃a o,x= .ref a/\eY H2 a y o/\Q (.bl (!o.isSome)) H2
def ED (td ty tv:TE):TS:=λD σ H=>tv σ H λv H1=>td σ H1 λx H2=>ty σ H2 λy H3=>∃a H4,x= .ref a/\oa H3 a y v H4/\D.nx σ H4
section
variable {X:Cx}{o i e value:Expr}{pos pos' Ra:Pos}{td ty tv:TE}
theorem oj (hu:X.A.units + 1 < cLine)(ho:PE X o td)(hi:PE X i ty)(hs:rE i):PE X (.Subscript o i pos) (EX td ty):=by
 intro Nh s σ H Q I h
 refine AR PySem.F.slot_dict_getitem.lookup hs (aQ (ho Nh s σ H _ I h) λu s1 ⟨x,H1,I1,rx,q1⟩=>aQ (hi Nh s1 σ H1 _ I1 q1) λiv s2 ⟨y,H2,I2,ry,a,v,ex,g,q2⟩=>?_)
 subst ex
 obtain rfl:u=MI a:=rx
 exact⟨sr I2 g,xu hu I2 g ry λw' s3 I3 O6=>⟨v,H2,I3,O6,q2⟩⟩
theorem xF (hu:X.A.units + 1 < cLine)(hi:PE X i ty)(ho:PE X o td):PC X .In i o (HL ty td):=by
 intro Nh s σ H Q I h
 refine aQ (hi Nh s σ H _ I h) λiv s1 ⟨y,H1,I1,ry,q1⟩=>aQ (ho Nh s1 σ H1 _ I1 q1) λu s2 ⟨x,H2,I2,rx,a,ov,ex,g,q2⟩=>?_
 subst ex
 obtain rfl:u=MI a:=rx
 exact Ho hu I2 g ry λs3 I3=>⟨.bl ov.isSome,H2,I3,rfl,q2⟩
theorem vy (hu:X.A.units + 1 < cLine)(hi:PE X i ty)(ho:PE X o td):PC X .NotIn i o (AI ty td):=by
 intro Nh s σ H Q I h
 refine aQ (hi Nh s σ H _ I h) λiv s1 ⟨y,H1,I1,ry,q1⟩=>aQ (ho Nh s1 σ H1 _ I1 q1) λu s2 ⟨x,H2,I2,rx,a,ov,ex,g,q2⟩=>?_
 subst ex
 obtain rfl:u=MI a:=rx
 exact AV hu I2 g ry λs3 I3=>⟨.bl (!ov.isSome),H2,I3,rfl,q2⟩
theorem tG (hu:X.A.units + 1 < cLine)(ho:PE X o td)(hi:PE X i ty)(hv:PE X value tv)(hs:K9 value (some (.Subscript o i pos')) pos.line X.env=pure false):
 PS X (.Assign [.Subscript o i pos'] value pos) (ED td ty tv):=by
 intro Nh s σ H D I h
 refine wpAny_Assign_Subscript (aQ (hv Nh s σ H _ I h) λr s1 ⟨v,H1,I1,rv,q1⟩=>aQ (ho Nh s1 σ H1 _ I1 q1) λu s2 ⟨x,H2,I2,rx,q2⟩=>aQ (hi Nh s2 σ H2 _ I2 q2) λiv s3 ⟨y,H3,I3,ry,a,H4,ex,g,q3⟩=>?_) hs
 subst ex
 obtain rfl:u=MI a:=rx
 exact vI hu I3 g ry rv λs4 I4=>⟨σ,H4,I4,q3⟩
end
theorem qz {P:K7}{w:World}{H:Hp}(h:Heap)(hb:Lv < h.objs.size):cj P w H (h.push {cls:=.type "dict",data:=.dict #[]}) h.objs.size (.dK []):=
 ⟨Ky _,beq_eq_false_iff_ne.mpr (KG (Kt hb)),[],.nil,Heap.DictOf.new h⟩
def CJ:TE:=λ_ H Q=>∀p,H p=none->Q (.ref p) (upd H p (.dK []))
section
variable {X:Cx}{pos:Pos}
theorem yO:PE X (.Dict [] [] pos) CJ:=λNh s σ H Q I h=>
 wpAny_Dict_empty ⟨.ref s.heap.objs.size,_,I.laid (a:=s.heap.objs.size) (o:=.dK []) (t':=s.toks) (λ_ _ q=>Mx _ q) (Kp _) (qz s.heap I.big),rfl,h _ (I.Nm.fresh (Kp _))⟩
end
section
variable {X:Cx}
def qA:List (TE×TE)->St->Hp->(List (V×V)->Hp->Prop)->Prop
 | [],_,H,Q=>Q [] H
 | (tk,tv)::r,σ,H,Q=>tk σ H λx H1=>tv σ H1 λy H2=>qA r σ H2 λps H3=>Q ((x,y)::ps) H3
abbrev VV:List (V×V)->List (Value×Value)->Prop:=Paired λp q=>RelV p.1 q.1/\RelV p.2 q.2
def zA (X:Cx)(pos:Pos)(keys:List (Option Expr))(values:Ii)(Qs:List (TE×TE)):Prop:=
 ∀(Nh:Ia) (s:K3) (σ:St) (H:Hp) (Q:List (V×V)->Hp->Prop),Inv X Nh σ H s->qA Qs σ H Q->
  wpAny (model X.prog X.w) X.A (evalPairs (pairTrees keys values X.env pos)) (λvs s'=>∃ps H',Inv X Nh σ H' s'/\VV ps vs/\Q ps H') X.xe s
theorem A9 {pos:Pos}:zA X pos [] [] []:=λNh s σ H Q I h=>pairTrees_nil_walk ⟨[],H,I,.nil,h⟩
theorem yg {pos:Pos}{k v:Expr}{ks:List (Option Expr)}{vs:Ii}{tk tv:TE}{Qs:List (TE×TE)}(hk:PE X k tk)(hv:PE X v tv)(hr:zA X pos ks vs Qs):
 zA X pos (some k::ks) (v::vs) ((tk,tv)::Qs):=λNh s σ H Q I h=>
 pairTrees_cons_walk (aQ (hk Nh s σ H _ I h) λu s1 ⟨x,H1,I1,rx,q1⟩=>aQ (hv Nh s1 σ H1 _ I1 q1) λw2 s2 ⟨y,H2,I2,ry,q2⟩=>
  aQ (hr Nh s2 σ H2 _ I2 q2) λws s3 ⟨ps,H3,I3,rel,q3⟩=>⟨(x,y)::ps,H3,I3,.cons ⟨rx,ry⟩ rel,q3⟩)
def j6 (kvs more:List (Key×V)):List (Key×V):=more.foldl (λacc kv=>putK acc kv.1 kv.2) kvs
theorem KV.merge:∀{more:List (Key×V)} {rs:List (Key×Value)} {kvs:List (Key×V)} {vs:List (Key×Value)},KV more rs->KV kvs vs->KV (j6 kvs more) (merged vs rs):=by
 intro more rs kvs vs r
 unfold KV at r
 induction r generalizing kvs vs with
 | nil=>intro q;exact q
 | @cons p q ps qs h t ih=>
   intro r0
   have e:KV (putK kvs p.1 p.2) (stored vs q.1 q.2):=by
    have:=r0.put p.1 h.2
    rw[← h.1];exact this
   exact ih e
theorem kO:∀(more kvs:List (Key×V)),(j6 kvs more).length<=kvs.length + more.length
 | [],kvs=>by show kvs.length<=kvs.length + 0;omega
 | p::r,kvs=>by
   have h1:=kO r (putK kvs p.1 p.2)
   have h2:=jA kvs p.1 p.2
   show(j6 (putK kvs p.1 p.2) r).length<=_
   rw[I0];omega
theorem nE {P:K7}{w:World}:∀{kvs:List (Key×V)} {ws:List (Value×Value)},VV (kvs.map λkv=>(kV kv.1,kv.2)) ws->∃rs,Carries (cU P w) ws rs/\KV kvs rs
 | [],_,r=>by rw[map_nil] at r;cases r;exact⟨[],Ng,.nil⟩
 | p::kvs,_,r=>by
   rw[Js] at r
   cases r with
   | @cons a b as bs h t=>
     obtain⟨rs,c,q⟩:=nE (P:=P) (w:=w) t
     obtain⟨b1,b2⟩:=b
     exact⟨(p.1,b2)::rs,⟨kE h.1,rfl,c⟩,.cons ⟨rfl,h.2⟩ q⟩
def Fm (Qs:List (TE×TE)):TE:=λσ H Q=>∀p,H p=none->qA Qs σ (upd H p (.dK [])) λps H2=>H2 p=some (.dK [])/\∃kvs:List (Key×V),ps=kvs.map (λkv=>(kV kv.1,kv.2))/\kvs.length<=15/\Q (.ref p) (upd H2 p (.dK (j6 [] kvs)))
theorem A5 {pos:Pos}{keys:List (Option Expr)}{values:Ii}{Qs:List (TE×TE)}(h:zA X pos keys values Qs)(Ph:keys.all (·.isSome)=true)(hl:keys.length=values.length)(h0:keys≠[])
 (h15:keys.length<=15):PE X (.Dict keys values pos) (Fm Qs):=by
 intro Nh s σ H Q I q
 have hn:=I.Nm.fresh (Kp s.heap.objs.size)
 have I1:=I.laid (a:=s.heap.objs.size) (o:=.dK []) (h':=s.heap.push {cls:=.type "dict",data:=.dict #[]}) (t':=s.toks) (λ_ _ q=>Mx _ q) (Kp _) (qz s.heap I.big)
 refine wpAny_Dict_walk (knd:=cU X.prog X.w) Ph hl h0 h15 (aQ (h Nh _ σ _ _ I1 (q _ hn)) λws s2 ⟨ps,H2,I2,rel,e,kvs,ep,lk,q2⟩=>?_)
 subst ep
 obtain⟨rs,c,rk⟩:=nE (P:=X.prog) (w:=X.w) rel
 obtain⟨z,hd,vs0,r0,dd⟩:=Ac I2.Nm e
 cases r0
 refine⟨rs,c,dd,λh' RR hs=>⟨.ref s.heap.objs.size,_,?_,rfl,q2⟩⟩
 have hz:(j6 [] kvs).length<=K4:=by
  have h1:=kO kvs []
  rw[Kd] at h1
  rw[L9];omega
 have he:∃q,h'.get? s.heap.objs.size=some q:=let ⟨q,_,_,hq,_⟩:=RR;⟨q,hq⟩
 exact nX I2 (by rw[e];exact Ng) hs he (xT hz hd (rk.merge .nil) RR)
structure M2 (X:Cx) (o:Expr) (m:Str) (apos:Pos) (e f:Expr) (NX:Pos):Prop where
 base:Li o m X.env (eval o X.env)=eval o X.env
 few:((Lb NX (K2 [e,f] X.env)).all (λx=> !x.1)&&(LH NX (Lq [] X.env)).all (λx=>x.1.isSome)
  &&decide (([e,f]:Ii).length + ([]:List Ll).length + (if([]:List Ll).isEmpty then 0 else 1) < 30))=true
 line:(apos.endLine==NX.line)=true
 trees:Lb NX (K2 [e,f] X.env)=[(false,eval e X.env),(false,eval f X.env)]
def Hc (H:Hp)(a:Addr):Prop:=(∃kvs,Rd H a (.dK kvs))∨∃kvs,Rd H a (.dT kvs)
theorem Cc {Nh:Ia}{σ:St}{H:Hp}{s:K3}{a:Addr}(I:Inv X Nh σ H s)(d:Hc H a):
 s.TypeIs (.ref a) "dict"/\(∀b,MI a= .ref b->∃ob,s.heap.get? b=some ob/\ob.dict=none)/\(a==Lv)=false:=by
 rcases d with⟨kvs,e⟩ | ⟨kvs,e⟩
 ·obtain⟨_,hd,vs,_,dd⟩:=ju I.Nm e
  refine⟨dd.typeIs,λb q=>?_,hd⟩
  cases q
  obtain⟨ob,_,_,h1,h2,_⟩:=dd
  exact⟨ob,h1,h2.2.1⟩
 ·obtain⟨_,hd,xs,_,dd⟩:=ku I.Nm e
  refine⟨dd.typeIs,λb q=>?_,hd⟩
  cases q
  obtain⟨ob,_,_,h1,h2,_⟩:=dd
  exact⟨ob,h1,h2.2.1⟩
end
section
variable {X:Cx}{Nh:Ia}{σ:St}{H:Hp}{s:K3}{a:Addr}{y d:V}{u r:Value}{o:Option V}{A:La}{E:Value->K3->Prop}
theorem D0 {Q:Value->K3->Prop}(hu:A.units + 1 < cLine)(I:Inv X Nh σ H s)(g:eY H a y o)(ry:RelV y u)(rd:RelV d r)(h:∀w' s',Inv X Nh σ H s'->RelV (o.getD d) w'->Q w' s'):
 wpAny (model X.prog X.w) A (call (.builtin "dict.get") [.ref a,u,r]) Q E s:=by
 rcases g with⟨kvs,k,e,ey,l⟩ | ⟨kvs,k,b,e,ey,eb,l⟩
 ·subst ey
  obtain⟨z,hd,vs,rel,dd⟩:=ju I.Nm e
  refine call_meetsIn Mv dd.typeIs PySem.F.entry_dict_get (PySem.F.args_dict_get_3 _ _ _) (meets_dict_get_default (cU X.prog X.w) a (kE ry) hd r) ⟨_,dd.mapOf,h _ _ (I.tok _) ?_⟩
  rw[l]
  exact(rel.val k).getD rd
 ·subst ey
  cases (show u=MI b from ry)
  obtain⟨z,hd,xs,rel,dd⟩:=ku I.Nm e
  refine call_meetsIn Mv dd.typeIs PySem.F.entry_dict_get (PySem.F.args_dict_get_3 _ _ _) (meetsH_dict_get_default (LZ (cU X.prog X.w)) a b hd r) ⟨LA hu,k,xs,jZ I.Nm eb,dd,h _ _ (I.tok _) ?_⟩
  rw[l]
  exact(rel.val k).getD rd
end
def DW (td ty tx:TE):TE:=λσ H Q=>td σ H λx H1=>∃a,x= .ref a/\Hc H1 a/\ty σ H1 λy H2=>tx σ H2 λz H3=>∃o,eY H3 a y o/\Q (o.getD z) H3
section
variable {X:Cx}{o e f:Expr}{apos NX:Pos}{td ty tx:TE}
theorem yj (hu:X.A.units + 1 < cLine)(ho:PE X o td)(he:PE X e ty)(hf:PE X f tx)(m:M2 X o "get" apos e f NX):PE X (.Call (.Attribute o "get" apos) [e,f] [] NX) (DW td ty tx):=by
 intro Nh s σ H Q I h
 refine wpAny_Call_method m.base m.few m.line PySem.F.plainAttrs_dict Mv PySem.F.type_dict_get (aQ (ho Nh s σ H _ I h) λu s1 ⟨x,H1,I1,rx,a,ex,d,q1⟩=>?_)
 subst ex
 obtain rfl:u=MI a:=rx
 obtain⟨t1,t2,_⟩:=Cc I1 d
 refine⟨t1,t2,?_⟩
 rw[m.trees]
 refine Mo rfl (Mp (Mn (aQ (he Nh s1 σ H1 _ I1 q1) λiv s2 ⟨y,H2,I2,ry,q2⟩=>
  Mn (aQ (hf Nh s2 σ H2 _ I2 q2) λfv s3 ⟨z,H3,I3,rz,ov,g,q3⟩=>Mq ?_))))
 exact D0 hu I3 g ry rz λw' s4 I4 O6=>⟨_,H3,I4,O6,q3⟩
end
section
variable {X:Cx}{Nh:Ia}{σ:St}{H:Hp}{s:K3}{a:Addr}{kvs:List (Key×V)}{A:La}{E:Value->K3->Prop}
end
section
variable {X:Cx}{Nh:Ia}{σ:St}{H:Hp}{s:K3}{a:Addr}{y:V}{u:Value}{A:La}{E:Value->K3->Prop}
end
end L2
namespace Att
open PySem PySem.W PySem.Calls PyProof.Rows
theorem nD {P:Params}{h:Heap}:∀(ns:Ib) (vs:Ih),WellAll P h vs (ns.map WData.int)->KZ vs ns:=by
 intro ns
 induction ns with
 | nil=>
   intro vs w
   rw[map_nil] at w
   cases w
   exact .nil
 | cons n ns ih=>
   intro vs w
   rw[Js] at w
   cases w with
   | cons a b=>
     cases a
     exact .cons _ _ (ih _ b)
theorem wY {l:OpenLaw}{n:Nat}(hn:l.most=some n){P:Params}{h:Heap}{args:List WData}{vals:Ih}
 (QB:l.row.toRowW.claim.pre args=true) (SJ:WellAll P h vals args):
 ∃a vs ns,vals=[MI a]/\args=[WData.list (ns.map WData.int)]/\h.get? a=some {cls:=.type "list",data:=.seq vs.toArray}/\KZ vs ns/\ns.length<=n:=by
 have hsh:WShape.hasAll [] args [.list .int]=true:=(pre_splitW QB).1
 have hc:l.pre.holds [] {args:=args}=true:=(pre_splitW QB).2
 obtain⟨d,r,rfl,h1,h2⟩:=hasAllW_cons hsh
 obtain rfl:=hasAllW_nil h2
 obtain⟨xs,rfl,h3⟩:=hasW_list h1
 obtain⟨ns,rfl⟩:=items_int h3
 have hlen:ns.length<=n:=by
  unfold OpenLaw.pre at hc
  have h4:(WTm.not (.lt (.lit (.int (n:Int))) (.len (.arg 0)))).holds [] {args:=[.list (ns.map .int)]}=true:=by
   have h4:=(holds_andW hc).1
   rw[hn] at h4
   exact h4
  have h5:=condW_of h4 (w_not (w_lt w_lit (w_len_list (w_arg rfl))))
  rw[IM] at h5
  refine Nat.le_of_not_lt λq=>?_
  have q':(n:Int) < ((ns.length:Nat):Int):=by omega
  first
   | (rw[decide_eq_true q'] at h5;exact absurd h5 (by decide))
   | (simp at h5;omega)
 cases SJ with
 | cons w1 w2=>
   cases w2
   cases w1 with
   | list ho Ph=>exact⟨_,_,ns,rfl,rfl,ho,nD ns _ Ph,hlen⟩
theorem xf (l:OpenLaw)(args:List WData):l.row.toRowW.claim.post args (.bool true) args=true:=
 postW_of (r:=l.row.toRowW) (X:=(true==true))
  (show WShape.has [] (.bool true) .bool=true by first | rfl | decide | simp[WShape.has,WShape.arms,WShape.armsAll])
  (show(WTm.eq .res (.lit (.bool true))).value [] {args:=args,res:=some (.bool true),after:=args}=some (.bool (true==true)) from w_eq_bool (w_res rfl) w_lit) rfl
section
variable {prog:K7}{w:World}{A:La}{E:Value->K3->Prop}{s:K3}{K:Frag}
end
end Att
namespace L2
open PySem PySem.Spec PyProof.Rows
theorem lq:∀{vs:Ih} {ns:Ib},KZ vs ns->Vals (ns.map V.int) vs
 | _,_,.nil=>.nil
 | _,_,.cons n t h=>.cons ⟨t,rfl⟩ (lq h)
def yX (H:Hp):Prop:=∀b,H b=none∨∃o xs,H b=some (.N6 o (.lst xs))
theorem ym {P:K7}{w:World}{K:MP}{mg mb:HZ}{CX:jV}{k:Nat}{fa a:Addr}{fd:Ld}{x:Str}{sp:Sp}{s₁:K3}{vs:Ih}{ns:Ib}
 (KX:K.In s₁.heap) (QX:s₁.heap.Ns K5 mg) (hb:s₁.heap.Ns builtinsNs mb) (hbb:∀x:Str,x≠"__name__"->mb x=Lo x) (hlim:s₁.heap.NoLimit) (hg:s₁.gens= #[])
 (ha:s₁.heap.get? a=some {cls:=.type "list",data:=.seq vs.toArray}) (hi:KZ vs ns) (hl:ns.length<=K4) (hr:bI k L7)
 (F:∀base:Heap,K.In base->base.Ns K5 mg->fH P w K mg base CX k fa fd [x] sp) (Tn:∀(s:K3) (u:Value),Md s fd ⟨[u],[]⟩ [(x,u)])
 (QU:∀H:Hp,yX H->bt K H a (ns.map V.int)->sp [.ref a] H (λv _=>v= .bl true) λ_ _ _=>False)
 (hCX:∀H e s',CX [] H s₁ (λ_ _ _=>False) e s'->False):
 Me (model P w) L7 (.call (.ref fa) ⟨[.ref a],[]⟩) (λr s'=>r= .ok (.ret (.bool true))/\OldK s₁.heap s'.heap/\s'.os=s₁.os/\KW s'.gens) s₁:=by
 have rv:=lq hi
 have lenV:=hi.length
 -- from an abstract heap in which nothing but PB Rg may be tracked
 have core:∀H:Hp,yX H->bt K H a (ns.map V.int)->cQ P w H s₁.heap->(∀b,H b≠none->b=a)->(H a≠none->K.lookup a=none)->
  Me (model P w) L7 (.call (.ref fa) ⟨[.ref a],[]⟩) (λr s'=>r= .ok (.ret (.bool true))/\OldK s₁.heap s'.heap/\s'.os=s₁.os/\KW s'.gens) s₁:=by
  intro H hO hS Nm hA hK
  have base_of:∀{b:Addr} {o:Obj},s₁.heap.get? b=some o->H b=none->(ko s₁.heap H).get? b=some o:=λe n=>ye e n
  have Sz:∀{b:Addr} {o:Obj} {es:Array DictEntry} {ep:Nat},s₁.heap.get? b=some o->o.data= .dict es ep->H b=none:=λ{b o es ep} e d=>by
   cases q:H b with
   | none=>rfl
   | some u=>
     have e':b=a:=hA b (by rw[q];simp)
     subst e'
     rw[ha] at e;cases e
     have d':Data.seq vs.toArray _=Data.dict es ep:=d
     cases d'
  have nsK:∀{b:Addr} {m:HZ},s₁.heap.Ns b m->(ko s₁.heap H).Ns b m:=λ{b m} ⟨o,es,ep,e,d,r⟩=>⟨o,es,ep,base_of e (Sz e d),d,r⟩
  have hKb:K.In (ko s₁.heap H):=λb o e=>base_of (KX b o e) (by
   cases q:H b with
   | none=>rfl
   | some u=>
     have e':b=a:=hA b (by rw[q];simp)
     subst e'
     rw[hK (by rw[q];simp)] at e;cases e)
  have hM:Mod K mg (ko s₁.heap H):=⟨hKb,nsK QX,⟨mb,nsK hb,hbb⟩,let ⟨mc,h1,h2⟩:=hlim;⟨mc,nsK h1,h2⟩⟩
  have e0:rO P w K mg (ko s₁.heap H) L7 [] s₁ H:=⟨rfl,hM,λb o e=>Be e,Nat.le_of_eq (wF _ _),trivial,λb hb=>absurd (show b∈([]:Ig) from hb) (by simp),Nm,.of_eq hg⟩
  refine LN ((F _ hKb (nsK QX)).run L7 [] s₁ H ⟨[.ref a],[]⟩ [.ref a] [.ref a] _ _ hr e0 (Tn s₁ (.ref a)) (.cons rfl .nil) (QU H hO hS)) λr s' h=>?_
  cases r with
  | error e=>exact(hCX H e s' h).elim
  | ok fl=>
    cases fl with
    | next=>exact Iy h
    | brk=>exact Iy h
    | cont=>exact Iy h
    | ret u=>
      obtain⟨v,H',os,bare,un,hok',r',q⟩:=h
      have q':v= .bl true:=q
      subst q'
      obtain rfl:u=MO true:=r'
      refine⟨rfl,OldK.of_keep λb o e=>?_,os,bare⟩
      cases q:H b with
      | none=>exact un.keep b o e q (by intro z;exact absurd (show b∈([]:Ig) from z) (by simp)) (by simp)
      | some u=>
        rcases hO b with z | ⟨ob,xs,z⟩
        ·rw[q] at z;cases z
        ·have z2:=un.NR b ob _ z
         obtain⟨e1,_⟩:=Nm b _ z
         obtain⟨e2,_⟩:=hok' b _ z2
         rw[e] at e1;cases e1
         exact e2
 cases hk:K.lookup a with
 | some o=>
   -- PB Rg is one of PB SF own objects
   have e:=KX a o hk
   rw[ha] at e
   cases e
   refine core (λ_=>none) (λ_=>.inl rfl) (.inr ⟨_,vs.toArray,_,hk,rfl,rfl,rfl,by rw[Jc,lenV];exact hl,by simpa using rv⟩) (λb u z=>by have z':(none:Option HO)=some u:=z;cases z') (λb z=>absurd rfl z) λz=>absurd rfl z
 | none=>
   refine core (λb=>if b=a then some (.N6 {cls:=.type "list",data:=.seq vs.toArray} (.lst (ns.map V.int))) else none) (λb=>?_) (.inl (.inr ⟨{cls:=.type "list",data:=.seq vs.toArray},if_pos rfl⟩)) (λb u z=>?_) (λb z=>?_) λ_=>hk
   ·by_cases hb:b=a
    ·exact .inr ⟨_,_,if_pos hb⟩
    ·exact .inl (if_neg hb)
   ·by_cases hb:b=a
    ·have z':=(if_pos hb).symm.trans z
     cases z'
     subst hb
     exact⟨ha,by rw[IM];exact hl,vs,_,rv,ha⟩
    ·have z':=(if_neg hb).symm.trans z
     cases z'
   ·by_cases hb:b=a
    ·exact hb
    ·exact absurd (if_neg hb) z
abbrev aR {K:MP}{h:Heap}(_:K.In h):MP:=K
def gq (s:Stmt):Arguments:=match s with
 | .FunctionDef _ a _ _ _ _ _ _ _ _=>a
 | _=>{posonlyargs:=[],args:=[],vararg:=none,kwonlyargs:=[],kw_defaults:=[],kwarg:=none,defaults:=[]}
def bG (s:Stmt):List Stmt:=match s with
 | .FunctionDef _ _ b _ _ _ _ _ _ _=>b
 | _=>[]
def ag (s:Stmt):Scope:=match s with
 | .FunctionDef _ _ _ _ _ _ sc _ _ _=>sc
 | _=>{kind:=.function,names:=[],isGenerator:=false,isCoroutine:=false}
abbrev dW:jV:=λ_ _ _ _ _ _=>False
abbrev E0:XK:=λ_ _ _=>False
theorem kC {X:Cx}:Passes dW X E0:=λ_ _ _ _ _ _ _ h=>h.elim
structure bC (K:MP) (x qual:Str) (st:Stmt) (f:Addr) (fd:Ld):Prop where
 ex:∃(oc:Value) (od:Option Addr) (kV doc pm:Value) (an:Option Addr) (Nl ct:Value) (O7:Array Ie),
  fd=MY x qual (gq st) (bG st) (ag st) .none kV doc pm an Nl ct/\K.lookup f=some ⟨oc,od,.func fd,O7⟩/\M6 K Nl qual=true
 kp:MZ K (.ref f)=true
section
variable {P:K7}{w:World}{K:MP}{mg:HZ}{base:Heap}
variable {x qual:Str}{st:Stmt}{f:Addr}
theorem bC.ok {fd:Ld}{N ps:Ic}{k:Nat}{sp:Sp}(F:bC K x qual st f fd)(S:aF N ps (ag st))(len:∀vs H Q E,sp vs H Q E->vs.length=ps.length)
 (NH:∀(Nl:Value) (A:La) (outer:List Env) (s:K3) (H:Hp) (vs:List V) (Q:VK) (E:XK),bI k (A.deeper (KP qual (ag st) s.heap.objs.size f Nl))->sp vs H Q E->
  ∃t,iy (bQ dW P w K mg base N qual (ag st) f Nl A outer s H E).cO (bG st) t/\t {nx:=λ_ H'=>Q .Nu H',rt:=Q} (start N vs) H):fH P w K mg base dW (k + 1) f fd ps sp:=by
 obtain⟨oc,od,kV,doc,pm,an,Nl,ct,O7,rfl,lk,Np⟩:=F.ex
 refine ua lk Np S len λA outer s H vs Q E hr QU=>?_
 obtain⟨t,h,q⟩:=NH Nl A outer s H vs Q E hr QU
 exact⟨t,h.cO,q⟩
theorem bC.binds {fd:Ld}{ps:Ic}(F:bC K x qual st f fd)
 (h:∀(kV doc pm:Value) (an:Option Addr) (Nl ct:Value) (us:Ih),us.length=ps.length->bindArgs (MY x qual (gq st) (bG st) (ag st) .none kV doc pm an Nl ct) ⟨us,[]⟩=pure (ps.zip us)):Binds K fd ps []:=by
 obtain⟨oc,od,kV,doc,pm,an,Nl,ct,O7,rfl,lk,Np⟩:=F.ex
 exact .all (h kV doc pm an Nl ct)
theorem rW {oc:Value}{od an:Option Addr}{O7:Array Ie}{kV doc pm Nl ct:Value}(l:K.lookup f=some ⟨oc,od,.func (MY x qual (gq st) (bG st) (ag st) .none kV doc pm an Nl ct),O7⟩)
 (c:M6 K Nl qual=true) (k:MZ K (.ref f)=true):bC K x qual st f (MY x qual (gq st) (bG st) (ag st) .none kV doc pm an Nl ct):=⟨⟨oc,od,kV,doc,pm,an,Nl,ct,O7,rfl,l,c⟩,k⟩
end
theorem FP {A:La}{k:Nat}(hr:bI k A):A.units + 1 < cLine:=Ko (Ks (by decide:1<=64) _) hr.units
section
variable {X:Cx}
end
section
variable {H:Hp}
theorem jD {A B:Prop}(h:B):if false=true then A else B:=by
 rw[if_neg Il]
 exact h
theorem jB {A B:Prop}(h:A):if true=true then A else B:=by
 rw[if_pos rfl]
 exact h
def ar (H H':Hp):Prop:=∀b o,H b=some o->H' b=some o
theorem ar.refl (H:Hp):ar H H:=λ_ _ h=>h
theorem ar.trans {H1 H2:Hp}(a:ar H H1)(b:ar H1 H2):ar H H2:=λc o h=>b c o (a c o h)
theorem ar.free {H':Hp}(e:ar H H'){l:Addr}(h:H' l=Option.none):H l=Option.none:=by
 cases q:H l with
 | none=>rfl
 | some o=>
   rw[e l o q] at h
   cases h
theorem ar.seq {K:MP}{H':Hp}{a:Addr}{xs:List V}(e:ar H H')(h:bt K H a xs):bt K H' a xs:=by
 rcases h with(h | ⟨o,h⟩) | h
 ·exact .inl (.inl (e _ _ h))
 ·exact .inl (.inr ⟨o,e _ _ h⟩)
 ·exact .inr h
end
section
variable {X:Cx}
theorem vK:dH X (.builtin "len") (λxs H Q=>∃a kvs,xs=[V.ref a]/\H a=some (.dK kvs)/\Q (.int kvs.length) H):=by
 intro Nh s σ H xs us Q I r h
 obtain⟨a,kvs,rfl,ha,q⟩:=h
 obtain⟨u,rfl,ru⟩:=vals1 r
 cases ru
 exact FU I (.inl ha) λt s' I'=>⟨.int kvs.length,H,I',⟨t,rfl⟩,q⟩
end
section
variable {κ:Type} [DecidableEq κ]
theorem gz:∀{l:List κ} {k:κ},l.Nodup->¬k∈l->(l++[k]).Nodup
 | [],k,_,_=>by simp
 | a::r,k,h,hk=>by
   obtain⟨h1,h2⟩:=Jh.mp h
   show(a::(r++[k])).Nodup
   refine Jh.mpr ⟨λm=>?_,gz h2 λm=>hk (IY.mpr (Or.inr m))⟩
   rcases IS.mp m with q | q
   ·exact h1 q
   ·exact hk (IY.mpr (Or.inl (II.mp q).symm))
end
section
variable {X:Cx}
variable {elt target iter:Expr}{ifs:Ii}{scope:Scope}{s:K3}{cl:List (Str×Addr)}{fr:Ic}{ix:List Nat}{wi:TI}{g:TG}{tc:TT}{te:TE}
def aL (X:Cx)(scope:Scope)(cl:List (Str×Addr))(C:Addr)(N':Ic)(s:K3)(H:Hp)(ex:Ig):Cx:=
 {X with N:=N',s₀:=s,H₀:=H,env:=compEnvC scope cl C X.env,outer:=X.stack,stack:=X.stack,ex:=ex,fn:=λ_=>false,pn:=[],xe:=λ_ _=>False}
def PF (X:Cx)(ifs:Ii)(t:TT):Prop:=
 ∀(Nh:Ia) (s:K3) (σ:St) (H:Hp) (Q:Bool->Hp->Prop),Inv X Nh σ H s->t σ H Q->
  wpAny (model X.prog X.w) X.A (forIn ifs true λc r=>if r=true then do let ok ← LK c X.env (eval c X.env);pure (Iz ok) else pure (Iz r)) (TP X Nh σ Q) X.xe s
def HH:TT:=λ_ H Q=>Q true H
theorem B2:PF X [] HH:=by
 intro Nh s σ H Q I h
 exact K8 ⟨H,I,h⟩
theorem DE {c:Expr}{t:TT}(hc:PT X c t):PF X [c] t:=by
 intro Nh s σ H Q I h
 show wpAny _ _ (forIn [c] true λc r=>_) _ _ s
 rw[List.forIn_cons]
 simp only[if_true,List.forIn_nil]
 refine K6 (K6 (Lf (hc Nh s σ H Q I h) (λb s1 h1=>?_) λ_ _ e=>e))
 exact K8 (K8 h1)
theorem pP {prog:K7}{w:World}{A:La}{R:Result->K3->Prop}{pos:Pos}{it acc:Value}{env:Env}(I:Nat->K3->Prop)
 (turn:∀n s,I n s->wpAny (model prog w) A (pyNext it) (λr s₁=>match r with
  | none=>R (.ok .next) s₁
  | some v=>wpAny (model prog w) A (LV target it v) (λ_ s₁'=>wpAny (model prog w) A (Lp target env v) (λ_ s₂=>
   wpAny (model prog w) A (forIn ifs true λc r=>if r=true then do let ok ← LK c env (eval c env);pure (Iz ok) else pure (Iz r)) (λok s₃=>
    if ok=true then wpAny (model prog w) A (eval elt env) (λx s₄=>
     wpAny (model prog w) A (call (.builtin "list.append") [acc,x]) (λ_ s₅=>∃m,m < n/\I m s₅) (λ_ _=>False) s₄) (λ_ _=>False) s₃
    else∃m,m < n/\I m s₃) (λ_ _=>False) s₂) (λ_ _=>False) s₁') (λ_ _=>False) s₁) (λ_ _=>False) s)
 (n:Nat) (h:I n s):
 Me (model prog w) A (.compLoop (.ListComp elt [⟨target,iter,ifs,0⟩] scope pos) 0 it acc env) R s:=by
 have no:∀{α:Type} {t:Sem α} {Q:α->K3->Prop} {E:Value->K3->Prop} {s:K3},wpAny (model prog w) A t Q (λ_ _=>False) s->wpAny (model prog w) A t Q E s:=λh=>Lf h (λ_ _ q=>q) λ_ _ f=>f.elim
 refine codeAny_loop rfl I (λn s hI=>?_) n h
 show wpAny _ A ((compTurn (.ListComp elt [⟨target,iter,ifs,0⟩] scope pos) 0 it acc env).onRaise (λx=>do noteFrame x env;theTreesLotGoes x)) _ _ s
 refine wpAny_noted ?_
 rw[compTurn_list]
 refine K6 (L3 (K6 (Lf (no (turn n s hI)) (λr s₁ h₁=>?_) λ_ _ h'=>h')))
 cases r with
 | none=>exact K8 h₁
 | some v=>
   refine K6 (Lf (no h₁) (λ_ s₁' h₁'=>?_) λ_ _ h'=>h')
   refine K6 (Lf (no h₁') (λ_ s₂ h₂=>K6 (Lf (no h₂) (λok s₃ h₃=>?_) λ_ _ h'=>h')) λ_ _ h'=>h')
   cases ok with
   | false=>exact K8 ⟨rfl,h₃⟩
   | true=>
     exact K6 (K6 (Lf (no h₃) (λx s₄ h₄=>K6 (Lf (no h₄) (λ_ s₅ h₅=>K8 (K8 ⟨rfl,h₅⟩)) λ_ _ h'=>h')) λ_ _ h'=>h'))
def uO (wi:TI)(g:TG)(tc:TT)(te:TE)(z:St->St):TE:=λσ H Q=>wi σ H λJ H1=>
 ∃W:Nat->Nat->List V->St->Hp->Prop,(∃m,W 0 m [] (z σ) H1)/\∀i m ys σ' H',W i m ys σ' H'->
  ys.length<=K4/\((J.stop i H'/\∀p,H' p=none->Q (.ref p) (upd H' p (.lst ys)))∨
  (J.go i H'/\∀x H2,J.Q8 i H' x H2->g x σ' H2 λσ2 H3=>tc σ2 H3 λb H4=>
    if b=true then te σ2 H4 λv H5=>∃m',m' < m/\W (i + 1) m' (ys++[v]) σ2 H5 else∃m',m' < m/\W (i + 1) m' ys σ2 H4))
structure dj (X:Cx) (scope:Scope) (cl:List (Str×Addr)) (own fr:Ic) (ix:List Nat):Prop where
 clos:closureFor scope X.env=pure cl
 cells:∀x c,cl.lookup x=some c->X.env.cells.lookup x=some c
 kind:scope.kind= .function
 PN:∀y∈scope.names,y.2≠ .cell
 names:∀y∈scope.names,y.2= .local->scope.names.lookup y.1=some .local
 has:∀x,scope.names.lookup x=some .free->∃c,cl.lookup x=some c
 frees:∀x∈fr,scope.names.lookup x=some .free
 len:fr.length=ix.length
 at_:∀(k:Nat) (i:Nat) (x:Str),ix[k]?=some i->fr[k]?=some x->X.N[i]?=some x/\X.env.kindOf x=some .cell
theorem fM {env:Env}:∀{names:List (Str×LF)} {x:Str} {k:LF},
 (names.map λ(n,k)=>if(k==LF.free&&env.scope.kind== .function&&env.kindOf n==some .cell) then(n,LF.cell) else(n,k)).lookup x=some k->
 ∃k',names.lookup x=some k'/\(k=k'∨(k'= .free/\k= .cell))
 | [],_,_,h=>by simp at h
 | (n,k)::r,x,kk,h=>by
   have ih:=@fM env r x kk
   replace h:List.lookup x ((if(k==LF.free&&env.scope.kind== .function&&env.kindOf n==some .cell)=true then(n,LF.cell) else(n,k))::_)=some kk:=h
   by_cases hc:(k==LF.free&&env.scope.kind== .function&&env.kindOf n==some .cell)=true
   ·rw[if_pos hc] at h
    cases hx:x==n with
    | true=>
      simp only[JJ,hx,Option.some.injEq] at h ⊢
      have hk:k= .free:=by
       simp only[Io] at hc
       exact eq_of_beq hc.1.1
      exact⟨k,rfl,.inr ⟨hk,h.symm⟩⟩
    | false=>
      simp only[JJ,hx] at h ⊢
      exact ih h
   ·rw[if_neg hc] at h
    cases hx:x==n with
    | true=>
      simp only[JJ,hx,Option.some.injEq] at h ⊢
      exact⟨k,rfl,.inl h.symm⟩
    | false=>
      simp only[JJ,hx] at h ⊢
      exact ih h
theorem lp {env:Env}(hf:env.scope.kind= .function):∀{names:List (Str×LF)} {x:Str},names.lookup x=some .free->env.kindOf x=some .cell->
 (names.map λ(n,k)=>if(k==LF.free&&env.scope.kind== .function&&env.kindOf n==some .cell) then(n,LF.cell) else(n,k)).lookup x=some .cell
 | [],_,h,_=>by simp at h
 | (n,k)::r,x,h,hk=>by
   have ih:=@lp env hf r x
   show List.lookup x ((if(k==LF.free&&env.scope.kind== .function&&env.kindOf n==some .cell)=true then(n,LF.cell) else(n,k))::_)=_
   cases hx:x==n with
   | true=>
     simp only[JJ,hx,Option.some.injEq] at h
     have e:x=n:=eq_of_beq hx
     subst e
     subst h
     rw[if_pos (by rw[hf,hk];rfl)]
     simp[JJ]
   | false=>
     simp only[JJ,hx] at h
     split
     ·simp only[JJ,hx];exact ih h hk
     ·simp only[JJ,hx];exact ih h hk
def fL (own:Ic)(ix:List Nat)(σ:St):St:=Jd own.length none++ix.map λi=>(σ[i]?).join
structure Off (X:Cx) (Nh:Ia) (H:Hp) (s:K3) (C:Addr):Prop where
 ns:∃m,s.heap.Ns C m
 free:H C=none
 ne:C≠X.env.locals
 young:X.s₀.heap.objs.size<=C
 cell:∀x c,X.env.cells.lookup x=some c->c≠C
 pin:∀p∈X.pn++Nh,p.1≠C
theorem oR {pos:Pos}{own:Ic}
 {use:Option (Value->Sem Unit)} {Qf:Value->K3->Prop} {Nh:Ia} {σ:St} {H:Hp} {Q:VK}
 (hc:X.calm=true) (S:dj X scope cl own fr ix) (hi:PI X target iter wi)
 (hb:∀(C:Addr) (s:K3) (H:Hp) (ex:Ig),PG (aL X scope cl C (own++fr) s H ex) target g/\PF (aL X scope cl C (own++fr) s H ex) ifs tc/\PE (aL X scope cl C (own++fr) s H ex) elt te)
 (hs:∀x,Lc iter X.env x=pure x) (I:Inv X Nh σ H s) (h:uO wi g tc te (fL own ix) σ H Q)
 (QD:∀(D C:Addr) (H6:Hp) (s6:K3),Inv X Nh σ H6 s6->Off X Nh H6 s6 C->Q (.ref D) H6->compPost (model X.prog X.w) X.A X.xe use Qf (.ref D) C (.ok .next) s6):
 wpAny (model X.prog X.w) X.A (comprehension (.ListComp elt [⟨target,iter,ifs,0⟩] scope pos) scope X.env (firstIterPos [⟨target,iter,ifs,0⟩] pos) (newList []) false (eval iter X.env) use) Qf X.xe s:=by
 refine wpAny_comprehension_free (use:=use) rfl hs S.clos S.kind S.names ?_
 refine aQ (hi Nh s σ H _ I h) λv s1 h1=>aQ h1 λitv s2 h2=>?_
 obtain⟨it,fp,tn,J,H2,rfl,I2,T,OT,f2,W,⟨m0,w0⟩,turn⟩:=h2
 refine LI (wpAny_newFunctionEnv S.PN (by intro y hy;simp at hy) (λh₁ hns₁ hsb₁=>?_) S.kind)
 dsimp only at hns₁ hsb₁ ⊢
 generalize hH3:s2.heap.push {cls:=.type "list",dict:=none,data:=.seq ([]:Ih).toArray}=h3 at hns₁ hsb₁ ⊢
 have hC:h3.objs.size=s2.heap.objs.size + 1:=by rw[← hH3,Heap.size_push]
 have to3:∀b o,s2.heap.get? b=some o->h3.get? b=some o:=λb o e=>by rw[← hH3];exact Mx _ e
 have TB:h3.get? s2.heap.objs.size=some {cls:=.type "list",data:=.seq ([]:Ih).toArray}:=by rw[← hH3];exact My _ rfl
 have Rb:∀b o,h3.get? b=some o->h₁.get? b=some o:=λb o e=>hsb₁.extBut b o (Kt (Mw e)) (Mx _ e)
 have frD:∀{b:Addr},b∈fp->b≠s2.heap.objs.size:=λ{b} hb z=>by
  obtain⟨o,e,_⟩:=T.obj 0 _ OT b hb
  exact absurd (Mw e) (by rw[z];exact Ku _)
 have frC:∀{b:Addr},b∈fp->b≠h3.objs.size:=λ{b} hb z=>by
  obtain⟨o,e,_⟩:=T.obj 0 _ OT b hb
  exact absurd (Mw e) (by rw[z,hC];exact KA.mpr (Kv _))
 have HD2:H2 s2.heap.objs.size=none:=I2.Nm.fresh (Kp _)
 -- PB block's context
 let X':Cx:=aL X scope cl h3.objs.size (own++fr) {s2 with heap:=h3} H2 (s2.heap.objs.size::fp)
 have Sw:X'.Ok:=by
  refine⟨I2.ok.mod,S.kind,I2.ok.glob,I2.ok.blt,Kp _,λx y c e1 e2=>I2.ok.inj x y c (S.cells x c e1) (S.cells y c e2),λx hx=>?_,λx c z=>?_,I2.ok.hd,I2.ok.frames,.inl rfl,λb hb=>?_,λb o e=>?_,?_,λb o e hb=>?_,λb hb z=>?_,?_,I2.gT⟩
  ·have key:scope.names.lookup x=some .free:=by
    have hx:(relabel scope X.env).names.lookup x=some .cell∨(relabel scope X.env).names.lookup x=some .free:=hx
    rcases hx with hx | hx
    ·obtain⟨k',e,z⟩:=fM hx
     rcases z with z | z
     ·subst z;exact absurd rfl (S.PN _ (Lh e))
     ·rw[e,z.1]
    ·obtain⟨k',e,z⟩:=fM hx
     rcases z with z | z
     ·subst z;exact e
     ·cases z.2
   exact S.has x key
  ·cases z
  ·rcases IY.mp hb with rfl | hb
   ·refine⟨by rw[show X'.env.locals=h3.objs.size from rfl,hC];exact Kt (Kx _),λx c e z=>?_⟩
    obtain⟨v',q⟩:=I2.cell x c (S.cells x c e)
    exact absurd q.lt (by rw[z];exact Ku _)
   ·exact⟨frC hb,λx c e=>(f2 b hb).2.2.2.2.1 x c (S.cells x c e)⟩
  ·obtain⟨e1,e2⟩:=I2.bs b o e
   exact⟨to3 b o e1,e2⟩
  ·show X.base.objs.size<=h3.objs.size
   have:=I2.ok.PH;have:=I2.sz
   omega
  ·rcases IY.mp hb with rfl | hb
   ·exact absurd (Mw (I2.bs _ o e).1) (Ku _)
   ·rcases(f2 b hb).2.2.2.1 with z | z
    ·exact I2.ok.OI b o e z
    ·exact absurd (Kr (Kr (Mw e) I2.ok.PH) z) (Ku _)
  ·replace z:b∈cG X.stack:=z
   rcases IY.mp hb with rfl | hb
   ·obtain⟨_,o,ho,_⟩:=I2.stack.mem z
    exact absurd (Mw ho) (Ku _)
   ·rcases IY.mp (I2.nc b z) with q | q
    ·exact(f2 b hb).2.1 q
    ·exact(f2 b hb).2.2.1 q
  ·exact I2.stack.of_keeps λb o e _=>⟨o,to3 b o e,rfl⟩
 have I4:Inv X' [] (fL own ix σ) H2 {s2 with heap:=h₁,toks:=s2.toks + ([]:List (Str×Value)).length}:=by
  refine⟨Sw,rfl,I2.bare,Un.kept Rb,⟨_,hns₁,λi x v e1 e2 e3=>?_⟩,λx c e=>?_,I2.Nm.fresh (by show s2.heap.objs.size<=h3.objs.size;rw[hC];exact Kv _),λx c e=>I2.NF x c (S.cells x c e),λp hp=>absurd (show p∈([]:Ia) from hp) (by simp),I2.Nm.kept λb o e=>Rb b o (to3 b o e),?_⟩
  ·replace e1:(own++fr)[i]?=some x:=e1
   unfold fL at e2
   by_cases NJ:i < own.length
   ·rw[Jn (by simpa using NJ),JE] at e2
    split at e2<;>cases e2
   ·rw[Jg (by simpa using NJ)] at e1 e2
    rw[JB,Je] at e2
    cases ek:ix[i - own.length]? with
    | none=>rw[ek] at e2;cases e2
    | some j=>
      rw[ek] at e2
      obtain⟨n1,n2⟩:=S.at_ _ j x ek e1
      have e2':σ[j]?=some (some v):=by
       have q:(σ[j]?).join=some v:=Option.some.inj e2
       cases es:σ[j]? with
       | none=>rw[es] at q;cases q
       | some o=>rw[es] at q;exact congrArg some q
      obtain⟨m,hn,hl⟩:=I2.loc
      obtain⟨u,r,l⟩:=hl j x v n1 e2' (.inr (.inl n2))
      refine⟨u,r,?_⟩
      have Qa:scope.names.lookup x=some .free:=S.frees x (IQ e1)
      rcases l with⟨k,_⟩ | ⟨_,c,hcl,z⟩
      ·rw[n2] at k;cases k
      ·obtain⟨c',Pw⟩:=S.has x Qa
       have q:=S.cells x c' Pw
       rw[hcl] at q
       cases q
       obtain⟨oc,ho,hd⟩:=z
       exact .inr ⟨.inl (lp I2.ok.kind Qa n2),c,Pw,oc,Rb _ _ (to3 _ _ ho),hd⟩
  ·obtain⟨v',oc,ho,hd⟩:=I2.cell x c (S.cells x c e)
   exact⟨v',oc,Rb _ _ (to3 _ _ ho),hd⟩
  ·show(fL own ix σ).length=(own++fr).length
   unfold fL
   rw[IL,IL,JB,IM,S.len]
 obtain⟨hg,hf,he⟩:=hb h3.objs.size {s2 with heap:=h3} H2 (s2.heap.objs.size::fp)
 have hg:PG X' target g:=hg
 have hf:PF X' ifs tc:=hf
 have he:PE X' elt te:=he
 have locX:X'.env.locals=h3.objs.size:=rfl
 -- D's place
 have Dne:s2.heap.objs.size≠X'.env.locals:=by rw[locX,hC];exact Kt (Kx _)
 have Dfs:s2.heap.objs.size∉X'.fs:=Sw.OD _ (IT ..)
 have Dcl:∀x c,X'.env.cells.lookup x=some c->c≠s2.heap.objs.size:=λx c e=>(Sw.Q5 _ (IT ..)).2 x c e
 have fpX:∀{pl:Ia} {H':Hp},(∀p∈pl,p.1=s2.heap.objs.size)->(∀b∈fp,H' b=none)->∀b∈fp,kz X' pl H' b:=λhp hn b hb=>
  ⟨hn b hb,frC hb,Sw.OD b (IK _ hb),.inl (IK _ hb),(Sw.Q5 b (IK _ hb)).2,λp q=>by
   rw[hp p (by simpa[show X'.pn=[] from rfl] using q)];exact KG (frD hb)⟩
 have pinD:∀{σ':St} {H':Hp} {s':K3} {o:Obj},Inv X' [] σ' H' s'->s'.heap.get? s2.heap.objs.size=some o->H' s2.heap.objs.size=none->(∀v,o.data≠ .cell v)->Inv X' [(s2.heap.objs.size,o)] σ' H' s':=λI e n d=>
  I.iQ λp hp=>by
    obtain rfl:=II.mp hp
    exact⟨e,n,Dne,Dfs,d⟩
 have loop:Me (model X.prog X.w) X.A (.compLoop (.ListComp elt [⟨target,iter,ifs,0⟩] scope pos) 0 (.ref it) (.ref s2.heap.objs.size) X'.env)
  (compPost (model X.prog X.w) X.A X.xe use Qf (.ref s2.heap.objs.size) h3.objs.size) {s2 with heap:=h₁,toks:=s2.toks + ([]:List (Str×Value)).length}:=by
  refine pP (λn s'=>∃i ys Nj k σ' H',Inv X' [] σ' H' s'/\tn i s'.heap/\(∀b∈fp,H' b=none)/\H' s2.heap.objs.size=none/\Vals ys Nj/\s'.heap.get? s2.heap.objs.size=some {cls:=.type "list",data:=.seq Nj.toArray k}/\W i n ys σ' H')
   ?_ m0 ⟨0,[],[],0,_,H2,I4,T.keep 0 _ _ OT λb _ o e=>Rb b o (to3 b o e),λb Oc=>(f2 b Oc).1,HD2,.nil,Rb _ _ TB,w0⟩
  rintro n s5 ⟨i,ys,Nj,k,σ5,H5,I5,Qk,fr5,hD5,Sm,get5,w5⟩
  obtain⟨hlen,alt⟩:=turn i n ys σ5 H5 w5
  have P5:=pinD I5 get5 hD5 (λv z=>by cases z)
  have okp:∀p∈[(s2.heap.objs.size,({cls:=.type "list",data:=.seq Nj.toArray k}:Obj))],p.1=s2.heap.objs.size:=λp hp=>by
   rw[II.mp hp]
  rcases alt with⟨stop,q⟩ | ⟨go,step⟩
  ·refine aQ (T.done X' rfl rfl rfl hc i _ s5 σ5 H5 _ P5 (fpX okp fr5) Qk stop) λr s6 ⟨hr,I6⟩=>?_
   subst hr
   obtain⟨m6,hn6,_⟩:=I6.loc
   obtain⟨get6,_,_,_,_⟩:=I6.pin (s2.heap.objs.size,({cls:=.type "list",data:=.seq Nj.toArray k}:Obj)) (IU _ (II.mpr rfl))
   have Sr:∀b o,b≠h3.objs.size->s6.heap.get? b=some o->s6.heap.get? b=some o:=λb o hb e=>e
   have exn:∀{b:Addr} {o:Obj},s2.heap.get? b=some o->b∉fp->b∉X'.ex:=λ{b o} e hb z=>by
    rcases IY.mp z with z | z
    ·exact absurd (Mw e) (by rw[z];exact Ku _)
    ·exact hb z
   have PM:∀{b:Addr} {o:Obj},s2.heap.get? b=some o->b≠h3.objs.size:=λ{b o} e z=>by
    have q1:=Mw e
    rw[z,hC] at q1
    exact absurd q1 (KA.mpr (Kv _))
   have neD:∀{b:Addr} {o:Obj},s2.heap.get? b=some o->b≠s2.heap.objs.size:=λ{b o} e=>Kt (Mw e)
   have Rm:∀{b:Addr} {o:HO},H2 b=some o->b≠s2.heap.objs.size:=λ{b o} e=>cZ e HD2
   have U:Un (cG X.stack) fp H2 (upd H5 s2.heap.objs.size (.lst ys)) s2.heap s6.heap:=by
    refine⟨λb o e n hb hx=>?_,λb o e n hb hx=>?_,λb o e n hx=>?_,λb o e hx=>?_,λb xs e=>?_,λb o u e=>?_,λb ps e=>?_⟩
    ·exact Sr b o (PM e) (I6.base.keep b o (to3 b o e) n hb (exn e hx))
    ·obtain⟨sl,q1⟩:=I6.base.slot b o (to3 b o e) n hb (exn e hx)
     exact⟨sl,Sr b _ (PM e) q1⟩
    ·rw[aM (neD e)]
     exact I6.base.free b o (to3 b o e) n (exn e hx)
    ·obtain⟨o',q1⟩:=I6.base.there b o (to3 b o e) (exn e hx)
     exact⟨o',Sr b _ (PM e) q1⟩
    ·rw[aM (Rm e)];exact I6.base.NS b xs e
    ·rw[aM (Rm e)];exact I6.base.NR b o u e
    ·rw[aM (Rm e)];exact I6.base.NT b ps e
   have HC:H5 h3.objs.size=none:=I6.free
   have Nm:cQ X.prog X.w (upd H5 s2.heap.objs.size (.lst ys)) s6.heap:=λb u e=>by
    by_cases hbD:b=s2.heap.objs.size
    ·subst hbD
     rw[aA] at e
     cases e
     exact⟨hlen,Nj,k,Sm,Sr _ _ (by rw[hC];exact Kt (Kx _)) get6⟩
    ·rw[aM hbD] at e
     refine(I6.Nm b u e).ja (λc o Se q1=>Sr c o (λz=>?_) q1) (λc q1=>by rw[aM (cZ q1 hD5)];exact q1) λc xs q1=>by rw[aM (cZ q1 hD5)];exact q1
     rcases Se with Se | Se
     ·rw[← Se,z,HC] at e;cases e
     ·rw[z,HC] at Se;cases Se
   have fin:=I2.tX (s':=s6) (ch:=fp) I6.os U Nm I6.bare λb Oc=>⟨(f2 b Oc).2.2.2.1,(f2 b Oc).2.1,(f2 b Oc).2.2.2.2.1,(f2 b Oc).2.2.2.2.2⟩
   refine QD _ h3.objs.size _ s6 fin ⟨⟨m6,hn6⟩,?_,?_,?_,λx c e z=>?_,λp hp z=>?_⟩ (q _ hD5)
   ·rw[aM (by rw[hC];exact KD (Kx _))];exact HC
   ·intro z
    have:=I2.lt
    rw[← z,hC] at this
    exact absurd this (KA.mpr (Kv _))
   ·rw[hC];exact Kq I2.sz (Kv _)
   ·obtain⟨v',q1⟩:=I2.cell x c e
    have:=q1.lt
    rw[z,hC] at this
    exact absurd this (KA.mpr (Kv _))
   ·have:=Mw (I2.pin p hp).1
    rw[z,hC] at this
    exact absurd this (KA.mpr (Kv _))
  ·refine aQ (T.item X' rfl rfl rfl hc i _ s5 σ5 H5 _ P5 (fpX okp fr5) Qk go) λr s6 ⟨u,hr,h6⟩=>?_
   subst hr
   refine aQ h6 λ_ s7 ⟨x,H7,I7,r7,y7,st7,fr7⟩=>?_
   have I7':=I7.pinned (fpX okp fr7) (T.obj _ _ st7)
   refine aQ (hg _ s7 σ5 H7 x u _ I7' r7 (step x H7 y7)) λ_ s8 ⟨σ8,H8,I8,q8⟩=>?_
   refine aQ (hf _ s8 σ8 H8 _ I8 q8) λb s9 ⟨H9,I9,q9⟩=>?_
   have out:∀{σ':St} {H':Hp} {s':K3},Inv X' ([(s2.heap.objs.size,({cls:=.type "list",data:=.seq Nj.toArray k}:Obj))]++jF fp s7.heap) σ' H' s'->
    tn (i + 1) s'.heap/\(∀b∈fp,H' b=none)/\H' s2.heap.objs.size=none/\s'.heap.get? s2.heap.objs.size=some {cls:=.type "list",data:=.seq Nj.toArray k}:=λI'=>by
    refine⟨T.keep _ _ _ st7 λb Oc o e=>(I'.pin (b,o) (IU _ (IU _ (iJ Oc e)))).1,λb Oc=>?_,(I'.pin (s2.heap.objs.size,({cls:=.type "list",data:=.seq Nj.toArray k}:Obj)) (IU _ (IX _ (II.mpr rfl)))).2.1,(I'.pin (s2.heap.objs.size,({cls:=.type "list",data:=.seq Nj.toArray k}:Obj)) (IU _ (IX _ (II.mpr rfl)))).1⟩
    obtain⟨o,e,d⟩:=T.obj _ _ st7 b Oc
    exact(I'.pin (b,o) (IU _ (IU _ (iJ Oc e)))).2.1
   cases b with
   | false=>
     rw[if_neg Il] at q9 ⊢
     obtain⟨m',hm,w'⟩:=q9
     obtain⟨o1,o2,o3,o4⟩:=out I9
     exact⟨m',hm,i + 1,ys,Nj,k,σ8,H9,I9.iQ (λ_ z=>nomatch z),o1,o2,o3,Sm,o4,w'⟩
   | true=>
     rw[if_pos rfl] at q9 ⊢
     refine aQ (he _ s9 σ8 H9 _ I9 q9) λuv s10 ⟨v10,H10,I10,r10,q10⟩=>?_
     obtain⟨m',hm,w'⟩:=q10
     obtain⟨o1,o2,o3,o4⟩:=out I10
     refine wpAny_list_append_plain ⟨k,o4⟩ (λh' Nw Pb=>?_) (by
      have:=Sm.length
      rw[Jc,← this];exact hlen)
     obtain⟨k',Qm⟩:=Nw
     have I11:Inv X' (jF fp s7.heap) σ8 H10 s10:=I10.iQ λp hp=>I10.pin p (IU _ (IU _ hp))
     have I12:Inv X' [] σ8 H10 {s10 with heap:=h'}:=(I10.iQ (λ_ z=>nomatch z):Inv X' [] σ8 H10 s10).turned (t':=s10.toks) (λb o Oc e=>Pb.extBut b o Oc e) o3 Dne (.inl (IT ..)) Dcl (λp hp=>absurd (show p∈([]:Ia) from hp) (by simp))
     refine⟨m',hm,i + 1,ys++[v10],Nj++[uv],k',σ8,H10,I12,T.keep _ _ _ o1 λb Oc o e=>Pb.extBut b o (frD Oc) e,o2,o3,Sm.append (.cons r10 .nil),?_,w'⟩
     show h'.get? _=_
     rw[Qm]
     simp
 exact codeAny_compStart_list loop (T.self X.A 0 _ _ _ (T.keep 0 _ _ OT λb _ o e=>Rb b o (to3 b o e)) loop)
theorem Off.gone {Nh:Ia}{σ:St}{H:Hp}{C:Addr}{h':Heap}(o:Off X Nh H s C)(I:Inv X Nh σ H s)(Pb:Mz C s.heap h'):Inv X Nh σ H {s with heap:=h'}:=
 I.turned (t':=s.toks) (λb u hb e=>Pb.extBut b u hb e) o.free o.ne (.inr o.young) o.cell o.pin
theorem sA {pos:Pos}{own:Ic}
 (hc:X.calm=true) (S:dj X scope cl own fr ix) (hi:PI X target iter wi)
 (hb:∀(C:Addr) (s:K3) (H:Hp) (ex:Ig),PG (aL X scope cl C (own++fr) s H ex) target g/\PF (aL X scope cl C (own++fr) s H ex) ifs tc/\PE (aL X scope cl C (own++fr) s H ex) elt te)
 (hs:∀x,Lc iter X.env x=pure x:=by intro _;rfl):
 PE X (.ListComp elt [⟨target,iter,ifs,0⟩] scope pos) (uO wi g tc te (fL own ix)):=by
 intro Nh s σ H Q I h
 rw[eval_ListComp]
 refine oR (use:=none) hc S hi hb hs I h λD C H6 s6 I6 o6 q=>?_
 obtain⟨m,hn⟩:=o6.ns
 exact⟨m,hn,λh' Pb=>⟨.ref D,H6,o6.gone I6 Pb,rfl,q⟩⟩
theorem iI {i:Nat}{y:Str}{py NK:Pos}{pos:Pos}{own:Ic}
 (NU:K9 (.ListComp elt [⟨target,iter,ifs,0⟩] scope pos) (some (.Name y py)) NK.line X.env=pure true)
 (hN:X.N.Nodup) (Pg:X.N[i]?=some y) (hx:Loc X.env.scope y)
 (hc:X.calm=true) (S:dj X scope cl own fr ix) (hi:PI X target iter wi)
 (hb:∀(C:Addr) (s:K3) (H:Hp) (ex:Ig),PG (aL X scope cl C (own++fr) s H ex) target g/\PF (aL X scope cl C (own++fr) s H ex) ifs tc/\PE (aL X scope cl C (own++fr) s H ex) elt te)
 (hs:∀x,Lc iter X.env x=pure x:=by intro _;rfl)
 (hf:X.fn y=true∨X.env.scope.names.lookup y=some .local:=by first | exact .inl rfl | exact .inr rfl | assumption):
 PS X (.Assign [.Name y py] (.ListComp elt [⟨target,iter,ifs,0⟩] scope pos) NK) (yB (uO wi g tc te (fL own ix)) (pG i)):=by
 intro Nh s σ H D I h
 rw[exec_Assign_Name_used _ _ _ _ NU]
 refine K6 (L3 (K6 ?_))
 show wpAny _ _ (do let _ ← comprehension (.ListComp elt [⟨target,iter,ifs,0⟩] scope pos) scope X.env _ (newList []) false (eval iter X.env) (some (Lp (.Name y py) X.env))) _ _ s
 refine K6 (Lf (oR (use:=some (Lp (.Name y py) X.env)) (Qf:=λ_ s'=>SP X Nh D .next s') hc S hi hb hs I h λA C H6 s6 I6 o6 q=>?_) (λ_ s' hq=>K8 (K8 hq)) λ_ _ e=>e)
 show wpAny _ _ (Lp (.Name y py) X.env (.ref A)) _ _ _
 refine wpAny_assign_Name (oG I6 hN Pg hx (v:=.ref A) rfl (λs7 I7 hw=>?_) hf)
 obtain⟨c,SS,Q1⟩:=hw
 have PM:C≠c:=by
  rcases Q1 with rfl | Q1
  ·exact o6.ne
  ·exact KG (o6.cell y c Q1)
 obtain⟨m,hn⟩:=o6.ns
 have o7:Off X Nh H6 s7 C:=⟨⟨m,hn.sameBut SS PM⟩,o6.free,o6.ne,o6.young,o6.cell,o6.pin⟩
 exact⟨m,hn.sameBut SS PM,λh' Pb=>⟨_,H6,o7.gone I7 Pb,q⟩⟩
end
end L2
namespace Fc
open PySem PySem.Spec PySem.W PySem.Calls L2
open PyProof.Rows hiding St
section
variable {X:Cx}
variable {e:Expr}{σ:St}{H:Hp}{t:TT}{Q:Bool->Hp->Prop}
def eF (X:Cx)(e:Expr):TE:=λσ H Q=>∀(Nh:Ia) (s:K3),Inv X Nh σ H s->wpAny (model X.prog X.w) X.A (eval e X.env) (EP X Nh σ Q) X.xe s
def mw (X:Cx)(e:Expr):TT:=λσ H Q=>∀(Nh:Ia) (s:K3),Inv X Nh σ H s->wpAny (model X.prog X.w) X.A (LK e X.env (eval e X.env)) (TP X Nh σ Q) X.xe s
def yL (X:Cx)(e:Expr):TT:=λσ H Q=>∀(whole:Sem Value) (Nh:Ia) (s:K3),Inv X Nh σ H s->wpAny (model X.prog X.w) X.A (LK e X.env whole) (TP X Nh σ Q) X.xe s
def iC (X:Cx)(e:Expr):TG:=λv σ H Q=>∀(Nh:Ia) (s:K3) (u:Value),Inv X Nh σ H s->RelV v u->wpAny (model X.prog X.w) X.A (Lp e X.env u) (λ_ s'=>∃σ' H',Inv X Nh σ' H' s'/\Q σ' H') X.xe s
def mL (X:Cx)(st:Stmt):TS:=λD σ H=>∀(Nh:Ia) (s:K3),Inv X Nh σ H s->wpAny (model X.prog X.w) X.A (exec st X.env) (SP X Nh D) X.xe s
def ie (X:Cx)(st:List Stmt):TS:=λD σ H=>∀(Nh:Ia) (s:K3),Inv X Nh σ H s->wpAny (model X.prog X.w) X.A (execs st X.env) (SP X Nh D) X.xe s
def ky (X:Cx)(es:Ii):TA:=λσ H Q=>∀(pos:Pos) (Nh:Ia) (s:K3),Inv X Nh σ H s->wpAny (model X.prog X.w) X.A (spliced (Lb pos (K2 es X.env))) (AP X Nh σ Q) X.xe s
def jg (X:Cx)(ifs:Ii):TT:=λσ H Q=>∀(Nh:Ia) (s:K3),Inv X Nh σ H s->
 wpAny (model X.prog X.w) X.A (forIn ifs true λc r=>if r=true then do let ok ← LK c X.env (eval c X.env);pure (Iz ok) else pure (Iz r)) (TP X Nh σ Q) X.xe s
theorem aJ:PE X e (eF X e):=λNh s _ _ _ I h=>h Nh s I
theorem jH:PT X e (mw X e):=λNh s _ _ _ I h=>h Nh s I
theorem zt:PW X e (yL X e):=λwh Nh s _ _ _ I h=>h wh Nh s I
theorem tU:PG X e (iC X e):=λNh s _ _ _ u _ I r h=>h Nh s u I r
theorem rK {e:Stmt}:PS X e (mL X e):=λNh s _ _ _ I h=>h Nh s I
theorem dI {e:List Stmt}:iy X e (ie X e):=λNh s _ _ _ I h=>h Nh s I
theorem js {e:Ii}:PA X e (ky X e):=λpos Nh s _ _ _ I h=>h pos Nh s I
theorem eS {t:TE}(h:PE X e t){Q:VK}(q:t σ H Q):eF X e σ H Q:=λNh s I=>h Nh s σ H Q I q
theorem tS (h:PT X e t)(q:t σ H Q):mw X e σ H Q:=λNh s I=>h Nh s σ H Q I q
theorem wS (h:PW X e t)(q:t σ H Q):yL X e σ H Q:=λwh Nh s I=>h wh Nh s σ H Q I q
theorem gS {t:TG}(h:PG X e t){v:V}{Q:St->Hp->Prop}(q:t v σ H Q):iC X e v σ H Q:=λNh s u I r=>h Nh s σ H v u Q I r q
theorem sS {e:Stmt}{t:TS}(h:PS X e t){D:Ends}(q:t D σ H):mL X e D σ H:=λNh s I=>h Nh s σ H D I q
theorem oI {e:List Stmt}{t:TS}(h:iy X e t){D:Ends}(q:t D σ H):ie X e D σ H:=λNh s I=>h Nh s σ H D I q
theorem aS {e:Ii}{t:TA}(h:PA X e t){Q:List V->Hp->Prop}(q:t σ H Q):ky X e σ H Q:=λpos Nh s I=>h pos Nh s σ H Q I q
theorem fS {e:Ii}(h:PF X e t)(q:t σ H Q):jg X e σ H Q:=λNh s I=>h Nh s σ H Q I q
end
section
variable {H R:Hp}{p:Addr}{α:Type}
theorem ar.fresh (h:H p=none)(o:HO):ar H (upd H p o):=λb u q=>by rw[aM (cZ q h)];exact q
structure Rep (α:Type) where
 R:MP->Hp->V->α->Prop
 mono:∀{K:MP} {H H':Hp} {v:V} {x:α},ar H H'->R K H v x->R K H' v x
def af:Rep Int:=⟨λ_ _ v x=>v= .int x,λ_ h=>h⟩
def aX:Rep Bool:=⟨λ_ _ v x=>v= .bl x,λ_ h=>h⟩
theorem Paired.map {β:Type}{F G:α->β->Prop}(f:∀a b,F a b->G a b):∀{l:List α} {m:List β},PySem.Paired F l m->PySem.Paired G l m
 | _,_,.nil=>.nil
 | _,_,.cons h t=>.cons (f _ _ h) (Paired.map f t)
def ak (r:Rep α):Rep (List α):=⟨λK H v xs=>∃a vs,v= .ref a/\H a=some (.lst vs)/\PySem.Paired (r.R K H) vs xs/\xs.length<=K4,
 λs ⟨a,vs,e,q,p,z⟩=>⟨a,vs,e,s _ _ q,Paired.map (λ_ _=>r.mono s) p,z⟩⟩
def fU:Rep Ib:=⟨λK H v xs=>∃a,v= .ref a/\bt K H a (xs.map V.int)/\xs.length<=63,λs ⟨a,e,q,z⟩=>⟨a,e,s.seq q,z⟩⟩
def aP {β:Type}(r:Rep α)(r':Rep β):Rep (α×β):=⟨λK H v x=>∃a v1 v2,v= .ref a/\H a=some (.tup [v1,v2])/\r.R K H v1 x.1/\r'.R K H v2 x.2,
 λs ⟨a,v1,v2,e,q,h1,h2⟩=>⟨a,v1,v2,e,s _ _ q,r.mono s h1,r'.mono s h2⟩⟩
abbrev Row:=Int×Int×Int×Int
def bA:Rep Row:=⟨λK H v x=>∃a,v= .ref a/\H a=some (.tup [.int x.1,.int x.2.1,.int x.2.2.1,.int x.2.2.2]),λs ⟨a,e,q⟩=>⟨a,e,s _ _ q⟩⟩
abbrev ay:=Ib×List Row
def br:Rep ay:=aP (ak af) (ak bA)
structure Ext (H R H' R':Hp):Prop where
 h:ar H H'
 r:ar R R'
 s:ar R' H'
 old:∀b,H b≠none->R' b=R b
theorem Ext.refl (s:ar R H):Ext H R H R:=⟨ar.refl _,ar.refl _,s,λ_ _=>rfl⟩
theorem ar.some {H':Hp}(s:ar H H'){b:Addr}(h:H b≠none):H' b≠none:=by
 cases q:H b with
 | none=>exact absurd q h
 | some o=>rw[s b o q];exact KH o
theorem Ext.trans {H1 R1 H2 R2:Hp}(a:Ext H R H1 R1)(b:Ext H1 R1 H2 R2):Ext H R H2 R2:=
 ⟨a.h.trans b.h,a.r.trans b.r,b.s,λc hc=>(b.old c (ar.some a.h hc)).trans (a.old c hc)⟩
theorem Ext.fresh (s:ar R H)(h:H p=none)(o:HO):Ext H R (upd H p o) (upd R p o):=
 ⟨ar.fresh h o,ar.fresh (s.free h) o,λb u q=>by
  by_cases e:b=p
  ·subst e;rw[aA] at q ⊢;exact q
  ·rw[aM e] at q ⊢;exact s b u q,λb hb=>aM λe=>hb (e▸h)⟩
theorem Ext.c7 (s:ar R H)(h:H p=none)(o:HO):Ext H R (upd H p o) R:=
 ⟨ar.fresh h o,ar.refl _,s.trans (ar.fresh h o),λ_ _=>rfl⟩
structure jv:Type 1 where
 fp:Ig
 R:MP->Hp->Hp->V->Prop
 loc:∀{K:MP} {H R0 H' R':Hp} {v:V},(∀a∈fp,H' a=H a)->ar R0 R'->R K H R0 v->R K H' R' v
 has:∀{K:MP} {H R0:Hp} {v:V},R K H R0 v->∀a∈fp,H a≠none
inductive Ent:Type 1
 | no
 | im {α:Type} (r:Rep α) (x:α)
 | mu {α:Type} (r:Rep α) (xs:List α)
 | di (kvs:List (Int×V))
 | ob (B:jv)
def dh (kvs:List (Int×V)):List (Key×V):=kvs.map λp=>(Sum.inl p.1,p.2)
def Ent.ok (K:MP)(H R:Hp):Ent->Option V->Prop
 | .no,_=>True
 | .im r x,o=>∃v,o=some v/\r.R K R v x
 | .mu r xs,o=>∃a vs,o=some (.ref a)/\H a=some (.lst vs)/\R a=none/\PySem.Paired (r.R K R) vs xs
 | .di kvs,o=>∃a,o=some (.ref a)/\H a=some (.dK (dh kvs))/\R a=none
 | .ob B,o=>(∃v,o=some v/\B.R K H R v)/\∀a∈B.fp,R a=none
def Ent.own:Ent->Bool
 | .mu .. =>true
 | .di .. =>true
 | _=>false
def refOf:Option V->Ig
 | some (.ref a)=>[a]
 | _=>[]
def Ent.fp:Ent->Option V->Ig
 | .mu ..,o=>refOf o
 | .di ..,o=>refOf o
 | .ob B,_=>B.fp
 | _,_=>[]
abbrev Ga:=List Ent
structure aq (K:MP) (σ:St) (H0 R0 H R:Hp) (Γ:Ga):Prop where
 ext:Ext H0 R0 H R
 ent:∀(i:Nat) (e:Ent),Γ[i]?=some e->e.ok K H R (σ[i]?).join
 nw:∀(i:Nat) (e:Ent) (a:Addr),Γ[i]?=some e->a∈e.fp (σ[i]?).join->H0 a=none
 ds:∀(i j:Nat) (e e':Ent) (a:Addr),Γ[i]?=some e->Γ[j]?=some e'->a∈e.fp (σ[i]?).join->a∈e'.fp (σ[j]?).join->i=j
 len:Γ.length=σ.length
end
section
variable {K:MP}{σ:St}{H0 R0 H R H' R':Hp}{Γ:Ga}{α:Type}{r:Rep α}
variable {a:Addr}{o:Option V}{u:HO}{i:Nat}
theorem cy:a∈refOf o↔o=some (.ref a):=by
 unfold refOf
 split
 ·rw[II];constructor
  ·rintro rfl;rfl
  ·intro e;cases e;rfl
 ·rename_i h
  constructor
  ·intro z;cases z
  ·intro e;exact absurd e (h a)
theorem Ent.nJ {e:Ent}(w:e.own=true):a∈e.fp o↔o=some (.ref a):=by
 cases e with
 | no=>cases w
 | im r x=>cases w
 | mu r xs=>exact cy
 | di kvs=>exact cy
 | ob B=>cases w
theorem aq.new (E:aq K σ H0 R0 H R Γ)(i:Nat)(e:Ent)(a:Addr)(h:Γ[i]?=some e)(w:e.own=true)(ha:(σ[i]?).join=some (.ref a)):H0 a=none:=E.nw i e a h ((Ent.nJ w).mpr ha)
theorem Ent.dB {e:Ent}(h:e.ok K H R o)(ha:a∈e.fp o):H a≠none/\R a=none:=by
 cases e with
 | no=>cases ha
 | im r x=>cases ha
 | mu r xs=>
   obtain⟨b,vs,e,q,n,_⟩:=h
   rw[Ent.fp,cy,e] at ha
   cases ha
   exact⟨by rw[q];exact KH _,n⟩
 | di kvs=>
   obtain⟨b,e,q,n⟩:=h
   rw[Ent.fp,cy,e] at ha
   cases ha
   exact⟨by rw[q];exact KH _,n⟩
 | ob B=>obtain⟨⟨v,e,q⟩,n⟩:=h;exact⟨B.has q a ha,n a ha⟩
theorem Ent.ok.loc {e:Ent}(h:e.ok K H R o)(hH:∀a∈e.fp o,H' a=H a)(hR:ar R R')(hn:∀a∈e.fp o,R' a=none):e.ok K H' R' o:=by
 cases e with
 | no=>trivial
 | im r y=>obtain⟨v,e,q⟩:=h;exact⟨v,e,r.mono hR q⟩
 | mu r xs=>
   obtain⟨a,vs,e,q,n,p⟩:=h
   have ha:a∈Ent.fp (.mu r xs) o:=cy.mpr e
   exact⟨a,vs,e,(hH a ha).trans q,hn a ha,Paired.map (λ_ _=>r.mono hR) p⟩
 | di kvs=>
   obtain⟨a,e,q,n⟩:=h
   have ha:a∈Ent.fp (.di kvs) o:=cy.mpr e
   exact⟨a,e,(hH a ha).trans q,hn a ha⟩
 | ob B=>obtain⟨⟨v,e,q⟩,n⟩:=h;exact⟨⟨v,e,B.loc hH hR q⟩,hn⟩
theorem Ent.ok.grow {e:Ent}(h:e.ok K H R o)(x:Ext H R H' R'):e.ok K H' R' o:=by
 refine h.loc (λa ha=>?_) x.r (λa ha=>?_)
 ·cases q:H a with
  | none=>exact absurd q (Ent.dB h ha).1
  | some u=>exact x.h _ _ q
 ·obtain⟨h1,h2⟩:=Ent.dB h ha
  exact(x.old a h1).trans h2
theorem aq.grow (E:aq K σ H0 R0 H R Γ)(x:Ext H R H' R'):aq K σ H0 R0 H' R' Γ:=
 ⟨E.ext.trans x,λi e h=>(E.ent i e h).grow x,E.nw,E.ds,E.len⟩
theorem aq.sub (E:aq K σ H0 R0 H R Γ):ar R H:=E.ext.s
def Off (a:Addr)(σ:St)(Γ:Ga):Prop:=∀(i:Nat) (e:Ent),Γ[i]?=some e->a∉e.fp (σ[i]?).join
theorem aq.off (E:aq K σ H0 R0 H R Γ)(h:H a=none):Off a σ Γ:=λi e q w=>(Ent.dB (E.ent i e q) w).1 h
theorem set_at.{v}{β:Type v}{l:List β}{i:Nat}{y:β}{j:Nat}{e:β}(q:(l.set i y)[j]?=some e):(j=i/\e=y/\i < l.length)∨(j≠i/\l[j]?=some e):=by
 by_cases hj:j=i
 ·subst hj
  have hl:j < l.length:=by
   have:=IG.mp q
   simpa using this.1
  rw[Ji hl] at q
  exact .inl ⟨rfl,(Option.some.inj q).symm,hl⟩
 ·rw[Jk (KG hj)] at q
  exact .inr ⟨hj,q⟩
theorem aq.setG (E:aq K σ H0 R0 H R Γ)(i:Nat){v:V}{en:Ent}(ho:en.ok K H R (some v))(h0:∀a∈en.fp (some v),H0 a=none)(hf:∀a∈en.fp (some v),∀(j:Nat) (e:Ent),j≠i->Γ[j]?=some e->a∉e.fp (σ[j]?).join):
 aq K (σ.set i (some v)) H0 R0 H R (Γ.set i en):=by
 have key:∀(j:Nat) (e:Ent),(Γ.set i en)[j]?=some e->(j=i/\e=en/\((σ.set i (some v))[j]?).join=some v)∨(j≠i/\Γ[j]?=some e/\(σ.set i (some v))[j]?=σ[j]?):=λj e q=>by
  rcases set_at q with⟨rfl,rfl,hl⟩ | ⟨hj,q⟩
  ·exact .inl ⟨rfl,rfl,by rw[Ji (by rw[← E.len];exact hl)];rfl⟩
  ·exact .inr ⟨hj,q,Jk (KG hj)⟩
 refine⟨E.ext,λj e q=>?_,λj e a q w=>?_,λj k e e' a q q' w w'=>?_,by rw[Jp,Jp];exact E.len⟩
 ·rcases key j e q with⟨_,rfl,q2⟩ | ⟨_,q1,q2⟩
  ·rw[q2];exact ho
  ·rw[q2];exact E.ent j e q1
 ·rcases key j e q with⟨_,rfl,q2⟩ | ⟨_,q1,q2⟩
  ·rw[q2] at w;exact h0 a w
  ·rw[q2] at w;exact E.nw j e a q1 w
 ·rcases key j e q with⟨hj,rfl,q2⟩ | ⟨hj,q1,q2⟩
  ·rcases key k e' q' with⟨hk,rfl,RZ⟩ | ⟨hk,Of,RZ⟩
   ·rw[hj,hk]
   ·rw[q2] at w;rw[RZ] at w';exact absurd w' (hf a w k e' hk Of)
  ·rcases key k e' q' with⟨hk,rfl,RZ⟩ | ⟨hk,Of,RZ⟩
   ·rw[q2] at w;rw[RZ] at w';exact absurd w (hf a w' j e hj q1)
   ·rw[q2] at w;rw[RZ] at w';exact E.ds j k e e' a q1 Of w w'
theorem aq.set (E:aq K σ H0 R0 H R Γ)(i:Nat){v:V}{x:α}(h:r.R K R v x):aq K (σ.set i (some v)) H0 R0 H R (Γ.set i (.im r x)):=
 E.setG i ⟨v,rfl,h⟩ (λa w=>by cases w) λa w=>by cases w
theorem aq.rm (E:aq K σ H0 R0 H R Γ)(i:Nat){u:HO}{en:Ent}(ho:en.ok K H R (some (.ref a)))(h0:H0 a=none)(hf:∀(j:Nat) (e:Ent),j≠i->Γ[j]?=some e->a∉e.fp (σ[j]?).join)(O4:en.fp (some (.ref a))=[a]:=by rfl):
 aq K (σ.set i (some (.ref a))) H0 R0 H R (Γ.set i en):=
 E.setG i ho (λb w=>by rw[O4,II] at w;rw[w];exact h0) λb w=>by rw[O4,II] at w;rw[w];exact hf
theorem aq.mv (E:aq K σ H0 R0 H R Γ){e0 en:Ent}(hi:Γ[i]?=some e0)(ha:a∈e0.fp (σ[i]?).join)(ho:en.ok K (L2.upd H a u) R (σ[i]?).join)
 (Nt:∀b∈en.fp (σ[i]?).join,b∈e0.fp (σ[i]?).join∨(H0 b=none/\Off b σ Γ)):aq K σ H0 R0 (L2.upd H a u) R (Γ.set i en):=by
 have h0:H0 a=none:=E.nw i e0 a hi ha
 have hR:R a=none:=(Ent.dB (E.ent i e0 hi) ha).2
 refine⟨⟨λb o q=>?_,E.ext.r,λb o q=>?_,E.ext.old⟩,λj e q=>?_,λj e b q w=>?_,λj k e e' b q q' w w'=>?_,by rw[Jp];exact E.len⟩
 ·rw[aM (cZ q h0)];exact E.ext.h b o q
 ·rw[aM (cZ q hR)];exact E.ext.s b o q
 ·rcases set_at q with⟨rfl,rfl,_⟩ | ⟨hj,q1⟩
  ·exact ho
  ·refine(E.ent j e q1).loc (λb hb=>aM λz=>hj ?_) (ar.refl _) λb hb=>(Ent.dB (E.ent j e q1) hb).2
   rw[z] at hb
   exact E.ds j i e e0 a q1 hi hb ha
 ·rcases set_at q with⟨rfl,rfl,_⟩ | ⟨hj,q1⟩
  ·rcases Nt b w with z | z
   ·exact E.nw _ _ b hi z
   ·exact z.1
  ·exact E.nw j e b q1 w
 ·rcases set_at q with⟨rfl,rfl,_⟩ | ⟨hj,q1⟩
  ·rcases set_at q' with⟨rfl,rfl,_⟩ | ⟨hk,Of⟩
   ·rfl
   ·rcases Nt b w with z | z
    ·exact E.ds _ _ _ _ b hi Of z w'
    ·exact absurd w' (z.2 k e' Of)
  ·rcases set_at q' with⟨rfl,rfl,_⟩ | ⟨hk,Of⟩
   ·rcases Nt b w' with z | z
    ·exact E.ds _ _ _ _ b q1 hi w z
    ·exact absurd w (z.2 j e q1)
   ·exact E.ds _ _ _ _ b q1 Of w w'
theorem aq.upd (E:aq K σ H0 R0 H R Γ){e0 en:Ent}(hi:Γ[i]?=some e0)(w0:e0.own=true)(ha:(σ[i]?).join=some (.ref a))(hR:R a=none)(ho:en.ok K (L2.upd H a u) R (some (.ref a)))(O4:en.fp (some (.ref a))=[a]:=by rfl):
 aq K σ H0 R0 (L2.upd H a u) R (Γ.set i en):=
 E.mv hi ((Ent.nJ w0).mpr ha) (by rw[ha];exact ho) λb w=>.inl (by rw[ha,O4,II] at w;rw[w];exact(Ent.nJ w0).mpr ha)
theorem aq.nq (E:aq K σ H0 R0 H R Γ)(ha:H a=some u)(hR:R a=none)(h0:H0 a=none)(off:Off a σ Γ):aq K σ H0 R0 H (L2.upd R a u) Γ:=by
 have s2:ar R (L2.upd R a u):=ar.fresh hR _
 refine⟨⟨E.ext.h,E.ext.r.trans s2,λb o qb=>?_,λb hb=>?_⟩,λi e qe=>?_,E.nw,E.ds,E.len⟩
 ·by_cases hb:b=a
  ·subst hb;rw[aA] at qb;cases qb;exact ha
  ·rw[aM hb] at qb;exact E.ext.s b o qb
 ·rw[aM (show b≠a from λe=>hb (by rw[e];exact h0))];exact E.ext.old b hb
 ·refine(E.ent i e qe).loc (λ_ _=>rfl) s2 λb hb=>?_
  rw[aM (show b≠a from λz=>off i e qe (z▸hb))]
  exact(Ent.dB (E.ent i e qe) hb).2
theorem aq.tell (E:aq K σ H0 R0 H R Γ){e0 en:Ent}(hi:Γ[i]?=some e0)(ho:en.ok K H R (σ[i]?).join)(Nt:∀b∈en.fp (σ[i]?).join,b∈e0.fp (σ[i]?).join):aq K σ H0 R0 H R (Γ.set i en):=by
 refine⟨E.ext,λj e q=>?_,λj e b q w=>?_,λj k e e' b q q' w w'=>?_,by rw[Jp];exact E.len⟩
 ·rcases set_at q with⟨rfl,rfl,_⟩ | ⟨hj,q1⟩
  ·exact ho
  ·exact E.ent j e q1
 ·rcases set_at q with⟨rfl,rfl,_⟩ | ⟨hj,q1⟩
  ·exact E.nw _ _ b hi (Nt b w)
  ·exact E.nw j e b q1 w
 ·rcases set_at q with⟨rfl,rfl,_⟩ | ⟨hj,q1⟩
  ·rcases set_at q' with⟨rfl,rfl,_⟩ | ⟨hk,Of⟩
   ·rfl
   ·exact E.ds _ _ _ _ b hi Of (Nt b w) w'
  ·rcases set_at q' with⟨rfl,rfl,_⟩ | ⟨hk,Of⟩
   ·exact E.ds _ _ _ _ b q1 hi w (Nt b w')
   ·exact E.ds _ _ _ _ b q1 Of w w'
def Wk:Ga->Ga->Prop
 | [],[]=>True
 | e::r,e'::r'=>(e'=e∨e'= .no)/\Wk r r'
 | _,_=>False
theorem Wk.len:∀{Γ Γ':Ga},Wk Γ Γ'->Γ'.length=Γ.length
 | [],[],_=>rfl
 | _::_,_::_,h=>by rw[I0,I0,Wk.len h.2]
theorem Wk.at:∀{Γ Γ':Ga},Wk Γ Γ'->∀(i:Nat) (e:Ent),Γ'[i]?=some e->e= .no∨Γ[i]?=some e
 | [],[],_,i,e,q=>by simp at q
 | a::_,b::_,h,0,e,q=>by
   simp at q
   rcases h.1 with z | z
   ·right;simp[← q,z]
   ·left;rw[← q,z]
 | a::r,b::r',h,i + 1,e,q=>by
   simp at q
   have:=Wk.at h.2 i e q
   simpa using this
theorem Wk.refl:∀Γ:Ga,Wk Γ Γ
 | []=>trivial
 | _::r=>⟨.inl rfl,Wk.refl r⟩
theorem aq.weak (E:aq K σ H0 R0 H R Γ){Γ':Ga}(w:Wk Γ Γ'):aq K σ H0 R0 H R Γ':=by
 refine⟨E.ext,λi e q=>?_,λi e a q z=>?_,λi j e e' a q q' z z'=>?_,w.len.trans E.len⟩
 ·rcases w.at i e q with rfl | q
  ·trivial
  ·exact E.ent i e q
 ·rcases w.at i e q with rfl | q
  ·cases z
  ·exact E.nw i e a q z
 ·rcases w.at i e q with rfl | q
  ·cases z
  ·rcases w.at j e' q' with rfl | q'
   ·cases z'
   ·exact E.ds i j e e' a q q' z z'
end
section
variable {X:Cx}{Γ Γ1 Γ2 Γ3:Ga}{α β γ:Type}
variable {e:Expr}{r:Rep α}
def EV (X:Cx)(e:Expr)(Γ:Ga){α:Type}(r:Rep α)(y:α)(Γ':Ga):Prop:=
 ∀(σ:St) (H0 R0 H R:Hp),aq X.K σ H0 R0 H R Γ->∀Q:VK,(∀v H' R',aq X.K σ H0 R0 H' R' Γ'->ar R R'->r.R X.K R' v y->Q v H')->eF X e σ H Q
def aE (X:Cx)(e:Expr)(Γ:Ga){α:Type}(r:Rep α)(ys:List α)(Γ':Ga):Prop:=
 ∀(σ:St) (H0 R0 H R:Hp),aq X.K σ H0 R0 H R Γ->∀Q:VK,(∀a vs H' R',aq X.K σ H0 R0 H' R' Γ'->ar R R'->H' a=some (.lst vs)->R' a=none->H0 a=none->Off a σ Γ'->PySem.Paired (r.R X.K R') vs ys->ys.length<=K4->Q (.ref a) H')->eF X e σ H Q
def TV (X:Cx)(e:Expr)(Γ:Ga)(b:Bool)(Γ':Ga):Prop:=
 ∀(σ:St) (H0 R0 H R:Hp),aq X.K σ H0 R0 H R Γ->∀Q:Bool->Hp->Prop,(∀H' R',aq X.K σ H0 R0 H' R' Γ'->ar R R'->Q b H')->mw X e σ H Q
def TW (X:Cx)(e:Expr)(Γ:Ga)(b:Bool)(Γ':Ga):Prop:=
 ∀(σ:St) (H0 R0 H R:Hp),aq X.K σ H0 R0 H R Γ->∀Q:Bool->Hp->Prop,(∀H' R',aq X.K σ H0 R0 H' R' Γ'->ar R R'->Q b H')->yL X e σ H Q
def TF (X:Cx)(es:Ii)(Γ:Ga)(b:Bool)(Γ':Ga):Prop:=
 ∀(σ:St) (H0 R0 H R:Hp),aq X.K σ H0 R0 H R Γ->∀Q:Bool->Hp->Prop,(∀H' R',aq X.K σ H0 R0 H' R' Γ'->ar R R'->Q b H')->jg X es σ H Q
def BG (X:Cx)(tg:Expr){α:Type}(r:Rep α)(bf:α->Ga->Ga):Prop:=
 ∀(σ:St) (H0 R0 H R:Hp) (Γ:Ga) (v:V) (x:α),aq X.K σ H0 R0 H R Γ->r.R X.K R v x->∀Q:St->Hp->Prop,(∀σ',aq X.K σ' H0 R0 H R (bf x Γ)->Q σ' H)->iC X tg v σ H Q
abbrev RT:=Hp->V->Hp->Hp->Prop
def WS (X:Cx)(Oq:List Stmt)(Γ:Ga)(N:Ga->Prop)(T:RT):Prop:=
 ∀(σ:St) (H0 R0 H R:Hp),aq X.K σ H0 R0 H R Γ->∀D:Ends,(∀σ' H' R' Γ',aq X.K σ' H0 R0 H' R' Γ'->ar R R'->N Γ'->D.nx σ' H')->(∀v H' R',Ext H0 R0 H' R'->T H0 v H' R'->D.rt v H')->ie X Oq D σ H
def W1 (X:Cx)(st:Stmt)(Γ:Ga)(N:Ga->Prop)(T:RT):Prop:=
 ∀(σ:St) (H0 R0 H R:Hp),aq X.K σ H0 R0 H R Γ->∀D:Ends,(∀σ' H' R' Γ',aq X.K σ' H0 R0 H' R' Γ'->ar R R'->N Γ'->D.nx σ' H')->(∀v H' R',Ext H0 R0 H' R'->T H0 v H' R'->D.rt v H')->mL X st D σ H
def bL (K:MP){β:Type}(r:Rep β)(P:β->Prop):RT:=λ_ v _ R'=>∃y,r.R K R' v y/\P y
def iF (K:MP){β:Type}(r:Rep β)(P:List β->Prop):RT:=λH0 v H' R'=>∃a vs ys,v= .ref a/\H0 a=none/\H' a=some (.lst vs)/\R' a=none/\PySem.Paired (r.R K R') vs ys/\ys.length<=K4/\P ys
theorem aE.im {ys:List α}(h:aE X e Γ r ys Γ1):EV X e Γ (ak r) ys Γ1:=by
 intro σ H0 R0 H R E Q q
 refine h σ H0 R0 H R E Q λa vs H' R' E' s1 ha hR h0 off p z=>?_
 have s2:ar R' (upd R' a (.lst vs)):=ar.fresh hR _
 exact q (.ref a) H' (upd R' a (.lst vs)) (E'.nq ha hR h0 off) (s1.trans s2) ⟨a,vs,rfl,aA,Paired.map (λ_ _=>r.mono s2) p,z⟩
theorem EV.cast {y y':α}(h:EV X e Γ r y Γ1)(e1:y=y'):EV X e Γ r y' Γ1:=e1▸h
theorem TV.cast {b b':Bool}(h:TV X e Γ b Γ1)(e1:b=b'):TV X e Γ b' Γ1:=e1▸h
theorem aa (i:Nat){x:Str}{pos:Pos}{y:α}(hΓ:Γ[i]?=some (.im r y))(hN:X.N[i]?=some x:=by rfl)(hv:autoParam (bZ X.env.scope x) NC)
 (hd:Nr x:=by decide) (Np:NA x:=by decide):EV X (.Name x pos) Γ r y Γ:=by
 intro σ H0 R0 H R E Q q
 obtain⟨v,e,h⟩:=E.ent i _ hΓ
 refine eS (ba hN hv hd Np) ⟨v,?_,q v H R E (ar.refl _) h⟩
 cases es:σ[i]? with
 | none=>rw[es] at e;cases e
 | some o=>rw[es] at e;exact congrArg some e
theorem ai {i:Int}{j:Nat}{pos:Pos}:EV X (.Constant (.int i) j pos) Γ af i Γ:=λ_ _ _ _ _ E _ q=>eS eU (q _ _ _ E (ar.refl _) rfl)
theorem dC {b:Bool}{j:Nat}{pos:Pos}:EV X (.Constant (.bool b) j pos) Γ aX b Γ:=λ_ _ _ _ _ E _ q=>eS uY (q _ _ _ E (ar.refl _) rfl)
theorem bV {x:Str}{pos:Pos}{n:Int}{t:Tok}(hm:X.mg x=some (.int n t))(hg:Gl X x:=by rfl)(hd:Nr x:=by decide):EV X (.Name x pos) Γ af n Γ:=
 λ_ _ _ _ _ E _ q=>eS (iS (v:=.int n) hg hm ⟨t,rfl⟩ hd) (q (.int n) _ _ E (ar.refl _) rfl)
theorem kH {op:Mg}{r2:R2}{a b:Expr}{pos:Pos}{ra:Rep α}{rb:Rep β}{rc:Rep γ}{x:α}{y:β}{z:γ}(ho:d7 X (LD op) r2)(ha:EV X a Γ ra x Γ1)(hb:EV X b Γ1 rb y Γ2)
 (hz:∀(R:Hp) v u H Q,ra.R X.K R v x->rb.R X.K R u y->(∀w,rc.R X.K R w z->Q w H)->r2 v u H Q):EV X (.BinOp a op b pos) Γ rc z Γ2:=by
 intro σ H0 R0 H R E Q q
 refine eS (pL ho aJ aJ) (ha σ H0 R0 H R E _ λv H1 R1 E1 s1 e1=>hb σ H0 R0 H1 R1 E1 _ λu H2 R2 E2 s2 e2=>?_)
 exact hz R2 v u H2 _ (ra.mono s2 e1) e2 λw hw=>q w H2 R2 E2 (s1.trans s2) hw
section
variable {a b c:Expr}{pos:Pos}{x y z:Int}
theorem bX (ha:EV X a Γ af x Γ1)(hb:EV X b Γ1 af y Γ2):EV X (.BinOp a .Add b pos) Γ af (x + y) Γ2:=kH B0 ha hb λR v u H Q e1 e2 q=>⟨x,y,e1,e2,q _ rfl⟩
theorem dy (ha:EV X a Γ af x Γ1)(hb:EV X b Γ1 af y Γ2):EV X (.BinOp a .Sub b pos) Γ af (x - y) Γ2:=kH Cj ha hb λR v u H Q e1 e2 q=>⟨x,y,e1,e2,q _ rfl⟩
theorem nA (ha:EV X a Γ af x Γ1)(hb:EV X b Γ1 af y Γ2)(h:uH x y):EV X (.BinOp a .Mult b pos) Γ af (x * y) Γ2:=kH CK ha hb λR v u H Q e1 e2 q=>⟨x,y,e1,e2,h,q _ rfl⟩
theorem jM (ha:EV X a Γ af x Γ1)(hb:EV X b Γ1 af y Γ2)(h:0 < y):EV X (.BinOp a .Mod b pos) Γ af (x % y) Γ2:=kH Cf ha hb λR v u H Q e1 e2 q=>⟨x,y,e1,e2,h,q _ rfl⟩
theorem gG (ha:EV X a Γ af x Γ1)(hb:EV X b Γ1 af y Γ2)(h:DN x y):EV X (.BinOp a .Pow b pos) Γ af (x ^ y.toNat) Γ2:=kH DU ha hb λR v u H Q e1 e2 q=>⟨x,y,e1,e2,h,q _ rfl⟩
theorem bW (ha:EV X a Γ af x Γ1):EV X (.UnaryOp .USub a pos) Γ af (-x) Γ1:=by
 intro σ H0 R0 H R E Q q
 exact eS (FZ DF aJ) (ha σ H0 R0 H R E _ λv H1 R1 E1 s1 e1=>⟨x,e1,q _ H1 R1 E1 s1 rfl⟩)
end
structure gN (X:Cx) (op:CmpOp) {α β:Type} (ra:Rep α) (rb:Rep β) (x:α) (y:β) (k:Bool):Prop where
 r2:∃r,d7 X (Lj op) r/\∀(R H:Hp) v u Q,ar R H->ra.R X.K R v x->rb.R X.K R u y->Q (.bl k) H->r v u H Q
theorem fF {op:CmpOp}{a b:Expr}{pos:Pos}{ra:Rep α}{rb:Rep β}{x:α}{y:β}{k:Bool}(c:gN X op ra rb x y k)(ha:EV X a Γ ra x Γ1)(hb:EV X b Γ1 rb y Γ2)(hm:Lr op b=false:=by first | exact rY _ | with_unfolding_all rfl):
 EV X (.Compare a [op] [b] pos) Γ aX k Γ2:=by
 obtain⟨r,ho,hr⟩:=c.r2
 intro σ H0 R0 H R E Q q
 refine eS (AK ho aJ aJ hm) (ha σ H0 R0 H R E _ λv H1 R1 E1 s1 e1=>hb σ H0 R0 H1 R1 E1 _ λu H2 R2 E2 s2 e2=>?_)
 exact hr R2 H2 v u _ E2.sub (ra.mono s2 e1) e2 (q _ H2 R2 E2 (s1.trans s2) rfl)
theorem aK {op:CmpOp}{a b:Expr}{pos:Pos}{ra:Rep α}{rb:Rep β}{x:α}{y:β}{k:Bool}(c:gN X op ra rb x y k)(ha:EV X a Γ ra x Γ1)(hb:EV X b Γ1 rb y Γ2)(hm:Lr op b=false:=by first | exact rY _ | with_unfolding_all rfl):
 TV X (.Compare a [op] [b] pos) Γ k Γ2:=by
 obtain⟨r,ho,hr⟩:=c.r2
 intro σ H0 R0 H R E Q q
 refine tS (Ap ho aJ aJ hm) (ha σ H0 R0 H R E _ λv H1 R1 E1 s1 e1=>hb σ H0 R0 H1 R1 E1 _ λu H2 R2 E2 s2 e2=>?_)
 exact hr R2 H2 v u _ E2.sub (ra.mono s2 e1) e2 ⟨k,rfl,q H2 R2 E2 (s1.trans s2)⟩
section
variable {x y:Int}
theorem dX:gN X .Lt af af x y (decide (x < y)):=⟨_,Gf,λR H v u Q _ e1 e2 q=>⟨x,y,e1,e2,q⟩⟩
theorem f6:gN X .LtE af af x y (decide (x<=y)):=⟨_,Fn,λR H v u Q _ e1 e2 q=>⟨x,y,e1,e2,q⟩⟩
theorem Dk:gN X .GtE af af x y (decide (y<=x)):=⟨_,EK,λR H v u Q _ e1 e2 q=>⟨x,y,e1,e2,q⟩⟩
theorem cT:gN X .Eq af af x y (decide (x=y)):=⟨_,EY,λR H v u Q _ e1 e2 q=>by
 cases e1;cases e2
 exact⟨rfl,by rw[show decide (V.int x=V.int y)=decide (x=y) by rw[lK];exact Iq x y];exact q⟩⟩
theorem nR:gN X .NotEq af af x y (!decide (x=y)):=⟨_,E8,λR H v u Q _ e1 e2 q=>by
 cases e1;cases e2
 exact⟨rfl,by rw[show decide (V.int x=V.int y)=decide (x=y) by rw[lK];exact Iq x y];exact q⟩⟩
end
variable {a:Expr}{x:Bool}{b:Expr}{y:Bool}{rest:Ii}{c:Expr}
theorem my (x:Int):∀xs:Ib,zZ (.int x) (xs.map V.int)=decide (x∈xs)
 | []=>rfl
 | y::r=>by
   have h:=my x r
   unfold zZ at h ⊢
   rw[Js,Kg,h]
   have e:nj (V.int y) (V.int x)=decide (x=y):=by
    show(y==x)=_
    by_cases h:x=y
    ·subst h;simp
    ·rw[decide_eq_false h];exact beq_eq_false_iff_ne.mpr (KG h)
   rw[e,Ip];simp
theorem eD {K:MP}{R:Hp}:∀{vs:List V} {xs:Ib},PySem.Paired (af.R K R) vs xs->vs=xs.map V.int
 | _,_,.nil=>rfl
 | _,_,.cons h t=>by rw[Js,← eD t];exact congrArg (· ::_) h
theorem lz:∀xs:Ib,(xs.map V.int).all iH=true
 | []=>rfl
 | _::r=>by rw[Js,all_cons,lz r];rfl
theorem yz {x:Int}{xs:Ib}:gN X .In af (ak af) x xs (decide (x∈xs)):=⟨_,vU,λR H v u Q s e1 e2 q=>by
 cases e1
 obtain⟨a,vs,rfl,hq,p,_⟩:=e2
 have e:=eD p
 subst e
 exact⟨a,_,rfl,.inl (bt.of (s _ _ hq)),rfl,lz xs,by rw[if_neg Il,my];exact q⟩⟩
theorem lO {x:Int}{xs:Ib}:gN X .NotIn af (ak af) x xs (!decide (x∈xs)):=⟨_,qX,λR H v u Q s e1 e2 q=>by
 cases e1
 obtain⟨a,vs,rfl,hq,p,_⟩:=e2
 have e:=eD p
 subst e
 exact⟨a,_,rfl,.inl (bt.of (s _ _ hq)),rfl,lz xs,by rw[if_pos rfl,my];exact q⟩⟩
theorem f7 {op O8:CmpOp}{pos:Pos}{ra:Rep α}{rb:Rep β}{rc:Rep γ}{x:α}{y:β}{z:γ}{k k':Bool}(c1:gN X op ra rb x y k)(c2:gN X O8 rb rc y z k')(ha:EV X a Γ ra x Γ)(hb:EV X b Γ rb y Γ)(hc:EV X c Γ rc z Γ)
 (hm:lastMarks [op,O8] [b,c]=false:=by with_unfolding_all rfl):EV X (.Compare a [op,O8] [b,c] pos) Γ aX (k&&k') Γ:=by
 obtain⟨r,ho,hr⟩:=c1.r2
 obtain⟨r',Pf,O3⟩:=c2.r2
 intro σ H0 R0 H R E Q q
 refine eS (yi ho Pf aJ aJ aJ hm) (ha σ H0 R0 H R E _ λv H1 R1 E1 s1 e1=>hb σ H0 R0 H1 R1 E1 _ λu H2 R2 E2 s2 e2=>?_)
 refine hr R2 H2 v u _ E2.sub (ra.mono s2 e1) e2 ⟨k,rfl,?_⟩
 cases k with
 | false=>exact jD (q _ H2 R2 E2 (s1.trans s2) rfl)
 | true=>exact jB (hc σ H0 R0 H2 R2 E2 _ λw H3 R3 E3 s3 e3=>O3 R3 H3 u w _ E3.sub (rb.mono s3 e2) e3 (q _ H3 R3 E3 (s1.trans (s2.trans s3)) rfl))
theorem iZ {op O8:CmpOp}{pos:Pos}{ra:Rep α}{rb:Rep β}{rc:Rep γ}{x:α}{y:β}{z:γ}{k k':Bool}(c1:gN X op ra rb x y k)(c2:gN X O8 rb rc y z k')(ha:EV X a Γ ra x Γ)(hb:EV X b Γ rb y Γ)(hc:EV X c Γ rc z Γ)
 (hm:lastMarks [op,O8] [b,c]=false:=by with_unfolding_all rfl):TV X (.Compare a [op,O8] [b,c] pos) Γ (k&&k') Γ:=by
 obtain⟨r,ho,hr⟩:=c1.r2
 obtain⟨r',Pf,O3⟩:=c2.r2
 intro σ H0 R0 H R E Q q
 refine tS (yT ho Pf aJ aJ aJ hm) (ha σ H0 R0 H R E _ λv H1 R1 E1 s1 e1=>hb σ H0 R0 H1 R1 E1 _ λu H2 R2 E2 s2 e2=>?_)
 refine hr R2 H2 v u _ E2.sub (ra.mono s2 e1) e2 ⟨k,rfl,?_⟩
 cases k with
 | false=>exact jD ⟨false,rfl,q H2 R2 E2 (s1.trans s2)⟩
 | true=>exact jB (hc σ H0 R0 H2 R2 E2 _ λw H3 R3 E3 s3 e3=>O3 R3 H3 u w _ E3.sub (rb.mono s3 e2) e3 ⟨k',rfl,q H3 R3 E3 (s1.trans (s2.trans s3))⟩)
theorem fG {op:BoolOp}{pos:Pos}{r:Rep α}{x:α}(h:EV X a Γ r x Γ1):EV X (.BoolOp op [a] pos) Γ r x Γ1:=λσ H0 R0 H R E Q q=>eS (D5 aJ) (h σ H0 R0 H R E Q q)
theorem fz {pos:Pos}(ha:EV X a Γ aX x Γ)(hb:x=true->EV X (.BoolOp .And (b::rest) pos) Γ aX y Γ):EV X (.BoolOp .And (a::b::rest) pos) Γ aX (x&&y) Γ:=by
 intro σ H0 R0 H R E Q q
 refine eS (Bx aJ aJ) (ha σ H0 R0 H R E _ λv H1 R1 E1 s1 e1=>⟨x,e1,?_⟩)
 cases x with
 | false=>exact jD (q _ H1 R1 E1 s1 rfl)
 | true=>exact jB (hb rfl σ H0 R0 H1 R1 E1 _ λw H3 R3 E3 s3 e3=>q w H3 R3 E3 (s1.trans s3) e3)
theorem Fo {pos:Pos}(ha:EV X a Γ aX x Γ)(hb:x=false->EV X (.BoolOp .Or (b::rest) pos) Γ aX y Γ):EV X (.BoolOp .Or (a::b::rest) pos) Γ aX (x ||y) Γ:=by
 intro σ H0 R0 H R E Q q
 refine eS (Fx aJ aJ) (ha σ H0 R0 H R E _ λv H1 R1 E1 s1 e1=>⟨x,e1,?_⟩)
 cases x with
 | true=>exact jB (q _ H1 R1 E1 s1 rfl)
 | false=>exact jD (hb rfl σ H0 R0 H1 R1 E1 _ λw H3 R3 E3 s3 e3=>q w H3 R3 E3 (s1.trans s3) e3)
theorem xE {pos:Pos}(ha:EV X a Γ aX x Γ1):EV X (.UnaryOp .Not a pos) Γ aX (!x) Γ1:=by
 intro σ H0 R0 H R E Q q
 exact eS (B9 aJ) (ha σ H0 R0 H R E _ λv H1 R1 E1 s1 e1=>⟨x,e1,q _ H1 R1 E1 s1 rfl⟩)
theorem cw {pos:Pos}(ha:TV X a Γ x Γ1):TV X (.UnaryOp .Not a pos) Γ (!x) Γ1:=by
 intro σ H0 R0 H R E Q q
 exact tS (B5 jH) (ha σ H0 R0 H R E _ λH1 R1 E1 s1=>q H1 R1 E1 s1)
theorem TW.tv {e:Expr}{b:Bool}(h:TW X e Γ b Γ1):TV X e Γ b Γ1:=λσ H0 R0 H R E Q q=>tS (zt.pt) (h σ H0 R0 H R E Q q)
theorem iX {pos:Pos}(ha:TV X a Γ x Γ1):TW X (.BoolOp .And [a] pos) Γ x Γ1:=λσ H0 R0 H R E Q q=>wS (tJ jH) (ha σ H0 R0 H R E Q q)
theorem fY {pos:Pos}(ha:TV X a Γ x Γ1):TW X (.BoolOp .Or [a] pos) Γ x Γ1:=λσ H0 R0 H R E Q q=>wS (D7 jH) (ha σ H0 R0 H R E Q q)
theorem iu {pos:Pos}(ha:TV X a Γ x Γ)(hb:x=true->TW X (.BoolOp .And (b::rest) pos) Γ y Γ):TW X (.BoolOp .And (a::b::rest) pos) Γ (x&&y) Γ:=by
 intro σ H0 R0 H R E Q q
 refine wS (xJ jH zt) (ha σ H0 R0 H R E _ λH1 R1 E1 s1=>?_)
 cases x with
 | false=>exact jD (q H1 R1 E1 s1)
 | true=>exact jB (hb rfl σ H0 R0 H1 R1 E1 _ λH3 R3 E3 s3=>q H3 R3 E3 (s1.trans s3))
theorem ig {pos:Pos}(ha:TV X a Γ x Γ)(hb:x=false->TW X (.BoolOp .Or (b::rest) pos) Γ y Γ):TW X (.BoolOp .Or (a::b::rest) pos) Γ (x ||y) Γ:=by
 intro σ H0 R0 H R E Q q
 refine wS (FT jH zt) (ha σ H0 R0 H R E _ λH1 R1 E1 s1=>?_)
 cases x with
 | true=>exact jB (q H1 R1 E1 s1)
 | false=>exact jD (hb rfl σ H0 R0 H1 R1 E1 _ λH3 R3 E3 s3=>q H3 R3 E3 (s1.trans s3))
theorem bE {k:Bool}(ha:EV X a Γ aX k Γ1)(he:∀whole,LK a X.env whole=(do let v ← whole;LL a.pos;Lk [v] (Mb v)):=by intro _;rfl):TV X a Γ k Γ1:=by
 intro σ H0 R0 H R E Q q
 exact tS (BI aJ he) (ha σ H0 R0 H R E _ λv H1 R1 E1 s1 e1=>⟨k,e1,q H1 R1 E1 s1⟩)
theorem cg:TF X [] Γ true Γ:=λσ H0 R0 H R E Q q=>fS B2 (q H R E (ar.refl _))
theorem i5 {b:Bool}(h:TV X c Γ b Γ1):TF X [c] Γ b Γ1:=λσ H0 R0 H R E Q q=>fS (DE jH) (h σ H0 R0 H R E Q q)
end
section
variable {X:Cx}{Γ Γ1 Γ2 Γ3:Ga}{α β γ δ:Type}
variable {r:Rep α}{b:Expr}{i:Int}{es:Ii}{x:α}{a:Expr}{xs:List α}
structure Pk:Type 1 where
 {α:Type}
 r:Rep α
 x:α
inductive gu (K:MP) (R:Hp):List V->List Pk->Prop
 | nil:gu K R [] []
 | cons {v:V} {vs:List V} {p:Pk} {ps:List Pk}:p.r.R K R v p.x->gu K R vs ps->gu K R (v::vs) (p::ps)
def HA (X:Cx)(es:Ii)(Γ:Ga)(ps:List Pk)(Γ':Ga):Prop:=
 ∀(σ:St) (H0 R0 H R:Hp),aq X.K σ H0 R0 H R Γ->∀Q:List V->Hp->Prop,(∀vs H' R',aq X.K σ H0 R0 H' R' Γ'->ar R R'->gu X.K R' vs ps->Q vs H')->ky X es σ H Q
theorem aj:HA X [] Γ [] Γ:=λσ H0 R0 H R E Q q=>aS bJ (q [] H R E (ar.refl _) .nil)
theorem ae {e:Expr}{ps:List Pk}(he:EV X e Γ r x Γ1)(hr:HA X es Γ1 ps Γ2)(hs:K2 (e::es) X.env=(false,eval e X.env)::K2 es X.env:=by rfl):HA X (e::es) Γ (⟨r,x⟩::ps) Γ2:=by
 intro σ H0 R0 H R E Q q
 refine aS (aH aJ js hs) (he σ H0 R0 H R E _ λv H1 R1 E1 s1 e1=>hr σ H0 R0 H1 R1 E1 _ λvs H2 R2 E2 s2 e2=>?_)
 exact q (v::vs) H2 R2 E2 (s1.trans s2) (.cons (r.mono s2 e1) e2)
def EA (X:Cx)(es:Ii)(Γ:Ga){α:Type}(r:Rep α)(ys:List α)(Γ':Ga):Prop:=
 ∀(σ:St) (H0 R0 H R:Hp),aq X.K σ H0 R0 H R Γ->∀Q:List V->Hp->Prop,(∀vs H' R',aq X.K σ H0 R0 H' R' Γ'->ar R R'->PySem.Paired (r.R X.K R') vs ys->Q vs H')->ky X es σ H Q
theorem aD:EA X [] Γ r [] Γ:=λσ H0 R0 H R E Q q=>aS bJ (q [] H R E (ar.refl _) .nil)
theorem au {e:Expr}{ys:List α}(he:EV X e Γ r x Γ1)(hr:EA X es Γ1 r ys Γ2)(hs:K2 (e::es) X.env=(false,eval e X.env)::K2 es X.env:=by rfl):EA X (e::es) Γ r (x::ys) Γ2:=by
 intro σ H0 R0 H R E Q q
 refine aS (aH aJ js hs) (he σ H0 R0 H R E _ λv H1 R1 E1 s1 e1=>hr σ H0 R0 H1 R1 E1 _ λvs H2 R2 E2 s2 e2=>?_)
 exact q (v::vs) H2 R2 E2 (s1.trans s2) (.cons (r.mono s2 e1) e2)
theorem aw {pos:Pos}{ys:List α}(h:EA X es Γ r ys Γ1)(hz:ys.length<=K4):aE X (.List es pos) Γ r ys Γ1:=by
 intro σ H0 R0 H R E Q q
 refine eS (vA js) (h σ H0 R0 H R E _ λvs H1 R1 E1 s1 p1=>⟨by rw[p1.length];exact hz,λp hp=>?_⟩)
 exact q p vs _ R1 (E1.grow (Ext.c7 E1.sub hp _)) s1 aA (E1.sub.free hp) (E1.ext.h.free hp) (E1.off hp) p1 hz
theorem bS {k:Nat}{pos:Pos}{r':Rep β}{y:β}(h:HA X [a,b] Γ [⟨r,x⟩,⟨r',y⟩] Γ1):EV X (.Tuple [a,b] k pos) Γ (aP r r') (x,y) Γ1:=by
 intro σ H0 R0 H R E Q q
 refine eS (lD js) (h σ H0 R0 H R E _ λvs H1 R1 E1 s1 p1=>?_)
 obtain⟨h1,h2⟩:∃v1 v2,vs=[v1,v2]/\r.R X.K R1 v1 x/\r'.R X.K R1 v2 y:=by
  cases p1 with
  | cons a1 t=>cases t with
    | cons a2 t2=>cases t2;exact⟨_,_,rfl,a1,a2⟩
 obtain⟨v2,rfl,e1,e2⟩:=h2
 refine⟨by show 2<=K4;decide,λp hp=>?_⟩
 have s2:ar R1 (upd R1 p (.tup [h1,v2])):=ar.fresh (E1.sub.free hp) _
 exact q _ _ (upd R1 p (.tup [h1,v2])) (E1.grow (Ext.fresh E1.sub hp _)) (s1.trans s2) ⟨p,_,_,rfl,aA,r.mono s2 e1,r'.mono s2 e2⟩
theorem dR {c d:Expr}{k:Nat}{pos:Pos}{x y z w:Int}(h:HA X [a,b,c,d] Γ [⟨af,x⟩,⟨af,y⟩,⟨af,z⟩,⟨af,w⟩] Γ1):EV X (.Tuple [a,b,c,d] k pos) Γ bA (x,y,z,w) Γ1:=by
 intro σ H0 R0 H R E Q q
 refine eS (lD js) (h σ H0 R0 H R E _ λvs H1 R1 E1 s1 p1=>?_)
 have e:vs=[.int x,.int y,.int z,.int w]:=by
  cases p1 with
  | cons a1 t=>cases t with
    | cons a2 t=>cases t with
      | cons a3 t=>cases t with
        | cons a4 t=>cases t;cases a1;cases a2;cases a3;cases a4;rfl
 subst e
 refine⟨by show 4<=K4;decide,λp hp=>?_⟩
 exact q _ _ (upd R1 p _) (E1.grow (Ext.fresh E1.sub hp _)) (s1.trans (ar.fresh (E1.sub.free hp) _)) ⟨p,rfl,aA⟩
theorem eM {F:α->β->Prop}:∀{vs:List α} {xs:List β},PySem.Paired F vs xs->∀{i:Nat} {y:β},xs[i]?=some y->∃v,vs[i]?=some v/\F v y
 | _,_,.nil,i,y,h=>by simp at h
 | _,_,.cons h t,0,y,e=>by simp at e;subst e;exact⟨_,rfl,h⟩
 | _,_,.cons h t,i + 1,y,e=>by
   obtain⟨v,e1,e2⟩:=eM t (i:=i) (y:=y) (by simpa using e)
   exact⟨v,by simpa using e1,e2⟩
theorem iM {F:α->β->Prop}{vs:List α}{xs:List β}(p:PySem.Paired F vs xs){y:β}(h:cS xs i=some y):∃v,cS vs i=some v/\F v y:=by
 unfold cS at h ⊢
 rw[p.length]
 cases e:eR xs.length i with
 | none=>rw[e] at h;cases h
 | some j=>rw[e] at h;exact eM p h
theorem fX (h0:0<=i)(h1:i < xs.length):cS xs i=xs[i.toNat]?:=by
 have e:i=((i.toNat:Nat):Int):=by omega
 have hl:i.toNat < xs.length:=by omega
 have q:cS xs ((i.toNat:Nat):Int)=some xs[i.toNat]:=Bf (IF hl)
 rw[← e] at q
 rw[q,IF hl]
theorem aN {pos:Pos}{y:α}(ha:EV X a Γ (ak r) xs Γ1)(hb:EV X b Γ1 af i Γ2)(h:cS xs i=some y)(hs:fQ b:=by exact λ_ _=>rfl):EV X (.Subscript a b pos) Γ r y Γ2:=by
 intro σ H0 R0 H R E Q q
 refine eS (jt h7 aJ aJ hs) (ha σ H0 R0 H R E _ λv H1 R1 E1 s1 e1=>hb σ H0 R0 H1 R1 E1 _ λu H2 R2 E2 s2 e2=>?_)
 obtain⟨p,vs,rfl,ha,pp,z⟩:=(ak r).mono s2 e1
 obtain⟨w,e3,e4⟩:=iM pp h
 exact⟨p,vs,i,w,rfl,e2,bt.of (E2.sub _ _ ha),e3,q w H2 R2 E2 (s1.trans s2) e4⟩
theorem eV (j:Nat){x:Str}{p1:Pos}{pos:Pos}{y:α}(hb:EV X b Γ af i Γ1)(hΓ:Γ[j]?=some (.mu r xs))(hΓ1:Γ1[j]?=some (.mu r xs))(h:cS xs i=some y)(hN:X.N[j]?=some x:=by rfl)(hv:autoParam (bZ X.env.scope x) NC)
 (hs:fQ b:=by exact λ_ _=>rfl) (hd:Nr x:=by decide) (Np:NA x:=by decide):EV X (.Subscript (.Name x p1) b pos) Γ r y Γ1:=by
 intro σ H0 R0 H R E Q q
 obtain⟨a,vs,e,_,_,_⟩:=E.ent j _ hΓ
 refine eS (jt h7 (ba hN hv hd Np) aJ hs) ⟨.ref a,?_,hb σ H0 R0 H R E _ λu H2 R2 E2 s2 e2=>?_⟩
 ·cases es:σ[j]? with
  | none=>rw[es] at e;cases e
  | some o=>rw[es] at e;exact congrArg some e
 ·obtain⟨a',N3,e',ha,hR,pp⟩:=E2.ent j _ hΓ1
  rw[e] at e';cases e'
  obtain⟨w,e3,e4⟩:=iM pp h
  exact⟨a,N3,i,w,rfl,e2,bt.of ha,e3,q w H2 R2 E2 s2 e4⟩
section
variable {a:Expr}{n:Int}{j:Nat}{p1 pos:Pos}{w:Row}
variable {r:Rep α}{r':Rep β}
theorem ik {x:α}{y:β}(ha:EV X a Γ r x Γ1)(k:∀(R:Hp) v,r.R X.K R v x->∃p vs w,v= .ref p/\R p=some (.tup vs)/\cS vs n=some w/\r'.R X.K R w y):EV X (.Subscript a (.Constant (.int n) j p1) pos) Γ r' y Γ1:=by
 intro σ H0 R0 H R E Q q
 refine eS (jt D6 aJ eU (λ_ _=>rfl)) (ha σ H0 R0 H R E _ λv H1 R1 E1 s1 e1=>?_)
 obtain⟨p,vs,w,rfl,hp,e3,e4⟩:=k R1 v e1
 exact⟨p,vs,n,w,rfl,rfl,ei.of (E1.sub _ _ hp),e3,q w H1 R1 E1 s1 e4⟩
theorem gk (ha:EV X a Γ bA w Γ1):EV X (.Subscript a (.Constant (.int 0) j p1) pos) Γ af w.1 Γ1:=ik ha λR v ⟨p,e,h⟩=>⟨p,_,_,e,h,rfl,rfl⟩
theorem dA (ha:EV X a Γ bA w Γ1):EV X (.Subscript a (.Constant (.int 1) j p1) pos) Γ af w.2.1 Γ1:=ik ha λR v ⟨p,e,h⟩=>⟨p,_,_,e,h,rfl,rfl⟩
theorem ck (ha:EV X a Γ bA w Γ1):EV X (.Subscript a (.Constant (.int 2) j p1) pos) Γ af w.2.2.1 Γ1:=ik ha λR v ⟨p,e,h⟩=>⟨p,_,_,e,h,rfl,rfl⟩
theorem n6 (ha:EV X a Γ bA w Γ1):EV X (.Subscript a (.Constant (.int 3) j p1) pos) Γ af w.2.2.2 Γ1:=ik ha λR v ⟨p,e,h⟩=>⟨p,_,_,e,h,rfl,rfl⟩
theorem c8 {x:α×β}(ha:EV X a Γ (aP r r') x Γ1):EV X (.Subscript a (.Constant (.int 0) j p1) pos) Γ r x.1 Γ1:=ik ha λR v ⟨p,v1,v2,e,h,h1,h2⟩=>⟨p,_,v1,e,h,rfl,h1⟩
theorem a9 {x:α×β}(ha:EV X a Γ (aP r r') x Γ1):EV X (.Subscript a (.Constant (.int 1) j p1) pos) Γ r' x.2 Γ1:=ik ha λR v ⟨p,v1,v2,e,h,h1,h2⟩=>⟨p,_,v2,e,h,rfl,h2⟩
end
variable {a:Expr}{r:Rep α}{xs:List α}
def OV (X:Cx)(e:Option Expr)(Γ:Ga)(o:Option Int):Prop:=∃t,PO X e t/\∀(σ:St) (H0 R0 H R:Hp),aq X.K σ H0 R0 H R Γ->∀Q:Option Int->Hp->Prop,(∀H' R',aq X.K σ H0 R0 H' R' Γ->ar R R'->Q o H')->t σ H Q
theorem eB:OV X none Γ none:=⟨_,sU,λσ H0 R0 H R E Q q=>q H R E (ar.refl _)⟩
theorem eC {e:Expr}{i:Int}(h:EV X e Γ af i Γ):OV X (some e) Γ (some i):=⟨_,tH aJ,λσ H0 R0 H R E Q q=>h σ H0 R0 H R E _ λv H1 R1 E1 s1 e1=>⟨i,e1,q H1 R1 E1 s1⟩⟩
def cut (xs:List α)(lo hi:Option Int):List α:=(xs.drop (HT.Ny xs.length 0 lo)).take (HT.Ny xs.length xs.length hi - HT.Ny xs.length 0 lo)
theorem ib {F:α->β->Prop}:∀(n:Nat) {vs:List α} {xs:List β},PySem.Paired F vs xs->PySem.Paired F (vs.drop n) (xs.drop n)
 | 0,_,_,h=>h
 | _ + 1,_,_,.nil=>.nil
 | n + 1,_,_,.cons _ t=>ib n t
theorem fV {F:α->β->Prop}:∀(n:Nat) {vs:List α} {xs:List β},PySem.Paired F vs xs->PySem.Paired F (vs.take n) (xs.take n)
 | 0,_,_,_=>.nil
 | _ + 1,_,_,.nil=>.nil
 | n + 1,_,_,.cons h t=>.cons h (fV n t)
theorem cY {F:α->β->Prop}:∀{vs:List α} {xs:List β} {N3:List α} {N7:List β},PySem.Paired F vs xs->PySem.Paired F N3 N7->PySem.Paired F (vs++N3) (xs++N7)
 | _,_,_,_,.nil,h=>h
 | _,_,_,_,.cons h t,h'=>.cons h (cY t h')
theorem fO (xs:List α)(lo hi:Option Int):(cut xs lo hi).length<=xs.length:=by
 unfold cut
 rw[Jm,J6]
 omega
theorem dJ {lo hi:Option Expr}{p2 pos:Pos}{l h:Option Int}(ha:EV X a Γ (ak r) xs Γ)(hl:OV X lo Γ l)(hh:OV X hi Γ h):aE X (.Subscript a (.Slice lo hi none p2) pos) Γ r (cut xs l h) Γ:=by
 intro σ H0 R0 H R E Q q
 obtain⟨tl,pl,kl⟩:=hl
 obtain⟨th,ph,kh⟩:=hh
 refine eS (mE sL aJ pl ph) (ha σ H0 R0 H R E _ λv H1 R1 E1 s1 e1=>kl σ H0 R0 H1 R1 E1 _ λH2 R2 E2 s2=>kh σ H0 R0 H2 R2 E2 _ λH3 R3 E3 s3=>?_)
 obtain⟨p,vs,rfl,hp,pp,z⟩:=(ak r).mono (s2.trans s3) e1
 refine⟨p,vs,rfl,bt.of (E3.sub _ _ hp),λd hd=>?_⟩
 refine q d _ _ R3 (E3.grow (Ext.c7 E3.sub hd _)) (s1.trans (s2.trans s3)) aA (E3.sub.free hd) (E3.ext.h.free hd) (E3.off hd) ?_ (Kq (fO _ _ _) z)
 unfold cut kZ
 rw[pp.length]
 exact fV _ (ib _ pp)
theorem uM {lo hi:Option Expr}{p2 pos:Pos}{xs:Ib}{l h:Option Int}(ha:EV X a Γ fU xs Γ)(hl:OV X lo Γ l)(hh:OV X hi Γ h):aE X (.Subscript a (.Slice lo hi none p2) pos) Γ af (cut xs l h) Γ:=by
 intro σ H0 R0 H R E Q q
 obtain⟨tl,pl,kl⟩:=hl
 obtain⟨th,ph,kh⟩:=hh
 refine eS (mE sL aJ pl ph) (ha σ H0 R0 H R E _ λv H1 R1 E1 s1 e1=>kl σ H0 R0 H1 R1 E1 _ λH2 R2 E2 s2=>kh σ H0 R0 H2 R2 E2 _ λH3 R3 E3 s3=>?_)
 obtain⟨p,rfl,hp,z⟩:=fU.mono (s2.trans s3) e1
 refine⟨p,_,rfl,E3.sub.seq hp,λd hd=>?_⟩
 have OH:∀ys:Ib,PySem.Paired (af.R X.K R3) (ys.map V.int) ys:=λys=>by
  induction ys with
  | nil=>exact .nil
  | cons y r ih=>exact .cons rfl ih
 refine q d _ _ R3 (E3.grow (Ext.c7 E3.sub hd _)) (s1.trans (s2.trans s3)) aA (E3.sub.free hd) (E3.ext.h.free hd) (E3.off hd) ?_ (Kq (fO _ _ _) (Kq z (by decide)))
 unfold cut kZ
 rw[IM]
 exact fV _ (ib _ (OH xs))
theorem cP {b:Expr}{pos:Pos}{ys:List α}(ha:EV X a Γ (ak r) xs Γ1)(hb:EV X b Γ1 (ak r) ys Γ2)(hz:xs.length + ys.length<=K4):aE X (.BinOp a .Add b pos) Γ r (xs++ys) Γ2:=by
 intro σ H0 R0 H R E Q q
 refine eS (pL vL aJ aJ) (ha σ H0 R0 H R E _ λv H1 R1 E1 s1 e1=>hb σ H0 R0 H1 R1 E1 _ λu H2 R2 E2 s2 e2=>?_)
 obtain⟨p,vs,rfl,hp,pp,z⟩:=(ak r).mono s2 e1
 obtain⟨p',ws,rfl,hp',Ol,z'⟩:=e2
 refine⟨p,p',vs,ws,rfl,rfl,E2.sub _ _ hp,E2.sub _ _ hp',by rw[pp.length,Ol.length];exact hz,λd hd=>?_⟩
 exact q d _ _ R2 (E2.grow (Ext.c7 E2.sub hd _)) (s1.trans s2) aA (E2.sub.free hd) (E2.ext.h.free hd) (E2.off hd) (cY pp Ol) (by rw[IL];exact hz)
theorem nI {F:α->β->Prop}{vs:List α}{xs:List β}(h:PySem.Paired F vs xs):∀k:Nat,PySem.Paired F (Jd k vs).flatten (Jd k xs).flatten
 | 0=>.nil
 | k + 1=>by rw[JC,JC];exact cY h (nI h k)
theorem iP {b:Expr}{pos:Pos}{k:Int}(ha:EV X a Γ (ak r) xs Γ1)(hb:EV X b Γ1 af k Γ2)(h1: -(2 ^ 63)<=k)(h2:k < 2 ^ 63)(hz:xs.length * k.toNat<=K4):aE X (.BinOp a .Mult b pos) Γ r (Jd k.toNat xs).flatten Γ2:=by
 intro σ H0 R0 H R E Q q
 refine eS (pL Bm aJ aJ) (ha σ H0 R0 H R E _ λv H1 R1 E1 s1 e1=>hb σ H0 R0 H1 R1 E1 _ λu H2 R2 E2 s2 e2=>?_)
 obtain⟨p,vs,rfl,hp,pp,z⟩:=(ak r).mono s2 e1
 refine⟨p,k,vs,rfl,e2,E2.sub _ _ hp,h1,h2,by rw[pp.length];exact hz,λd hd=>?_⟩
 exact q d _ _ R2 (E2.grow (Ext.c7 E2.sub hd _)) (s1.trans s2) aA (E2.sub.free hd) (E2.ext.h.free hd) (E2.off hd) (nI pp _) (by rw[len_rep,Nat.mul_comm];exact hz)
theorem cK {p pos:Pos}(hm:X.mg "len"=none)(ha:EV X a Γ (ak r) xs Γ1)(hs:K2 [a] X.env=[(false,eval a X.env)]:=by rfl)(hg:Gl X "len":=by rfl):EV X (.Call (.Name "len" p) [a] [] pos) Γ af (xs.length:Int) Γ1:=by
 intro σ H0 R0 H R E Q q
 refine eS (dq fB hg hm LJ (aH aJ bJ hs) (by decide) (by decide) hs) (ha σ H0 R0 H R E _ λv H1 R1 E1 s1 e1=>?_)
 obtain⟨p,vs,rfl,hp,pp,z⟩:=e1
 refine⟨p,vs,rfl,.inl (bt.of (E1.sub _ _ hp)),?_⟩
 rw[pp.length]
 exact q _ H1 R1 E1 s1 rfl
end
section
variable {X:Cx}{Γ Γ1 Γ2 Γ3:Ga}{α β γ δ:Type}{N:Ga->Prop}{T:RT}
variable {r:Rep α}{e:Expr}{x:Str}{p1:Pos}{y:α}
theorem BP {Γ':Ga}(w:Wk Γ Γ')(h:N Γ'):WS X [] Γ N T:=λσ H0 R0 H R E D dn dr=>oI Av (dn σ H R Γ' (E.weak w) (ar.refl _) h)
theorem aW (h:N Γ):WS X [] Γ N T:=BP (Wk.refl Γ) h
theorem ah {st:Stmt}{rest:List Stmt}(h:W1 X st Γ (λΓ'=>WS X rest Γ' N T) T):WS X (st::rest) Γ N T:=λσ H0 R0 H R E D dn dr=>
 oI (gh rK dI) (h σ H0 R0 H R E {D with nx:=ie X rest D} (λσ' H' R' Γ' E' s' h'=>h' σ' H0 R0 H' R' E' D (λσ2 H2 R2 Γ2 E2 s2=>dn σ2 H2 R2 Γ2 E2 (s'.trans s2)) dr) dr)
theorem ao {st:Stmt}(h:W1 X st Γ N T):WS X [st] Γ N T:=λσ H0 R0 H R E D dn dr=>oI (sX rK) (h σ H0 R0 H R E D dn dr)
theorem aO (i:Nat){pos:Pos}(he:EV X e Γ r y Γ1)(h:N (Γ1.set i (.im r y)))(hN:X.N.Nodup:=by first | assumption | decide)(hi:X.N[i]?=some x:=by rfl)(hx:autoParam (Loc X.env.scope x) Oe)
 (hs:K9 e (some (.Name x p1)) pos.line X.env=pure false:=by rfl) (hf:autoParam (X.fn x=true∨X.env.scope.names.lookup x=some .local) Od):W1 X (.Assign [.Name x p1] e pos) Γ N T:=λσ H0 R0 H R E D dn dr=>
 sS (eT hN hi hx aJ hs hf) (he σ H0 R0 H R E _ λv H1 R1 E1 s1 e1=>dn _ H1 R1 _ (E1.set i e1) s1 h)
theorem cL (i:Nat){pos:Pos}{ys:List α}(he:aE X e Γ r ys Γ1)(h:N (Γ1.set i (.mu r ys)))(hN:X.N.Nodup:=by first | assumption | decide)(hi:X.N[i]?=some x:=by rfl)(hx:autoParam (Loc X.env.scope x) Oe)
 (hs:K9 e (some (.Name x p1)) pos.line X.env=pure false:=by rfl) (hf:autoParam (X.fn x=true∨X.env.scope.names.lookup x=some .local) Od):W1 X (.Assign [.Name x p1] e pos) Γ N T:=λσ H0 R0 H R E D dn dr=>
 sS (eT hN hi hx aJ hs hf) (he σ H0 R0 H R E _ λa vs H1 R1 E1 s1 ha hR h0 off p z=>dn _ H1 R1 _ (E1.rm (u:=.lst vs) (en:=.mu r ys) i ⟨a,vs,rfl,ha,hR,p⟩ h0 λj e _ q w=>off j e q w) s1 h)
theorem zp {tg:Expr}{pos:Pos}{bf:α->Ga->Ga}(he:EV X e Γ r y Γ1)(hb:BG X tg r bf)(h:N (bf y Γ1))
 (hs:Ls [tg] e pos.line X.env=pure false:=by rfl) (hw:Lu [tg] e X.env=pure none:=by rfl) (h1:(Lg [tg] X.env).map (·.2)=[Lp tg X.env]:=by rfl):W1 X (.Assign [tg] e pos) Γ N T:=λσ H0 R0 H R E D dn dr=>
 sS (iw aJ tU hs hw h1) (he σ H0 R0 H R E _ λv H1 R1 E1 s1 e1=>hb σ H0 R0 H1 R1 Γ1 v y E1 e1 _ λσ' E'=>dn σ' H1 R1 _ E' s1 h)
theorem bT {pos:Pos}{P:α->Prop}(he:EV X e Γ r y Γ1)(h:P y):W1 X (.Return (some e) pos) Γ N (bL X.K r P):=λσ H0 R0 H R E D dn dr=>
 sS (fW aJ) (he σ H0 R0 H R E _ λv H1 R1 E1 s1 e1=>dr v H1 R1 E1.ext ⟨y,e1,h⟩)
theorem rX {pos:Pos}{P:List α->Prop}{ys:List α}(he:aE X e Γ r ys Γ1)(h:P ys):W1 X (.Return (some e) pos) Γ N (iF X.K r P):=λσ H0 R0 H R E D dn dr=>
 sS (fW aJ) (he σ H0 R0 H R E _ λa vs H1 R1 E1 s1 ha hR h0 off p z=>dr _ H1 R1 E1.ext ⟨a,vs,ys,rfl,h0,ha,hR,p,z,h⟩)
theorem bF {c:Expr}{a b:List Stmt}{pos:Pos}{k:Bool}(hc:TV X c Γ k Γ1)(h1:k=true->WS X a Γ1 N T)(h2:k=false->WS X b Γ1 N T):W1 X (.If c a b pos) Γ N T:=λσ H0 R0 H R E D dn dr=>by
 refine sS (Ab jH dI dI) (hc σ H0 R0 H R E _ λH1 R1 E1 s1=>?_)
 cases k with
 | true=>exact jB (h1 rfl σ H0 R0 H1 R1 E1 D (λσ2 H2 R2 Γ2 E2 s2=>dn σ2 H2 R2 Γ2 E2 (s1.trans s2)) dr)
 | false=>exact jD (h2 rfl σ H0 R0 H1 R1 E1 D (λσ2 H2 R2 Γ2 E2 s2=>dn σ2 H2 R2 Γ2 E2 (s1.trans s2)) dr)
theorem aI (i:Nat){pos:Pos}(hN:X.N.Nodup:=by first | assumption | decide)(hi:X.N[i]?=some x:=by rfl)(hx:autoParam (Loc X.env.scope x) Oe)(hf:autoParam (X.fn x=true∨X.env.scope.names.lookup x=some .local) Od):
 BG X (.Name x pos) r (λy Γ=>Γ.set i (.im r y)):=λσ H0 R0 H R Γ v x E h Q q=>gS (eu hN hi hx hf) (q _ (E.set i h))
theorem gZ (i j:Nat){y:Str}{k:Nat}{p2 pos:Pos}{r':Rep β}(hc:X.calm=true:=by rfl)(hN:X.N.Nodup:=by first | assumption | decide)(hi:X.N[i]?=some x:=by rfl)(hx:autoParam (Loc X.env.scope x) Oe)(hf:autoParam (X.fn x=true∨X.env.scope.names.lookup x=some .local) Od)
 (hj:X.N[j]?=some y:=by rfl) (hy:autoParam (Loc X.env.scope y) Oe) (Tc:autoParam (X.fn y=true∨X.env.scope.names.lookup y=some .local) Od):
 BG X (.Tuple [.Name x p1,.Name y p2] k pos) (aP r r') (λw Γ=>(Γ.set i (.im r w.1)).set j (.im r' w.2)):=λσ H0 R0 H R Γ v w E h Q q=>by
 obtain⟨a,v1,v2,rfl,ha,e1,e2⟩:=h
 exact gS (xI hc (eh (eu hN hi hx hf) (eh (eu hN hj hy Tc) lU))) ⟨a,_,rfl,ei.of (E.sub _ _ ha),rfl,v1,[v2],rfl,v2,[],rfl,rfl,q _ ((E.set i e1).set j e2)⟩
theorem kg {F:α->β->Prop}:∀{vs:List α} {xs:List β},PySem.Paired F vs xs->∀{i:Nat} {v:α},vs[i]?=some v->∃y,xs[i]?=some y/\F v y
 | _,_,.nil,i,y,h=>by simp at h
 | _,_,.cons h t,0,y,e=>by simp at e;subst e;exact⟨_,rfl,h⟩
 | _,_,.cons h t,i + 1,y,e=>by
   obtain⟨v,e1,e2⟩:=kg t (i:=i) (v:=y) (by simpa using e)
   exact⟨v,by simpa using e1,e2⟩
end
section
variable {X:Cx}{Γ Γ1 Γ2 Γ3:Ga}{α β γ δ:Type}{N:Ga->Prop}{T:RT}
variable {x:Str}{p1:Pos}{r:Rep α}{xs:List α}{kvs:List (Int×V)}{v:V}{e:Expr}{y:α}{p2:Pos}
theorem at_of {σ:St}{i:Nat}(e:(σ[i]?).join=some v):σ[i]?=some (some v):=by
 cases es:σ[i]? with
 | none=>rw[es] at e;cases e
 | some o=>rw[es] at e;exact congrArg some e
theorem iV {c:Expr}{body:List Stmt}{pos:Pos}(I:Nat->Ga->Prop){m0:Nat}(h0:I m0 Γ)
 (Ov:∀(m:Nat) (Γ:Ga),I m Γ->∃(k:Bool) (Γ':Ga),TV X c Γ k Γ'/\(k=true->WS X body Γ' (λΓ''=>∃m',m' < m/\I m' Γ'') T)/\(k=false->N Γ'))
 (hp:LU (model X.prog X.w) X.A X.env X.xe:=by exact LU.never):W1 X (.While c body [] pos) Γ N T:=λσ H0 R0 H R E D dn dr=>by
 refine sS (p7 hp jH dI) ?_
 refine⟨λm σ' H'=>∃R' Γ',aq X.K σ' H0 R0 H' R' Γ'/\ar R R'/\I m Γ',⟨m0,R,Γ,E,ar.refl _,h0⟩,?_⟩
 rintro m σ' H' ⟨R',Γ',E',s',hI⟩
 obtain⟨k,Γ2,ht,h1,h2⟩:=Ov m Γ' hI
 refine ht σ' H0 R0 H' R' E' _ λH1 R1 E1 s1=>?_
 cases k with
 | true=>
   refine jB ⟨_,λσ2 H2 h=>h,h1 rfl σ' H0 R0 H1 R1 E1 _ (λσ3 H3 R3 Γ3 E3 s3 h3=>?_) dr⟩
   obtain⟨m',hm,Tw⟩:=h3
   exact⟨m',hm,R3,Γ3,E3,s'.trans (s1.trans s3),Tw⟩
 | false=>exact jD (dn σ' H1 R1 Γ2 E1 (s'.trans s1) (h2 rfl))
theorem bU (i:Nat){ap cp pos:Pos}(he:EV X e Γ r y Γ1)(hΓ:Γ[i]?=some (.mu r xs))(hΓ1:Γ1[i]?=some (.mu r xs))(hz:xs.length < K4)(h:N (Γ1.set i (.mu r (xs++[y]))))
 (hN:X.N[i]?=some x:=by rfl) (hv:autoParam (bZ X.env.scope x) NC)
 (hd:Nr x:=by decide) (Np:NA x:=by decide)
 (NU:K9 (.Call (.Attribute (.Name x p1) "append" ap) [e] [] cp) none pos.line X.env=pure false:=by rfl)
 (Nv:Li (.Name x p1) "append" X.env (eval (.Name x p1) X.env)=eval (.Name x p1) X.env:=by rfl)
 (NN:((Lb cp (K2 [e] X.env)).all (λx=> !x.1)&&(LH cp (Lq [] X.env)).all (λx=>x.1.isSome)
  &&decide ([e].length + ([]:List Ll).length + (if([]:List Ll).isEmpty then 0 else 1) < 30))=true:=by rfl)
 (hline:(ap.endLine==cp.line)=true:=by rfl) (hs:K2 [e] X.env=(false,eval e X.env)::K2 [] X.env:=by rfl):W1 X (.Expr (.Call (.Attribute (.Name x p1) "append" ap) [e] [] cp) pos) Γ N T:=λσ H0 R0 H R E D dn dr=>by
 obtain⟨a,vs,ea,ha,hR,pp⟩:=E.ent i _ hΓ
 refine sS (dY (iG Mr Ms Mt jq (ba hN hv hd Np) (aH aJ bJ hs) Nv NN hline hs rfl) NU) ?_
 refine⟨.ref a,at_of ea,.inl ⟨rfl,vs,bt.of ha⟩,he σ H0 R0 H R E _ λv H1 R1 E1 s1 e1=>?_⟩
 obtain⟨a',N3,NM,N8,NI,Ol⟩:=E1.ent i _ hΓ1
 rw[ea] at NM;cases NM
 refine⟨a,N3,v,rfl,rfl,N8,by rw[Ol.length];exact hz,?_⟩
 exact dn σ _ R1 _ (E1.upd (en:=.mu r (xs++[y])) hΓ1 rfl ea NI ⟨a,_,rfl,aA,NI,cY Ol (.cons e1 .nil)⟩) s1 h
theorem ka {F:α->β->Prop}{v:α}{y:β}(h:F v y):∀{vs:List α} {xs:List β} (i:Nat),PySem.Paired F vs xs->PySem.Paired F (vs.set i v) (xs.set i y)
 | _,_,_,.nil=>.nil
 | _,_,0,.cons _ t=>.cons h t
 | _,_,i + 1,.cons q t=>.cons q (ka h i t)
theorem lS (i:Nat){b:Expr}{pos:Pos}{k:Int}{j:Nat}(he:EV X e Γ r y Γ1)(hb:EV X b Γ1 af k Γ2)(hΓ1:Γ1[i]?=some (.mu r xs))(hΓ2:Γ2[i]?=some (.mu r xs))(hj:eR xs.length k=some j)(h:N (Γ2.set i (.mu r (xs.set j y))))
 (hN:X.N[i]?=some x:=by rfl) (hv:autoParam (bZ X.env.scope x) NC)
 (hd:Nr x:=by decide) (Np:NA x:=by decide)
 (ha:∀v,Lp (.Subscript (.Name x p1) b p2) X.env v=(do
  let ov ← Lk [v] (eval (.Name x p1) X.env)
  let iv ← Lk [v,ov] (eval b X.env)
  LL p2
  Lk [v,ov,iv] (LR ov iv v)
  L5 [v,ov,iv] []):=by intro _;rfl)
 (hs:Ls [.Subscript (.Name x p1) b p2] e pos.line X.env=pure false:=by rfl) (hw:Lu [.Subscript (.Name x p1) b p2] e X.env=pure none:=by rfl) (h1:(Lg [.Subscript (.Name x p1) b p2] X.env).map (·.2)=[Lp (.Subscript (.Name x p1) b p2) X.env]:=by rfl):
 W1 X (.Assign [.Subscript (.Name x p1) b p2] e pos) Γ N T:=λσ H0 R0 H R E D dn dr=>by
 refine sS (iw aJ (ng (ba hN hv hd Np) aJ set_list ha) hs hw h1) (he σ H0 R0 H R E _ λv H1 R1 E1 s1 e1=>?_)
 obtain⟨a,vs,ea,hp,hR,pp⟩:=E1.ent i _ hΓ1
 refine⟨.ref a,at_of ea,hb σ H0 R0 H1 R1 E1 _ λu H2 R2 E2 s2 e2=>?_⟩
 obtain⟨a',N3,NM,N8,NI,Ol⟩:=E2.ent i _ hΓ2
 rw[ea] at NM;cases NM
 refine⟨a,N3,k,j,rfl,e2,N8,by rw[Ol.length];exact hj,?_⟩
 exact dn σ _ R2 _ (E2.upd (en:=.mu r (xs.set j y)) hΓ2 rfl ea NI ⟨a,_,rfl,aA,NI,ka (r.mono s2 e1) j Ol⟩) (s1.trans s2) h
theorem m9 {F:α->β->Prop}{vs:List α}{xs:List β}(p:PySem.Paired F vs xs):PySem.Paired F vs.dropLast xs.dropLast:=by
 rw[List.dropLast_eq_take,List.dropLast_eq_take,p.length]
 exact fV _ p
theorem vJ (i:Nat){ap cp:Pos}(hΓ:Γ[i]?=some (.mu r xs))(hy:xs[xs.length - 1]?=some y)
 (hN:X.N[i]?=some x:=by rfl) (hv:autoParam (bZ X.env.scope x) NC)
 (hd:Nr x:=by decide) (Np:NA x:=by decide)
 (Nv:Li (.Name x p1) "pop" X.env (eval (.Name x p1) X.env)=eval (.Name x p1) X.env:=by rfl) (hline:(ap.endLine==cp.line)=true:=by rfl):
 EV X (.Call (.Attribute (.Name x p1) "pop" ap) [] [] cp) Γ r y (Γ.set i (.mu r xs.dropLast)):=by
 intro σ H0 R0 H R E Q q
 obtain⟨a,vs,ea,ha,hR,pp⟩:=E.ent i _ hΓ
 obtain⟨v,hv',hr⟩:=eM pp hy
 refine eS (Dc Mr PySem.F.slot_list_pop PySem.F.type_list_pop Cn (ba hN hv hd Np) Nv hline) ⟨.ref a,at_of ea,.inl ⟨rfl,vs,bt.of ha⟩,?_⟩
 refine⟨a,vs,v,rfl,rfl,ha,by rw[pp.length];exact hv',?_⟩
 exact q v _ R (E.upd hΓ rfl ea hR ⟨a,_,rfl,aA,hR,m9 pp⟩) (ar.refl _) hr
theorem wB (i:Nat){pos:Pos}(hΓ:Γ[i]?=some (.mu r xs))(hN:X.N[i]?=some x:=by rfl)(hv:autoParam (bZ X.env.scope x) NC)
 (hd:Nr x:=by decide) (Np:NA x:=by decide)
 (he:∀whole,LK (.Name x pos) X.env whole=(do let v ← whole;LL (Expr.Name x pos).pos;Lk [v] (Mb v)):=by intro _;rfl):TV X (.Name x pos) Γ (!xs.isEmpty) Γ:=by
 intro σ H0 R0 H R E Q q
 obtain⟨a,vs,ea,ha,hR,pp⟩:=E.ent i _ hΓ
 refine tS (mn (ba hN hv hd Np) he) ⟨.ref a,at_of ea, !xs.isEmpty,.inl ⟨vs,bt.of ha,?_⟩,q H R E (ar.refl _)⟩
 cases pp<;>rfl
theorem eA (i:Nat){p pos:Pos}(hm:X.mg "len"=none)(hΓ:Γ[i]?=some (.mu r xs))(hN:X.N[i]?=some x:=by rfl)(hv:autoParam (bZ X.env.scope x) NC)
 (hd:Nr x:=by decide) (Np:NA x:=by decide) (hg:Gl X "len":=by rfl):EV X (.Call (.Name "len" p) [.Name x p1] [] pos) Γ af (xs.length:Int) Γ:=by
 intro σ H0 R0 H R E Q q
 obtain⟨a,vs,ea,ha,hR,pp⟩:=E.ent i _ hΓ
 refine eS (dq fB hg hm LJ (aH (ba hN hv hd Np) bJ rfl) (by decide) (by decide) rfl) ⟨.ref a,at_of ea,a,vs,rfl,.inl (bt.of ha),?_⟩
 rw[pp.length]
 exact q _ H R E (ar.refl _) rfl
theorem freeze {K:MP}{σ:St}{H0 R0 H R:Hp}(E:aq K σ H0 R0 H R Γ){i:Nat}(hΓ:Γ[i]?=some (.mu r xs))(hz:xs.length<=K4):∃R' v,aq K σ H0 R0 H R' (Γ.set i (.im (ak r) xs))/\ar R R'/\(σ[i]?).join=some v/\(ak r).R K R' v xs:=by
 obtain⟨a,vs,ea,ha,hR,pp⟩:=E.ent i _ hΓ
 have h0:H0 a=none:=E.new i _ a hΓ rfl ea
 have s2:ar R (upd R a (.lst vs)):=ar.fresh hR _
 have rr:(ak r).R K (upd R a (.lst vs)) (.ref a) xs:=⟨a,vs,rfl,aA,Paired.map (λ_ _=>r.mono s2) pp,hz⟩
 have E1:aq K σ H0 R0 H R (Γ.set i .no):=E.tell hΓ trivial λb w=>by cases w
 have E2:=E1.nq ha hR h0 λj e q w=>by
  rcases set_at q with⟨rfl,rfl,_⟩ | ⟨hj,q1⟩
  ·cases w
  ·exact hj (E.ds j i e _ a q1 hΓ w ((Ent.nJ (e:=.mu r xs) rfl).mpr ea))
 have hl:i < Γ.length:=(IG.mp hΓ).1
 have E3:=E2.tell (i:=i) (e0:=.no) (en:=.im (ak r) xs) (Ji hl) ⟨_,ea,rr⟩ λb w=>by cases w
 rw[set_set] at E3
 exact⟨_,.ref a,E3,s2,ea,rr⟩
theorem WS.freeze (i:Nat){Oq:List Stmt}(hΓ:Γ[i]?=some (.mu r xs))(hz:xs.length<=K4)(h:WS X Oq (Γ.set i (.im (ak r) xs)) N T):WS X Oq Γ N T:=λσ H0 R0 H R E D dn dr=>by
 obtain⟨R',v,E',s',_,_⟩:=Fc.freeze E hΓ hz
 exact h σ H0 R0 H R' E' D (λσ2 H2 R2 Γ2 E2 s2=>dn σ2 H2 R2 Γ2 E2 (s'.trans s2)) dr
def vf:Rep (List (Int×V)):=⟨λK H v kvs=>∃a,v= .ref a/\H a=some (.dK (dh kvs)),λs ⟨a,e,q⟩=>⟨a,e,s _ _ q⟩⟩
def gM (kvs:List (Int×V))(k:Int):Bool:=kvs.any λp=>decide (p.1=k)
theorem kT (kvs:List (Int×V))(k:Int):(dk (dh kvs) (Sum.inl k:Key)).isSome=gM kvs k:=by
 rw[← gf]
 unfold dh gM
 rw[any_map]
 congr 1
 funext p
 show decide ((Sum.inl p.1:Key)=Sum.inl k)=decide (p.1=k)
 by_cases h:p.1=k
 ·rw[h];simp
 ·rw[decide_eq_false h,decide_eq_false λz=>h (Sum.inl.inj z)]
def pN (X:Cx)(e:Expr)(Γ:Ga)(k:Int):Prop:=∀(σ:St) (H0 R0 H R:Hp),aq X.K σ H0 R0 H R Γ->∀(H':Hp) (Q:VK),Q (.int k) H'->eF X e σ H' Q
theorem oO {i:Int}{j:Nat}{pos:Pos}:pN X (.Constant (.int i) j pos) Γ i:=λσ H0 R0 H R E H' Q q=>eS eU q
theorem uI (i:Nat){pos:Pos}{y:Int}(hΓ:Γ[i]?=some (.im af y))(hN:X.N[i]?=some x:=by rfl)(hv:autoParam (bZ X.env.scope x) NC)
 (hd:Nr x:=by decide) (Np:NA x:=by decide):pN X (.Name x pos) Γ y:=λσ H0 R0 H R E H' Q q=>by
 obtain⟨v,e,h⟩:=E.ent i _ hΓ
 cases h
 exact eS (ba hN hv hd Np) ⟨_,at_of e,q⟩
theorem lV (i:Nat){ke ve:Expr}{pos:Pos}{k:Int}(hk:pN X ke Γ k)(hv:PE X ve (tC v))(h:N (Γ.set i (.di [(k,v)])))
 (hN:X.N.Nodup:=by first | assumption | decide) (hi:X.N[i]?=some x:=by rfl) (hx:autoParam (Loc X.env.scope x) Oe)
 (hs:K9 (.Dict [some ke] [ve] p2) (some (.Name x p1)) pos.line X.env=pure false:=by rfl) (hf:autoParam (X.fn x=true∨X.env.scope.names.lookup x=some .local) Od):
 W1 X (.Assign [.Name x p1] (.Dict [some ke] [ve] p2) pos) Γ N T:=λσ H0 R0 H R E D dn dr=>by
 refine sS (eT hN hi hx (A5 (yg aJ hv A9) rfl rfl (by simp) (by simp)) hs hf) λp hp=>?_
 refine hk σ H0 R0 H R E _ _ ?_
 refine⟨aA,[(Sum.inl k,v)],rfl,(by show 1<=15;decide),?_⟩
 have E1:=E.grow (Ext.c7 E.sub hp (.dK (dh [(k,v)])))
 have e:upd (upd H p (.dK [])) p (.dK (j6 [] [(Sum.inl k,v)]))=upd H p (.dK (dh [(k,v)])):=by
  rw[AJ];rfl
 rw[e]
 exact dn _ _ R _ (E1.rm (u:=.dK (dh [(k,v)])) (en:=.di [(k,v)]) i ⟨p,rfl,aA,E.sub.free hp⟩ (E.ext.h.free hp) λj e _ q w=>E.off hp j e q w) (ar.refl _) h
theorem jL (i:Nat)(neg:Bool){pos:Pos}{k:Int}(hu:X.A.units + 1 < cLine)(he:EV X e Γ af k Γ)(hΓ:Γ[i]?=some (.di kvs))(hN:X.N[i]?=some x:=by rfl)(hv:autoParam (bZ X.env.scope x) NC)
 (hd:Nr x:=by decide) (Np:NA x:=by decide):
 TV X (.Compare e [if neg then .NotIn else .In] [.Name x p1] pos) Γ (if neg then !gM kvs k else gM kvs k) Γ:=by
 intro σ H0 R0 H R E Q q
 cases neg with
 | false=>
   refine tS (wU (xF hu aJ (ba hN hv hd Np)) (by with_unfolding_all rfl)) (he σ H0 R0 H R E _ λv H1 R1 E1 s1 e1=>?_)
   obtain⟨a,ea,ha,hR⟩:=E1.ent i _ hΓ
   cases e1
   refine⟨.ref a,at_of ea,a,_,rfl,eY.k (k:=Sum.inl k) ha,_,rfl,?_⟩
   rw[kT]
   exact q H1 R1 E1 s1
 | true=>
   refine tS (wU (vy hu aJ (ba hN hv hd Np)) (by with_unfolding_all rfl)) (he σ H0 R0 H R E _ λv H1 R1 E1 s1 e1=>?_)
   obtain⟨a,ea,ha,hR⟩:=E1.ent i _ hΓ
   cases e1
   refine⟨.ref a,at_of ea,a,_,rfl,eY.k (k:=Sum.inl k) ha,_,rfl,?_⟩
   rw[kT]
   exact q H1 R1 E1 s1
theorem wD (i:Nat){ke ve:Expr}{pos:Pos}{k:Int}(hu:X.A.units + 1 < cLine)(hk:EV X ke Γ af k Γ)(hv:PE X ve (tC v))(hΓ:Γ[i]?=some (.di kvs))(hn:gM kvs k=false)(hz:kvs.length < K4)(h:N (Γ.set i (.di (kvs++[(k,v)]))))
 (hN:X.N[i]?=some x:=by rfl) (hvi:autoParam (bZ X.env.scope x) NC)
 (hd:Nr x:=by decide) (Np:NA x:=by decide)
 (hs:K9 ve (some (.Subscript (.Name x p1) ke p2)) pos.line X.env=pure false:=by rfl):W1 X (.Assign [.Subscript (.Name x p1) ke p2] ve pos) Γ N T:=λσ H0 R0 H R E D dn dr=>by
 refine sS (tG hu (ba hN hvi hd Np) aJ hv hs) ?_
 obtain⟨a,ea,ha,hR⟩:=E.ent i _ hΓ
 refine⟨.ref a,at_of ea,hk σ H0 R0 H R E _ λu H1 R1 E1 s1 e1=>?_⟩
 obtain⟨a',NM,N8,NI⟩:=E1.ent i _ hΓ
 rw[ea] at NM;cases NM
 cases e1
 refine⟨a,_,rfl,oa.k (k:=Sum.inl k) N8 (by unfold dh;rw[IM];exact hz),?_⟩
 have vn:dk (dh kvs) (Sum.inl k:Key)=none:=by
  have:=kT kvs k
  rw[hn] at this
  cases q:dk (dh kvs) (Sum.inl k:Key) with
  | none=>rfl
  | some z=>rw[q] at this;cases this
 rw[yH v vn]
 have e:dh kvs++[((Sum.inl k:Key),v)]=dh (kvs++[(k,v)]):=by unfold dh;rw[Jq];rfl
 rw[e]
 exact dn σ _ R1 _ (E1.upd (en:=.di (kvs++[(k,v)])) hΓ rfl ea NI ⟨a,rfl,aA,NI⟩) s1 h
theorem BY (i:Nat){pos:Pos}{P:List (Int×V)->Prop}(hΓ:Γ[i]?=some (.di kvs))(h:P kvs)(hN:X.N[i]?=some x:=by rfl)(hv:autoParam (bZ X.env.scope x) NC)
 (hd:Nr x:=by decide) (Np:NA x:=by decide):W1 X (.Return (some (.Name x p1)) pos) Γ N (bL X.K vf P):=λσ H0 R0 H R E D dn dr=>by
 obtain⟨a,ea,ha,hR⟩:=E.ent i _ hΓ
 have h0:H0 a=none:=E.new i _ a hΓ rfl ea
 refine sS (fW (ba hN hv hd Np)) ⟨.ref a,at_of ea,dr _ H (upd R a (.dK (dh kvs))) ⟨E.ext.h,E.ext.r.trans (ar.fresh hR _),λb o qb=>?_,λb hb=>?_⟩ ⟨kvs,⟨a,rfl,aA⟩,h⟩⟩
 ·by_cases hb:b=a
  ·subst hb;rw[aA] at qb;cases qb;exact ha
  ·rw[aM hb] at qb;exact E.ext.s b o qb
 ·rw[aM (show b≠a from λe=>hb (by rw[e];exact h0))];exact E.ext.old b hb
theorem nZ {a:Expr}{p pos:Pos}(hm:X.mg "len"=none)(ha:EV X a Γ vf kvs Γ1)(hs:K2 [a] X.env=[(false,eval a X.env)]:=by rfl)(hg:Gl X "len":=by rfl):EV X (.Call (.Name "len" p) [a] [] pos) Γ af (kvs.length:Int) Γ1:=by
 intro σ H0 R0 H R E Q q
 refine eS (dq vK hg hm LJ (aH aJ bJ hs) (by decide) (by decide) hs) (ha σ H0 R0 H R E _ λv H1 R1 E1 s1 e1=>?_)
 obtain⟨p,rfl,hp⟩:=e1
 refine⟨p,_,rfl,E1.sub _ _ hp,?_⟩
 unfold dh
 rw[IM]
 exact q _ H1 R1 E1 s1 rfl
theorem dm (i:Nat)(hΓ:Γ[i]?=some (.mu r xs))(hz:xs.length<=K4)(hN:X.N[i]?=some x:=by rfl)(hv:autoParam (bZ X.env.scope x) NC)
 (hd:Nr x:=by decide) (Np:NA x:=by decide):EV X (.Name x p1) Γ (ak r) xs (Γ.set i (.im (ak r) xs)):=by
 intro σ H0 R0 H R E Q q
 obtain⟨R',v,E',s',ev,hr⟩:=Fc.freeze E hΓ hz
 exact eS (ba hN hv hd Np) ⟨v,at_of ev,q v H R' E' s' hr⟩
end
abbrev cf:=MP->List Pk->RT->Prop
def aG (S:cf)(K:MP):Sp:=λvs H Q _=>∃R ps T,ar R H/\gu K R vs ps/\S K ps T/\∀v H' R',Ext H R H' R'->T H v H' R'->Q v H'
theorem gu.length {K:MP}{R:Hp}:∀{vs:List V} {ps:List Pk},gu K R vs ps->vs.length=ps.length
 | _,_,.nil=>rfl
 | _,_,.cons _ t=>by rw[I0,I0,gu.length t]
structure ax (P:K7) (w:World) (K:MP) (mg:HZ) (base:Heap) (x:Str) (k:Nat) (sp:Sp):Prop where
 ex:∃f fd ps,fH P w K mg base dW k f fd ps sp/\mg x=some (.ref f)/\MZ K (.ref f)=true/\Binds K fd ps []
theorem ax.mono {P:K7}{w:World}{K:MP}{mg:HZ}{base:Heap}{x:Str}{j k:Nat}{sp:Sp}(c:ax P w K mg base x j sp)(h:j<=k):ax P w K mg base x k sp:=by
 obtain⟨f,fd,ps,F,a,b,c⟩:=c.ex
 exact⟨f,fd,ps,F.mono h,a,b,c⟩
section
variable {X:Cx}{Γ Γ1 Γ2 Γ3:Ga}{α β γ δ:Type}{N:Ga->Prop}{T:RT}
variable {S:cf}{x:Str}{e:Expr}{es:Ii}{p:Pos}{ps:List Pk}
theorem dS {k:Nat}{pos:Pos}{Q:VK}{σ:St}{H0 R0 H R:Hp}(C:ax X.prog X.w X.K X.mg X.base x k (aG S X.K))(hr:bI k X.A)(ha:HA X (e::es) Γ ps Γ1)(hS:S X.K ps T)(E:aq X.K σ H0 R0 H R Γ)
 (q:∀H1 R1 v H' R',aq X.K σ H0 R0 H1 R1 Γ1->ar R R1->Ext H1 R1 H' R'->T H1 v H' R'->Q v H')
 (hg:Gl X x) (Nx:(x==("__debug__":Str))=false) (he:K2 (e::es) X.env=(false,eval e X.env)::K2 es X.env) (Nw:(Lb pos (K2 es X.env)).any (·.1)=false):eF X (.Call (.Name x p) (e::es) [] pos) σ H Q:=by
 obtain⟨f,fd,pn,F,hm,hk,hb⟩:=C.ex
 refine eS (hZ F hr hg hm hk hb .nil kC js Nx he Nw) (ha σ H0 R0 H R E _ λvs H1 R1 E1 s1 p1=>?_)
 refine⟨R1,ps,T,E1.sub,by rw[Jj];exact p1,hS,λv H' R' x t=>q H1 R1 v H' R' E1 s1 x t⟩
theorem bc {k:Nat}{pos:Pos}{r:Rep α}{y:α}(C:ax X.prog X.w X.K X.mg X.base x k (aG S X.K))(hr:bI k X.A)(ha:HA X (e::es) Γ ps Γ1)(hS:S X.K ps (bL X.K r (· =y)))
 (hg:Gl X x:=by rfl) (Nx:Nr x:=by decide) (he:K2 (e::es) X.env=(false,eval e X.env)::K2 es X.env:=by rfl) (Nw:(Lb pos (K2 es X.env)).any (·.1)=false:=by rfl):EV X (.Call (.Name x p) (e::es) [] pos) Γ r y Γ1:=λσ H0 R0 H R E Q q=>
 dS C hr ha hS E (λH1 R1 v H' R' E1 s1 xx t=>by
  obtain⟨z,e1,rfl⟩:=t
  exact q v H' R' (E1.grow xx) (s1.trans xx.r) e1) hg Nx he Nw
theorem fD {k:Nat}{pos:Pos}{r:Rep α}{ys:List α}(C:ax X.prog X.w X.K X.mg X.base x k (aG S X.K))(hr:bI k X.A)(ha:HA X (e::es) Γ ps Γ1)(hS:S X.K ps (iF X.K r (· =ys)))
 (hg:Gl X x:=by rfl) (Nx:Nr x:=by decide) (he:K2 (e::es) X.env=(false,eval e X.env)::K2 es X.env:=by rfl) (Nw:(Lb pos (K2 es X.env)).any (·.1)=false:=by rfl):aE X (.Call (.Name x p) (e::es) [] pos) Γ r ys Γ1:=λσ H0 R0 H R E Q q=>
 dS C hr ha hS E (λH1 R1 v H' R' E1 s1 xx t=>by
  obtain⟨a,vs,zs,rfl,h0,h1,h2,p,z,rfl⟩:=t
  exact q a vs H' R' (E1.grow xx) (s1.trans xx.r) h1 h2 (E1.ext.h.free h0) (E1.off h0) p z) hg Nx he Nw
end
def dP (ps:List Pk)(n:Nat):Ga:=ps.map (λp=>Ent.im p.r p.x)++Jd (n - ps.length) .no
theorem d9 {K:MP}{R H:Hp}{vs:List V}{ps:List Pk}{N:Ic}(s:ar R H)(p:gu K R vs ps)(hl:ps.length<=N.length):aq K (L2.start N vs) H R H R (dP ps N.length):=by
 have NB:∀(i:Nat) (e:Ent) (o:Option V),(dP ps N.length)[i]?=some e->e.fp o=[]:=λi e o q=>by
  unfold dP at q
  rcases IS.mp (IQ q) with z | z
  ·obtain⟨p,_,rfl⟩:=Jf.mp z;rfl
  ·obtain⟨_,rfl⟩:=J3.mp z;rfl
 refine⟨Ext.refl s,λi e q=>?_,λi e a q w=>absurd w (by rw[NB i e _ q];exact Jy),λi j e e' a q _ w=>absurd w (by rw[NB i e _ q];exact Jy),?_⟩
 ·have hp:=p.length
  unfold dP at q
  unfold L2.start
  by_cases hi:i < ps.length
  ·rw[Jn (by simpa using hi),Je] at q
   rw[Jn (by simpa[hp] using hi),Je]
   have key:∀{vs:List V} {ps:List Pk},gu K R vs ps->∀(i:Nat) (p:Pk),ps[i]?=some p->∃v,vs[i]?=some v/\p.r.R K R v p.x:=by
    intro vs ps h
    induction h with
    | nil=>intro i p e;simp at e
    | cons a b ih=>
      intro i p e
      cases i with
      | zero=>simp at e;subst e;exact⟨_,rfl,a⟩
      | succ i=>simpa using ih i p (by simpa using e)
   cases e1:ps[i]? with
   | none=>rw[e1] at q;cases q
   | some p1=>
     rw[e1] at q
     cases q
     obtain⟨v,h1,h2⟩:=key p i p1 e1
     rw[h1]
     exact⟨v,rfl,h2⟩
  ·rw[Jg (by simpa using hi),JE] at q
   split at q
   ·cases q;trivial
   ·cases q
 ·unfold dP L2.start
  rw[IL,IL,IM,IM,JB,JB,p.length]
section
variable {P:K7}{w:World}{K:MP}{mg:HZ}{base:Heap}
theorem bM {S:cf}{x qual:Str}{st:Stmt}{f:Addr}{fd:Ld}{N ps:Ic}{k:Nat}(F:bC K x qual st f fd)(Sc:aF N ps (ag st))(hm:mg x=some (.ref f))(hb:Binds K fd ps [])(len:∀qs T,S K qs T->qs.length=ps.length)
 (NH:∀(Nl:Value) (A:La) (outer:List Env) (s:K3) (H:Hp) (E:XK) (qs:List Pk) (T:RT),bI k (A.deeper (KP qual (ag st) s.heap.objs.size f Nl))->S K qs T->
  WS (bQ dW P w K mg base N qual (ag st) f Nl A outer s H E).cO (bG st) (dP qs N.length) (λ_=>False) T):ax P w K mg base x (k + 1) (aG S K):=by
 refine⟨f,fd,ps,?_,hm,F.kp,hb⟩
 refine F.ok Sc (λvs H Q E h=>?_) (λNl A outer s H vs Q E hr h=>?_)
 ·obtain⟨R,qs,T,_,p,hS,_⟩:=h
  rw[p.length];exact len qs T hS
 ·obtain⟨R,qs,T,sR,p,hS,q⟩:=h
  have hl:qs.length<=N.length:=by
   rw[len qs T hS]
   have:=congrArg List.length Sc.pre
   rw[Jm] at this
   omega
  exact⟨_,dI,NH Nl A outer s H E qs T hr hS (L2.start N vs) H R H R (d9 sR p hl) {nx:=λ_ H'=>Q .Nu H',rt:=Q} (λ_ _ _ _ _ _ f=>f.elim) λv H' R' xx t=>q v H' R' xx t⟩
end
section
variable {X:Cx}{Γ Γ1 Γ2 Γ3:Ga}{α β γ δ:Type}{N:Ga->Prop}{T:RT}
variable {a:Expr}{p:Pos}
theorem qV {bs:List Bool}{us:Ih}(r:Vals (bs.map V.bl) us){j:Nat}{v:Value}(h:us.toArray[j]?=some v):v= .bool (bs.getD j true):=by
 induction bs generalizing us j with
 | nil=>cases r;simp at h
 | cons b r' ih=>
   cases r with
   | cons h1 t=>
     cases j with
     | zero=>simp at h;rw[← h];exact h1
     | succ j=>exact ih t (by simpa using h)
theorem all_range (bs:List Bool):((JH bs.length).all λj=>bs.getD j true)=bs.all id:=by
 rw[Ip,JK,JK]
 constructor
 ·intro h b hb
  obtain⟨j,hj,rfl⟩:=JM.mp hb
  have:=h j (JG.mpr hj)
  simpa[IJ,IF hj] using this
 ·intro h j hj
  have hj:=JG.mp hj
  simpa[IJ,IF hj] using h _ (Jb hj)
theorem any_range (bs:List Bool):((JH bs.length).any λj=>bs.getD j true)=bs.any id:=by
 rw[Ip,JT,JT]
 constructor
 ·rintro⟨j,hj,h⟩
  have hj:=JG.mp hj
  exact⟨_,Jb hj,by simpa[IJ,IF hj] using h⟩
 ·rintro⟨b,hb,h⟩
  obtain⟨j,hj,rfl⟩:=JM.mp hb
  exact⟨j,JG.mpr hj,by simpa[IJ,IF hj] using h⟩
theorem yw (hc:X.calm=true):dH X (.builtin "all") (λxs H Q=>∃(p:Addr) (bs:List Bool),xs=[.ref p]/\bt X.K H p (bs.map V.bl)/\Q (.bl (bs.all id)) H):=by
 intro Nh s σ H xs us Q I r h
 obtain⟨p,bs,rfl,hq,q⟩:=h
 obtain⟨u,rfl,rx⟩:=vals1 r
 cases rx
 obtain⟨Nj,r',pl,hz⟩:=I.list hq
 have NO:p≠s.heap.objs.size:=λe=>by obtain⟨o,ho,_⟩:=pl.isList;exact absurd (Mw ho) (by rw[e];exact Ku _)
 refine call_all_walk (LP pl.isList ?_)
 refine⟨s.heap.objs.size,_,[s.heap.objs.size],Nj.toArray.size,_,_,λj=>bs.getD j true,rfl,Walks.list (A:=X.A.in1) (show X.A.in1.handled=none from I.ok.hd hc) s.heap.objs.size p NO Nj.toArray,?_,λj v s Q E hv hQ=>?_,λh' tk hk=>?_⟩
 ·refine⟨⟨_,My _ rfl,rfl,rfl⟩,?_⟩
  obtain⟨o,ho,c,n,d⟩:=pl.isList
  exact⟨o,Mx _ ho,c,n,d⟩
 ·rw[qV r' hv];exact Le hQ
 ·have e:Nj.toArray.size=bs.length:=by rw[Jc,← r'.length,IM]
  rw[e,all_range]
  exact⟨.bl _,H,I.kept λb o e=>hk b o (λz=>absurd (Mw e) (by rw[II.mp z];exact Ku _)) (Mx _ e),rfl,q⟩
theorem xX (hc:X.calm=true):dH X (.builtin "any") (λxs H Q=>∃(p:Addr) (bs:List Bool),xs=[.ref p]/\bt X.K H p (bs.map V.bl)/\Q (.bl (bs.any id)) H):=by
 intro Nh s σ H xs us Q I r h
 obtain⟨p,bs,rfl,hq,q⟩:=h
 obtain⟨u,rfl,rx⟩:=vals1 r
 cases rx
 obtain⟨Nj,r',pl,hz⟩:=I.list hq
 have NO:p≠s.heap.objs.size:=λe=>by obtain⟨o,ho,_⟩:=pl.isList;exact absurd (Mw ho) (by rw[e];exact Ku _)
 refine call_any_walk (LP pl.isList ?_)
 refine⟨s.heap.objs.size,_,[s.heap.objs.size],Nj.toArray.size,_,_,λj=>bs.getD j true,rfl,Walks.list (A:=X.A.in1) (show X.A.in1.handled=none from I.ok.hd hc) s.heap.objs.size p NO Nj.toArray,?_,λj v s Q E hv hQ=>?_,λh' tk hk=>?_⟩
 ·refine⟨⟨_,My _ rfl,rfl,rfl⟩,?_⟩
  obtain⟨o,ho,c,n,d⟩:=pl.isList
  exact⟨o,Mx _ ho,c,n,d⟩
 ·rw[qV r' hv];exact Le hQ
 ·have e:Nj.toArray.size=bs.length:=by rw[Jc,← r'.length,IM]
  rw[e,any_range]
  exact⟨.bl _,H,I.kept λb o e=>hk b o (λz=>absurd (Mw e) (by rw[II.mp z];exact Ku _)) (Mx _ e),rfl,q⟩
theorem mK {K:MP}{R:Hp}:∀{vs:List V} {xs:List Bool},PySem.Paired (aX.R K R) vs xs->vs=xs.map V.bl
 | _,_,.nil=>rfl
 | _,_,.cons h t=>by rw[Js,← mK t];exact congrArg (· ::_) h
theorem pJ {x:Str}{id:String}{r:List V->Hp->VK->Prop}{pos:Pos}{ra:Rep α}{rb:Rep β}{y:α}{z:β}(hc:dH X (.builtin id) r)(hm:X.mg x=none)(hv:Lo x=some (.builtin id))(ha:EV X a Γ ra y Γ1)
 (h:∀(R H:Hp) v Q,ar R H->ra.R X.K R v y->(∀w,rb.R X.K R w z->Q w H)->r [v] H Q) (hs:K2 [a] X.env=[(false,eval a X.env)]:=by rfl) (hg:Gl X x:=by rfl) (hn:x≠"__name__":=by decide) (Nx:Nr x:=by decide):
 EV X (.Call (.Name x p) [a] [] pos) Γ rb z Γ1:=by
 intro σ H0 R0 H R E Q q
 exact eS (dq hc hg hm hv (aH aJ bJ hs) hn Nx hs) (ha σ H0 R0 H R E _ λv H1 R1 E1 s1 e1=>h R1 H1 v _ E1.sub e1 λw hw=>q w H1 R1 E1 s1 hw)
theorem fc {pos:Pos}{bs:List Bool}(hm:X.mg "all"=none)(ha:EV X a Γ (ak aX) bs Γ1)(hs:K2 [a] X.env=[(false,eval a X.env)]:=by rfl)(hc:X.calm=true:=by rfl)(hg:Gl X "all":=by rfl):EV X (.Call (.Name "all" p) [a] [] pos) Γ aX (bs.all id) Γ1:=
 pJ (yw hc) hm boot_all ha (λR H v Q s ⟨p,vs,e,hp,pp,_⟩ q=>⟨p,bs,by rw[e],by rw[← mK pp];exact bt.of (s _ _ hp),q _ rfl⟩) hs hg
theorem DV {pos:Pos}{bs:List Bool}(hm:X.mg "any"=none)(ha:EV X a Γ (ak aX) bs Γ1)(hs:K2 [a] X.env=[(false,eval a X.env)]:=by rfl)(hc:X.calm=true:=by rfl)(hg:Gl X "any":=by rfl):EV X (.Call (.Name "any" p) [a] [] pos) Γ aX (bs.any id) Γ1:=
 pJ (xX hc) hm boot_any ha (λR H v Q s ⟨p,vs,e,hp,pp,_⟩ q=>⟨p,bs,by rw[e],by rw[← mK pp];exact bt.of (s _ _ hp),q _ rfl⟩) hs hg
theorem tI {pos:Pos}{b:Bool}(hm:X.mg "int"=none)(ha:EV X a Γ aX b Γ1)(hs:K2 [a] X.env=[(false,eval a X.env)]:=by rfl)(hg:Gl X "int":=by rfl):EV X (.Call (.Name "int" p) [a] [] pos) Γ af (if b then 1 else 0) Γ1:=by
 intro σ H0 R0 H R E Q q
 exact eS (gx wx hg hm PyProof.Rows.boot_int (aH aJ bJ hs) (by decide) (by decide) hs) (ha σ H0 R0 H R E _ λv H1 R1 E1 s1 e1=>.inr ⟨b,by rw[show v=V.bl b from e1],q _ H1 R1 E1 s1 rfl⟩)
theorem f9 {pos:Pos}{r:Rep α}{xs:List α}(hm:X.mg "list"=none)(ha:EV X a Γ (ak r) xs Γ1)(hs:K2 [a] X.env=[(false,eval a X.env)]:=by rfl)(hg:Gl X "list":=by rfl):aE X (.Call (.Name "list" p) [a] [] pos) Γ r xs Γ1:=by
 intro σ H0 R0 H R E Q q
 refine eS (gx kP hg hm KQ (aH aJ bJ hs) (by decide) (by decide) hs) (ha σ H0 R0 H R E _ λv H1 R1 E1 s1 e1=>?_)
 obtain⟨p,vs,rfl,hp,pp,z⟩:=e1
 exact⟨p,vs,rfl,.inl (bt.of (E1.sub _ _ hp)),λl hl=>q l vs _ R1 (E1.grow (Ext.c7 E1.sub hl _)) s1 aA (E1.sub.free hl) (E1.ext.h.free hl) (E1.off hl) pp z⟩
theorem xi (hc:X.calm=true):dH X (.builtin "max") (λxs H Q=>∃(p:Addr) (ns:Ib),xs=[.ref p]/\bt X.K H p (ns.map V.int)/\ns≠[]/\∀M,M∈ns->(∀a∈ns,a<=M)->Q (.int M) H):=by
 intro Nh s σ H xs us Q I r h
 obtain⟨p,ns,rfl,hq,NO,q⟩:=h
 obtain⟨u,rfl,rx⟩:=vals1 r
 cases rx
 obtain⟨Nj,r',pl,hz⟩:=I.list hq
 have hi:=intsAre_of r'
 have NO:0 < ns.length:=Kl.mpr NO
 have hl:=pl.isList
 obtain⟨xs,e⟩:=hi.allInts.items
 have QX:ns=xs.toList.map (·.1):=by rw[← hi.numsOf,← nums_intItems,← e]
 have hsz:0 < xs.size:=by
  have h3:=NO;rw[QX,IM,Ik] at h3;exact h3
 rw[e] at hl
 refine max_intList (I.ok.hd hc) hl hsz λv h' tk hv hk=>?_
 obtain⟨t,rfl⟩:=intItems_at hv
 obtain⟨h1,h2⟩:=argBest_gt (numAt xs) (xs.size - 1)
 refine⟨.int _,H,I.kept hk,⟨t,rfl⟩,q _ ?_ λa ha=>?_⟩
 ·rw[QX,numAt_eq];exact getD_mem (by rw[IM,Ik];omega)
 ·rw[QX] at ha
  obtain⟨j,hj,rfl⟩:=mem_getD ha
  rw[IM,Ik] at hj
  rw[← numAt_eq];exact h2 j (by omega)
def least:Ib->Int
 | []=>0
 | [x]=>x
 | x::y::r=>min x (least (y::r))
def most:Ib->Int
 | []=>0
 | [x]=>x
 | x::y::r=>max x (most (y::r))
theorem lI:∀{ns:Ib} {M:Int},M∈ns->(∀a∈ns,a<=M)->most ns=M:=by
 have key:∀(ns:Ib),ns≠[]->most ns∈ns/\∀a∈ns,a<=most ns:=by
  intro ns
  induction ns with
  | nil=>intro h;exact absurd rfl h
  | cons x r ih=>
    intro _
    cases r with
    | nil=>simp[most]
    | cons y r=>
      obtain⟨h1,h2⟩:=ih (by simp)
      show max x (most (y::r))∈_/\_
      refine⟨?_,λa ha=>?_⟩
      ·rcases Int.le_total x (most (y::r)) with h | h
       ·rw[Int.max_eq_right h];exact IK _ h1
       ·rw[Int.max_eq_left h];exact IT
      ·show a<=max x (most (y::r))
       rcases IY.mp ha with rfl | ha
       ·exact Int.le_max_left _ _
       ·exact IA (h2 a ha) (Int.le_max_right _ _)
 intro ns M h1 h2
 obtain⟨h3,h4⟩:=key ns (λe=>by rw[e] at h1;cases h1)
 exact Int.le_antisymm (h2 _ h3) (h4 M h1)
theorem AH {pos:Pos}{ns:Ib}(hm:X.mg "max"=none)(ha:EV X a Γ (ak af) ns Γ1)(NO:ns≠[])(hs:K2 [a] X.env=[(false,eval a X.env)]:=by rfl)(hc:X.calm=true:=by rfl)(hg:Gl X "max":=by rfl):EV X (.Call (.Name "max" p) [a] [] pos) Γ af (most ns) Γ1:=
 pJ (xi hc) hm PyProof.Rows.boot_max ha (λR H v Q s ⟨p,vs,e,hp,pp,_⟩ q=>⟨p,ns,by rw[e],by rw[← eD pp];exact bt.of (s _ _ hp),NO,λM h1 h2=>by rw[← lI h1 h2];exact q _ rfl⟩) hs hg
theorem Bc {b:Expr}{pos:Pos}{x y:Int}(hm:X.mg "min"=none)(ha:HA X [a,b] Γ [⟨af,x⟩,⟨af,y⟩] Γ1)(hs:K2 [a,b] X.env=(false,eval a X.env)::K2 [b] X.env:=by rfl)(hc:X.calm=true:=by rfl)(hg:Gl X "min":=by rfl)(Nw:(Lb pos (K2 [b] X.env)).any (·.1)=false:=by rfl):EV X (.Call (.Name "min" p) [a,b] [] pos) Γ af (if y < x then y else x) Γ1:=by
 intro σ H0 R0 H R E Q q
 refine eS (dq (xk hc) hg hm PyProof.Rows.boot_min js (by decide) (by decide) hs Nw) (ha σ H0 R0 H R E _ λvs H1 R1 E1 s1 p1=>?_)
 cases p1 with
 | cons a1 t=>cases t with
   | cons a2 t2=>cases t2;cases a1;cases a2;exact⟨x,y,rfl,q _ H1 R1 E1 s1 rfl⟩
theorem qH:dH X (.builtin "sorted") (λxs H Q=>∃(p:Addr) (ns:Ib),xs=[.ref p]/\bt X.K H p (ns.map V.int)/\ns.length < 64/\∀ms:Ib,ms.Perm ns->ms.Pairwise (· <=·)->∀d,H d=none->Q (.ref d) (upd H d (.lst (ms.map V.int)))):=by
 intro Nh s σ H xs us Q I r h
 obtain⟨p,ns,rfl,hq,h64,q⟩:=h
 obtain⟨u,rfl,rx⟩:=vals1 r
 cases rx
 obtain⟨Nj,r',pl,hz⟩:=I.list hq
 have hl:Nj.length=ns.length:=by rw[← r'.length,IM]
 refine sorted_ints pl.isList (intsAre_of r') (by rw[hl];exact h64) λout ms hi hp hs=>?_
 obtain⟨e,he⟩:=sortedAll_at s.heap Nj out
 have hn:H (s.heap.objs.size + 1)=none:=I.Nm.fresh (Kv _)
 have hml:ms.length=ns.length:=hp.length_eq
 exact⟨.ref _,_,I.laid (a:=s.heap.objs.size + 1) (o:=.lst (ms.map V.int)) (t':=s.toks) (λb o=>sortedAll_old) (Kv _) ⟨by rw[IM,hml];exact Kq (KC h64) (by decide),out.toList,e,lq hi,by rw[he]⟩,rfl,q ms hp hs _ hn⟩
theorem uo:∀{xs ys:Ib},xs.Perm ys->xs.Pairwise (· <=·)->ys.Pairwise (· <=·)->xs=ys:=by
 intro xs ys p h1 h2
 exact List.Perm.eq_of_pairwise (le:=λa b=>decide (a<=b)) (by intro a b _ _ h h';simp at h h';omega) (h1.imp λh=>by simpa using h) (h2.imp λh=>by simpa using h) p
def sortI (xs:Ib):Ib:=xs.mergeSort (λa b=>decide (a<=b))
theorem yc {xs ms:Ib}(p:ms.Perm xs)(h:ms.Pairwise (· <=·)):ms=sortI xs:=by
 refine uo (p.trans (List.mergeSort_perm xs _).symm) h ?_
 have:=List.pairwise_mergeSort (le:=λ(a b:Int)=>decide (a<=b)) (by intro a b c;simp;omega) (by intro a b;simp;omega) xs
 exact this.imp λh=>by simpa using h
theorem mY {pos:Pos}{ns:Ib}(hm:X.mg "sorted"=none)(ha:EV X a Γ (ak af) ns Γ1)(h64:ns.length < 64)(hs:K2 [a] X.env=[(false,eval a X.env)]:=by rfl)(hg:Gl X "sorted":=by rfl):aE X (.Call (.Name "sorted" p) [a] [] pos) Γ af (sortI ns) Γ1:=by
 intro σ H0 R0 H R E Q q
 refine eS (dq qH hg hm PyProof.Rows.boot_sorted (aH aJ bJ hs) (by decide) (by decide) hs) (ha σ H0 R0 H R E _ λv H1 R1 E1 s1 e1=>?_)
 obtain⟨p,vs,rfl,hp,pp,z⟩:=e1
 refine⟨p,ns,rfl,by rw[← eD pp];exact bt.of (E1.sub _ _ hp),h64,λms hpm hs d hd=>?_⟩
 have OH:∀ys:Ib,PySem.Paired (af.R X.K R1) (ys.map V.int) ys:=λys=>by
  induction ys with
  | nil=>exact .nil
  | cons y r ih=>exact .cons rfl ih
 rw[yc hpm hs]
 exact q d _ _ R1 (E1.grow (Ext.c7 E1.sub hd _)) s1 aA (E1.sub.free hd) (E1.ext.h.free hd) (E1.off hd) (OH _) (by
  have:(sortI ns).length=ns.length:=by unfold sortI;exact List.length_mergeSort ns
  rw[this];exact z)
end
def Src (K:MP)(J:It)(R1:Hp){α:Type}(r:Rep α)(xs:List α):Prop:=
 ∀(H' R':Hp),ar R1 R'->ar R' H'->∀i:Nat,(∀x,xs[i]?=some x->J.go i H'/\∀v H2,J.Q8 i H' v H2->∃R2,Ext H' R' H2 R2/\r.R K R2 v x)/\(xs.length<=i->J.stop i H')
section
variable {X:Cx}{Γ Γ1 Γ2 Γ3:Ga}{α β γ δ:Type}{N:Ga->Prop}{T:RT}
variable {tg:Expr}{xs:List α}{iter:Expr}{bf:α->Ga->Ga}{elt:Expr}{ifs:Ii}{scope:Scope}{cl:List (Str×Addr)}{fr:Ic}{ix:List Nat}{ra:Rep α}{rb:Rep β}{p:α->Bool}{f:α->β}
def IV (X:Cx)(tg iter:Expr)(Γ:Ga){α:Type}(r:Rep α)(xs:List α)(Γ1:Ga):Prop:=
 ∃wi,PI X tg iter wi/\∀(σ:St) (H0 R0 H R:Hp),aq X.K σ H0 R0 H R Γ->∀Rq:It->Hp->Prop,(∀J H1 R1,aq X.K σ H0 R0 H1 R1 Γ1->ar R R1->xs.length<=K4->Src X.K J R1 r xs->Rq J H1)->wi σ H Rq
theorem aT {r:Rep α}(h:EV X iter Γ (ak r) xs Γ1):IV X tg iter Γ r xs Γ1:=by
 refine⟨_,lM aJ,λσ H0 R0 H R E Rq q=>h σ H0 R0 H R E _ λv H1 R1 E1 s1 e1=>?_⟩
 obtain⟨a,vs,rfl,ha,pp,z⟩:=e1
 refine⟨a,rfl,⟨vs,bt.of (E1.sub _ _ ha)⟩,q _ H1 R1 E1 s1 z λH' R' sR sH i=>⟨λx hx=>?_,λhi=>?_⟩⟩
 ·have hq:bt X.K H' a vs:=bt.of (sH _ _ (sR _ _ ha))
  obtain⟨v,hv,hr⟩:=eM pp hx
  refine⟨⟨vs,v,hq,hv⟩,λv' H2 hy=>?_⟩
  obtain⟨rfl,hy⟩:=hy
  have:=hy vs hq
  rw[hv] at this
  cases this
  exact⟨R',Ext.refl sH,r.mono sR hr⟩
 ·exact⟨vs,bt.of (sH _ _ (sR _ _ ha)),by rw[pp.length];exact hi⟩
def ups (lo:Int)(n:Nat):Ib:=(JH n).map λ(k:Nat)=>lo + (k:Int)
theorem aC (lo:Int)(n:Nat):(ups lo n).length=n:=by unfold ups;rw[IM,List.length_range]
theorem ip {lo:Int}{n i:Nat}{x:Int}(h:(ups lo n)[i]?=some x):i < n/\x=lo + (i:Int):=by
 have hi:i < n:=by have:=(IG.mp h).1;rwa [aC] at this
 refine⟨hi,?_⟩
 unfold ups at h
 rw[Je,JZ hi] at h
 exact(Option.some.inj h).symm
theorem tM {K:MP}{R1:Hp}(lo:Int)(n:Nat):Src K (wj lo n) R1 af (ups lo n):=λH' R' sR sH i=>⟨λx hx=>by
 obtain⟨h1,rfl⟩:=ip hx
 refine⟨h1,λv H2 hy=>?_⟩
 obtain⟨rfl,rfl⟩:=hy
 exact⟨R',Ext.refl sH,rfl⟩,λhi=>by rw[aC] at hi;exact hi⟩
theorem d5 {a:Expr}{p1 p2:Pos}{n:Int}(hm:X.mg "range"=none)(ha:EV X a Γ af n Γ1)(hn: -(2 ^ 62)<=n/\n<=1000000)(Rt:K2 [a] X.env=[(false,eval a X.env)]:=by rfl)(hg:Gl X "range":=by rfl):IV X tg (.Call (.Name "range" p1) [a] [] p2) Γ af (ups 0 n.toNat) Γ1:=by
 refine⟨_,wd hg hm (aH aJ bJ Rt) Rt,λσ H0 R0 H R E Rq q=>ha σ H0 R0 H R E _ λv H1 R1 E1 s1 e1=>?_⟩
 exact⟨n,by rw[show v=V.int n from e1],hn.1,by omega,q _ H1 R1 E1 s1 (by rw[aC];exact Kq (show n.toNat<=1000000 by omega) (by decide)) (tM 0 n.toNat)⟩
theorem o5 {a b:Expr}{p1 p2:Pos}{m n:Int}(hm:X.mg "range"=none)(ha:EV X a Γ af m Γ1)(hb:EV X b Γ1 af n Γ2)(hn: -1000000<=m/\m<=1000000/\ -1000000<=n/\n<=1000000)
 (Rt:K2 [a,b] X.env=[(false,eval a X.env),(false,eval b X.env)]:=by rfl) (Pc:K2 [b] X.env=[(false,eval b X.env)]:=by rfl) (hg:Gl X "range":=by rfl):IV X tg (.Call (.Name "range" p1) [a,b] [] p2) Γ af (ups m (n - m).toNat) Γ2:=by
 refine⟨_,vE hg hm (aH aJ (aH aJ bJ Pc) (by rw[Rt,Pc])) Rt Pc,λσ H0 R0 H R E Rq q=>ha σ H0 R0 H R E _ λv H1 R1 E1 s1 e1=>hb σ H0 R0 H1 R1 E1 _ λu H2 R2 E2 s2 e2=>?_⟩
 exact⟨m,n,by rw[show v=V.int m from e1,show u=V.int n from e2],⟨by omega,by omega,by omega,by omega⟩,q _ H2 R2 E2 (s1.trans s2) (by rw[aC];exact Kq (show(n - m).toNat<=2000000 by omega) (by decide)) (tM m (n - m).toNat)⟩
theorem cB {body:List Stmt}{pos:Pos}{r:Rep α}(I:Nat->Ga->Prop)(hit:IV X tg iter Γ r xs Γ1)(hb:BG X tg r bf)(h0:I 0 Γ1)
 (Ov:∀(i:Nat) (x:α) (Γ:Ga),xs[i]?=some x->I i Γ->WS X body (bf x Γ) (I (i + 1)) T) (RD:∀Γ:Ga,I xs.length Γ->N Γ)
 (hc:X.calm=true:=by rfl) (hp:LU (model X.prog X.w) X.A X.env X.xe:=by exact LU.never) (hs:∀x,Lc iter X.env x=pure x:=by intro _;rfl):W1 X (.For tg iter body [] pos) Γ N T:=λσ H0 R0 H R E D dn dr=>by
 obtain⟨wi,hi,hit⟩:=hit
 refine sS (qi hp hc hi tU dI hs) (hit σ H0 R0 H R E _ λJ H1 R1 E1 s1 hz src=>?_)
 refine⟨λi m σ' H'=>m=xs.length - i/\i<=xs.length/\∃R' Γ',aq X.K σ' H0 R0 H' R' Γ'/\ar R1 R'/\I i Γ',⟨_,rfl,Ky _,R1,Γ1,E1,ar.refl _,h0⟩,?_⟩
 rintro i m σ' H' ⟨rfl,hle,R',Γ',E',s',hI⟩
 obtain⟨Qu,Oa⟩:=src H' R' s' E'.sub i
 by_cases NJ:i < xs.length
 ·obtain⟨go,yl⟩:=Qu _ (IF NJ)
  refine .inr ⟨go,λσ' H'=>i + 1<=xs.length/\∃R' Γ',aq X.K σ' H0 R0 H' R' Γ'/\ar R1 R'/\I (i + 1) Γ',λσ2 H2 h=>⟨xs.length - (i + 1),by omega,rfl,h.1,h.2⟩,λv H2 hy=>?_⟩
  obtain⟨R2,x2,hr⟩:=yl v H2 hy
  refine hb σ' H0 R0 H2 R2 Γ' v _ (E'.grow x2) hr _ λσ2 E2=>?_
  exact Ov i _ Γ' (IF NJ) hI σ2 H0 R0 H2 R2 E2 _ (λσ3 H3 R3 Γ3 E3 s3 h3=>⟨NJ,R3,Γ3,E3,s'.trans (x2.r.trans s3),h3⟩) dr
 ·have e:i=xs.length:=by omega
  subst e
  exact .inl ⟨Oa (Kp _),dn σ' H' R' Γ' E' (s1.trans s') (RD Γ' hI)⟩
def uQ:Option Ent->Ent
 | some (.im r x)=>.im r x
 | _=>.no
def cE (own:Ic)(ix:List Nat)(Γ:Ga):Ga:=Jd own.length .no++ix.map λi=>uQ Γ[i]?
theorem mq {K:MP}{σ:St}{H0 R0 H R:Hp}(E:aq K σ H0 R0 H R Γ)(own:Ic)(ix:List Nat):aq K (fL own ix σ) H R H R (cE own ix Γ):=by
 have NB:∀(i:Nat) (e:Ent) (o:Option V),(cE own ix Γ)[i]?=some e->e.fp o=[]:=λi e o q=>by
  unfold cE at q
  rcases IS.mp (IQ q) with z | z
  ·obtain⟨_,rfl⟩:=J3.mp z;rfl
  ·obtain⟨k,_,rfl⟩:=Jf.mp z
   unfold uQ
   split<;>rfl
 refine⟨Ext.refl E.sub,λi e q=>?_,λi e a q w=>absurd w (by rw[NB i e _ q];exact Jy),λi j e e' a q _ w=>absurd w (by rw[NB i e _ q];exact Jy),by unfold cE fL;simp⟩
 unfold cE at q
 unfold fL
 by_cases hi:i < own.length
 ·rw[Jn (by simpa using hi),JE] at q
  rw[if_pos hi] at q
  cases q;trivial
 ·rw[Jg (by simpa using hi),JB,Je] at q
  rw[Jg (by simpa using hi),JB,Je]
  cases ek:ix[i - own.length]? with
  | none=>rw[ek] at q;cases q
  | some k=>
    rw[ek] at q
    have q':uQ Γ[k]?=e:=Option.some.inj q
    subst q'
    show(uQ Γ[k]?).ok K H R (σ[k]?).join
    cases eg:Γ[k]? with
    | none=>trivial
    | some e=>
      cases e with
      | im r x=>exact E.ent k _ eg
      | no=>trivial
      | mu r x=>trivial
      | di x=>trivial
      | ob x=>trivial
theorem kU {own:Ic}{J:It}{σ:St}{H0 R0 H1 R1:Hp}{Q:VK}(E1:aq X.K σ H0 R0 H1 R1 Γ1)(src:Src X.K J R1 ra xs)(hz:xs.length<=K4)
 (hb:∀(C:Addr) (s:K3) (H:Hp) (ex:Ig),BG (aL X scope cl C (own++fr) s H ex) tg ra bf) (hw:∀x,Wk (bf x (cE own ix Γ1)) (cE own ix Γ1))
 (ht:∀(C:Addr) (s:K3) (H:Hp) (ex:Ig) x,x∈xs->TF (aL X scope cl C (own++fr) s H ex) ifs (bf x (cE own ix Γ1)) (p x) (bf x (cE own ix Γ1)))
 (he:∀(C:Addr) (s:K3) (H:Hp) (ex:Ig) x,x∈xs->p x=true->EV (aL X scope cl C (own++fr) s H ex) elt (bf x (cE own ix Γ1)) rb (f x) (bf x (cE own ix Γ1)))
 (q:∀a vs H' R',Ext H1 R1 H' R'->H' a=none->PySem.Paired (rb.R X.K R') vs ((xs.filter p).map f)->Q (.ref a) (upd H' a (.lst vs))):
 ∃W:Nat->Nat->List V->St->Hp->Prop,(∃m,W 0 m [] (fL own ix σ) H1)/\∀i m ys σ' H',W i m ys σ' H'->
  ys.length<=K4/\((J.stop i H'/\∀p,H' p=none->Q (.ref p) (upd H' p (.lst ys)))∨
  (J.go i H'/\∀x H2,J.Q8 i H' x H2->(λv σ H Q=>∀C s Hh ex,iC (aL X scope cl C (own++fr) s Hh ex) tg v σ H Q:TG) x σ' H2 λσ2 H3=>(λσ H Q=>∀C s Hh ex,jg (aL X scope cl C (own++fr) s Hh ex) ifs σ H Q:TT) σ2 H3 λb H4=>
    if b=true then(λσ H Q=>∀C s Hh ex,eF (aL X scope cl C (own++fr) s Hh ex) elt σ H Q:TE) σ2 H4 λv H5=>∃m',m' < m/\W (i + 1) m' (ys++[v]) σ2 H5 else∃m',m' < m/\W (i + 1) m' ys σ2 H4)):=by
 refine⟨λi m ys σ' H'=>m=xs.length - i/\i<=xs.length/\∃R',aq X.K σ' H1 R1 H' R' (cE own ix Γ1)/\PySem.Paired (rb.R X.K R') ys (((xs.take i).filter p).map f),⟨_,rfl,Ky _,R1,mq E1 own ix,.nil⟩,?_⟩
 rintro i m ys σ' H' ⟨rfl,hle,R',E',pp⟩
 have Rp:ys.length<=K4:=by
  rw[pp.length,IM]
  refine Kq (Jt _ _) (Kq ?_ hz)
  rw[Jm];omega
 obtain⟨Qu,Oa⟩:=src H' R' E'.ext.r E'.sub i
 refine⟨Rp,?_⟩
 by_cases NJ:i < xs.length
 ·obtain⟨go,yl⟩:=Qu _ (IF NJ)
  have Pp:xs[i]∈xs:=Jb NJ
  have tk:(xs.take (i + 1))=xs.take i++[xs[i]]:=by rw[JD,IF NJ];rfl
  refine .inr ⟨go,λv H2 hy C s Hh ex=>?_⟩
  obtain⟨R2,x2,hr⟩:=yl v H2 hy
  refine hb C s Hh ex σ' H1 R1 H2 R2 _ v _ (E'.grow x2) hr _ λσ2 E2=>?_
  intro C s Hh ex
  refine ht C s Hh ex _ Pp σ2 H1 R1 H2 R2 E2 _ λH4 R4 E4 s4=>?_
  cases hpx:p xs[i] with
  | false=>
    rw[if_neg Il]
    refine⟨xs.length - (i + 1),by omega,rfl,NJ,R4,E4.weak (hw _),?_⟩
    rw[tk,Ka,J1,hpx,if_neg Il,Km,Jj]
    exact Paired.map (λ_ _=>rb.mono (x2.r.trans s4)) pp
  | true=>
    rw[if_pos rfl]
    intro C s Hh ex
    refine he C s Hh ex _ Pp hpx σ2 H1 R1 H4 R4 E4 _ λw H5 R5 E5 s5 e5=>?_
    refine⟨xs.length - (i + 1),by omega,rfl,NJ,R5,E5.weak (hw _),?_⟩
    rw[tk,Ka,J1,hpx,if_pos rfl,Km,Jq]
    exact cY (Paired.map (λ_ _=>rb.mono (x2.r.trans (s4.trans s5))) pp) (.cons e5 .nil)
 ·have e:i=xs.length:=by omega
  subst e
  rw[Jz] at pp
  exact .inl ⟨Oa (Kp _),λa ha=>q a ys H' R' E'.ext ha pp⟩
theorem bK {pos:Pos}{own:Ic}
 (S:dj X scope cl own fr ix) (hit:IV X tg iter Γ ra xs Γ1)
 (hb:∀(C:Addr) (s:K3) (H:Hp) (ex:Ig),BG (aL X scope cl C (own++fr) s H ex) tg ra bf) (hw:∀x,Wk (bf x (cE own ix Γ1)) (cE own ix Γ1))
 (ht:∀(C:Addr) (s:K3) (H:Hp) (ex:Ig) x,x∈xs->TF (aL X scope cl C (own++fr) s H ex) ifs (bf x (cE own ix Γ1)) (p x) (bf x (cE own ix Γ1)))
 (he:∀(C:Addr) (s:K3) (H:Hp) (ex:Ig) x,x∈xs->p x=true->EV (aL X scope cl C (own++fr) s H ex) elt (bf x (cE own ix Γ1)) rb (f x) (bf x (cE own ix Γ1)))
 (hc:X.calm=true:=by rfl) (hs:∀x,Lc iter X.env x=pure x:=by intro _;rfl):aE X (.ListComp elt [⟨tg,iter,ifs,0⟩] scope pos) Γ rb ((xs.filter p).map f) Γ1:=by
 intro σ H0 R0 H R E Q q
 obtain⟨wi,hi,hit⟩:=hit
 refine eS (sA (g:=λv σ H Q=>∀C s Hh ex,iC (aL X scope cl C (own++fr) s Hh ex) tg v σ H Q) (tc:=λσ H Q=>∀C s Hh ex,jg (aL X scope cl C (own++fr) s Hh ex) ifs σ H Q) (te:=λσ H Q=>∀C s Hh ex,eF (aL X scope cl C (own++fr) s Hh ex) elt σ H Q) hc S hi
  (λC s H ex=>⟨λNh s1 σ H v u Q I r h=>h C s _ ex Nh s1 u I r,λNh s1 σ H Q I h=>h C s _ ex Nh s1 I,λNh s1 σ H Q I h=>h C s _ ex Nh s1 I⟩) hs) ?_
 refine hit σ H0 R0 H R E _ λJ H1 R1 E1 s1 hz src=>kU E1 src hz hb hw ht he λa vs H' R' xx ha pp=>?_
 have E2:=E1.grow xx
 exact q a vs _ R' (E2.grow (Ext.c7 E2.sub ha _)) (s1.trans xx.r) aA (E2.sub.free ha) (E2.ext.h.free ha) (E2.off ha) pp (by
  rw[IM];exact Kq (Jt _ _) hz)
theorem jS (i:Nat){y:Str}{py NK:Pos}{pos:Pos}{own:Ic}
 (S:dj X scope cl own fr ix) (hit:IV X tg iter Γ ra xs Γ1)
 (hb:∀(C:Addr) (s:K3) (H:Hp) (ex:Ig),BG (aL X scope cl C (own++fr) s H ex) tg ra bf) (hw:∀x,Wk (bf x (cE own ix Γ1)) (cE own ix Γ1))
 (ht:∀(C:Addr) (s:K3) (H:Hp) (ex:Ig) x,x∈xs->TF (aL X scope cl C (own++fr) s H ex) ifs (bf x (cE own ix Γ1)) (p x) (bf x (cE own ix Γ1)))
 (he:∀(C:Addr) (s:K3) (H:Hp) (ex:Ig) x,x∈xs->p x=true->EV (aL X scope cl C (own++fr) s H ex) elt (bf x (cE own ix Γ1)) rb (f x) (bf x (cE own ix Γ1)))
 (h:N (Γ1.set i (.mu rb ((xs.filter p).map f))))
 (NU:K9 (.ListComp elt [⟨tg,iter,ifs,0⟩] scope pos) (some (.Name y py)) NK.line X.env=pure true:=by rfl)
 (hN:X.N.Nodup:=by first | assumption | decide) (Pg:X.N[i]?=some y:=by rfl) (hx:autoParam (Loc X.env.scope y) Oe)
 (hc:X.calm=true:=by rfl) (hs:∀x,Lc iter X.env x=pure x:=by intro _;rfl) (hf:autoParam (X.fn y=true∨X.env.scope.names.lookup y=some .local) Od):
 W1 X (.Assign [.Name y py] (.ListComp elt [⟨tg,iter,ifs,0⟩] scope pos) NK) Γ N T:=λσ H0 R0 H R E D dn dr=>by
 obtain⟨wi,hi,hit⟩:=hit
 refine sS (iI (i:=i) (g:=λv σ H Q=>∀C s Hh ex,iC (aL X scope cl C (own++fr) s Hh ex) tg v σ H Q) (tc:=λσ H Q=>∀C s Hh ex,jg (aL X scope cl C (own++fr) s Hh ex) ifs σ H Q) (te:=λσ H Q=>∀C s Hh ex,eF (aL X scope cl C (own++fr) s Hh ex) elt σ H Q) NU hN Pg hx hc S hi
  (λC s H ex=>⟨λNh s1 σ H v u Q I r h=>h C s _ ex Nh s1 u I r,λNh s1 σ H Q I h=>h C s _ ex Nh s1 I,λNh s1 σ H Q I h=>h C s _ ex Nh s1 I⟩) hs hf) ?_
 refine hit σ H0 R0 H R E _ λJ H1 R1 E1 s1 hz src=>kU (Q:=λv H'=>D.nx (σ.set i (some v)) H') E1 src hz hb hw ht he λa vs H' R' xx ha pp=>?_
 have E2:=E1.grow xx
 exact dn _ _ R' _ ((E2.grow (Ext.c7 E2.sub ha _)).rm (u:=.lst vs) (en:=.mu rb ((xs.filter p).map f)) i ⟨a,vs,rfl,aA,E2.sub.free ha,pp⟩ (E2.ext.h.free ha) λj e _ q w=>E2.off ha j e q w) (s1.trans xx.r) h
end
section
variable {X:Cx}{Γ Γ1 Γ2 Γ3:Ga}{α β γ δ:Type}{N:Ga->Prop}{T:RT}
variable {r:Rep α}{xs:List α}{Nh:Ia}{σ:St}{H:Hp}{s:K3}{K:MP}{n:Nat}{a:Addr}{A:La}{R:Hp}{ys:List α}{es:Ii}{tp p:Pos}{b:Addr}
theorem sW {h':Heap}{t':Nat}{fp:Ig}(I:Inv X Nh σ H s)(k:∀b o,b∉fp->s.heap.get? b=some o->h'.get? b=some o)(hf:∀b∈fp,kz X Nh H b):Inv X Nh σ H {s with heap:=h',toks:=t'}:=by
 have SA:∀b u,H b=some u->b∉fp:=λb u e z=>by rw[(hf b z).1] at e;cases e
 refine I.step (g':=s.gens) (d':=s.drawn) (ch:=fp) (λb hb=>⟨(hf b hb).2.2.2.1,(hf b hb).2.1,(hf b hb).2.2.2.2.1,(hf b hb).2.2.2.2.2⟩) (λb o _ _ hc e _=>k b o hc e) (λb o _ _ hc e _=>⟨o.slots,k b o hc e⟩) (λ_ _ _ _ n=>n)
  (λb o hc e=>⟨o,k b o hc e⟩) (λ_ _ e=>e) (λ_ _ _ e=>e) (λb ps e=>⟨#[],by rw[e];simp⟩) (λm hm=>?_) (λb u e=>?_) I.bare
 ·obtain⟨o,es,ep,ho,r⟩:=hm
  exact⟨o,es,ep,k _ o (λz=>(hf _ z).2.1 rfl) ho,r⟩
 ·refine(I.Nm b u e).ja (λc v hc q=>k c v ?_ q) (λ_ q=>q) λ_ _ q=>q
  rcases hc with z | z
  ·rw[z];exact SA b u e
  ·exact SA c _ z
theorem adopt {o:HO}(I:Inv X Nh σ H s)(hf:kz X Nh H a)(hy:X.s₀.heap.objs.size<=a)(new:cj X.prog X.w (upd H a o) s.heap a o):Inv X Nh σ (upd H a o) s:=by
 have ne:∀{b:Addr} {u:HO},H b=some u->b≠a:=λe=>cZ e hf.1
 have ne0:∀{b:Addr} {u:Obj},X.s₀.heap.get? b=some u->b≠a:=λe z=>absurd (Kr (Mw e) hy) (by rw[z];exact Ku _)
 refine⟨I.ok,I.os,I.bare,⟨I.base.keep,I.base.slot,λb u e n hx=>by rw[aM (ne0 e)];exact I.base.free b u e n hx,I.base.there,λb xs e=>?_,λb u v e=>?_,λb ps e=>?_⟩,I.loc,I.cell,?_,λx c e=>?_,λp hp=>?_,λb u e=>?_,I.len⟩
 ·have q:=I.base.NS b xs e;rw[aM (ne q)];exact q
 ·have q:=I.base.NR b u v e;rw[aM (ne q)];exact q
 ·obtain⟨m,q⟩:=I.base.NT b ps e;exact⟨m,by rw[aM (ne q)];exact q⟩
 ·rw[aM (KG hf.2.1)];exact I.free
 ·rw[aM (hf.2.2.2.2.1 x c e)];exact I.NF x c e
 ·obtain⟨e,n,r⟩:=I.pin p hp
  exact⟨e,by rw[aM (hf.2.2.2.2.2 p hp)];exact n,r⟩
 ·by_cases hb:b=a
  ·subst hb;rw[aA] at e;cases e;exact new
  ·rw[aM hb] at e
   exact(I.Nm b u e).ja (λc v _ q=>q) (λc q=>by rw[aM (ne q)];exact q) λc xs q=>by rw[aM (ne q)];exact q
def Gq (K:MP)(a:Addr):It:=
 ⟨λi H=>∃xs x,bt K H a xs/\xs[i]?=some x,λi H v H'=>∃p x,H p=none/\v= .ref p/\H'=upd H p (.tup [.int i,x])/\∀xs,bt K H a xs->xs[i]?=some x,λi H=>∃xs,bt K H a xs/\xs.length<=i⟩
theorem vP {P:K7}{w:World}{k:Nat}(a e it:Addr)(hei:e≠it):Turn P w K (.Tuple es k tp) (Gq K a) [e,it] e (λi h=>(∃old,IsEnum h e it i old)/\h.IsListIter it a i) where
 mem:=by simp
 obj:=λi h st b hb=>by
  obtain⟨⟨old,he⟩,o,ho,hc,hd⟩:=st
  rcases IY.mp hb with rfl | hb
  ·exact⟨_,he,λv z=>by cases z⟩
  ·have e2:b=it:=by simpa using hb
   subst e2
   exact⟨o,ho,λv z=>by rw[hd] at z;cases z⟩
 keep:=λi h h' st kk=>⟨st.1.elim λold he=>⟨old,kk e (by simp) _ he⟩,st.2.at λo x=>kk it (by simp) o x⟩
 item:=by
  intro X hP hw hK hc i Nh s σ H E I hf st hg
  subst hP hw hK
  obtain⟨⟨old,he⟩,hit⟩:=st
  obtain⟨xs,x,hq,hx⟩:=hg
  obtain⟨Nj,r,pl,hz⟩:=I.list hq
  obtain⟨u,hu,rx⟩:=r.get hx
  have hn:H s.heap.objs.size=none:=I.Nm.fresh (Kp _)
  refine wpAny_pyNext_enum_item he hit pl.isList (x:=u) (by simpa using hu) hei λh' ho hit' hT hsz hk=>?_
  refine⟨_,rfl,?_⟩
  refine wpAny_letOwnedTupleGo_enum (s:={s with heap:=h',toks:=s.toks + 1}) ho λh2 Te Pc=>?_
  have hk2:∀b o,b∉[e,it]->s.heap.get? b=some o->h2.get? b=some o:=λb o hb q=>by
   have Qp:b≠e:=λz=>hb (by simp[z])
   exact Pc.extBut b o Qp (hk b o Qp (λz=>hb (by simp[z])) q)
  have I1:Inv X Nh σ H {s with heap:=h2,toks:=s.toks + 1}:=sW I hk2 hf
  have hel:e≠s.heap.objs.size:=Kt (Mw he)
  have hT2:h2.get? s.heap.objs.size=some {cls:=.type "tuple",data:=.seq #[.int i s.toks,u]}:=(Pc.2 _ (KG hel)).trans hT
  have I2:Inv X Nh σ (upd H s.heap.objs.size (.tup [.int i,x])) {s with heap:=h2,toks:=s.toks + 1}:=
   adopt I1 (I.oz (Kp _) hn) (I.sz) ⟨by show 2<=K4;decide,[.int i s.toks,u],.cons ⟨_,rfl⟩ (.cons rx .nil),⟨_,hT2,rfl,_,rfl⟩⟩
  refine⟨.ref s.heap.objs.size,_,I2,rfl,⟨s.heap.objs.size,x,hn,rfl,rfl,λys hy=>?_⟩,⟨⟨u,by simpa using Te⟩,hit'.at λo y=>(Pc.2 it (KG hei)).trans y⟩,λb hb=>?_⟩
  ·rw[I.qD hy hq];exact hx
  ·have NJ:b < s.heap.objs.size:=by
    rcases IY.mp hb with rfl | hb
    ·exact Mw he
    ·have e2:b=it:=by simpa using hb
     subst e2
     obtain⟨o,ho,_⟩:=hit
     exact Mw ho
   rw[aM (Kt NJ)]
   exact(hf b hb).1
 done:=by
  intro X hP hw hK hc i Nh s σ H E I hf st hg
  subst hP hw hK
  obtain⟨⟨old,he⟩,hit⟩:=st
  obtain⟨xs,hq,hx⟩:=hg
  obtain⟨Nj,r,pl,hz⟩:=I.list hq
  refine wpAny_pyNext_enum_end (I.ok.hd hc) he hit pl.isList (by have:=r.length;simp;omega) λh' hk=>⟨rfl,?_⟩
  exact sW (t':=s.toks) I (λb o hb q=>hk b o (λz=>hb (by simp[z])) q) hf
 self:=λ_ _ _ _ _ st h=>st.1.elim λold he=>wpAny_pyIter_enum he h
def EI (K:MP)(ta:TA):TI:=λσ H R=>ta σ H λvs H1=>∃a xs,vs=[.ref a]/\bt K H1 a xs/\R (Gq K a) H1
theorem Ar {a:Expr}{ta:TA}{pos:Pos}{k:Nat}(hg:Gl X "enumerate")(hm:X.mg "enumerate"=none)(ha:PA X [a] ta)(hs:K2 [a] X.env=[(false,eval a X.env)]:=by rfl):PI X (.Tuple es k tp) (.Call (.Name "enumerate" p) [a] [] pos) (EI X.K ta):=by
 intro Nh s σ H R I h
 refine Call_ (jU I hg hm boot_enumerate (KS (aQ (ha pos Nh s σ H _ I h) λus s1 ⟨vs,H1,I1,r1,q1⟩=>?_) hs rfl))
 obtain⟨l,xs,e,hq,q⟩:=q1
 subst e
 cases r1 with
 | cons r rr=>
   cases rr
   cases r
   obtain⟨Nj,r',pl,hz⟩:=I1.list hq
   refine call_enumerate_list pl.isList λh' he hit hsz hk=>?_
   refine wpAny_pyIter_enum he ?_
   have I2:Inv X Nh σ H1 {s1 with heap:=h'}:=I1.kept (t':=s1.toks) hk
   have f0:H1 s1.heap.objs.size=none:=I1.Nm.fresh (Kp _)
   have f1:H1 (s1.heap.objs.size + 1)=none:=I1.Nm.fresh (Kv _)
   refine⟨s1.heap.objs.size + 1,[s1.heap.objs.size + 1,s1.heap.objs.size],_,_,H1,rfl,I2,vP l (s1.heap.objs.size + 1) s1.heap.objs.size (KD (Kx _)),⟨⟨.none,he⟩,hit⟩,λb hb=>?_,q⟩
   rcases IY.mp hb with rfl | hb
   ·exact I1.oz (Kv _) f1
   ·have e2:b=s1.heap.objs.size:=by simpa using hb
    subst e2
    exact I1.oz (Kp _) f0
def nums (xs:List α):List (Int×α):=(xs.zipIdx).map λp=>((p.2:Int),p.1)
theorem ee (xs:List α):(nums xs).length=xs.length:=by unfold nums;rw[IM,List.length_zipIdx]
theorem iT {i:Nat}{y:Int×α}(h:(nums xs)[i]?=some y):y.1=(i:Int)/\xs[i]?=some y.2:=by
 unfold nums at h
 rw[Je,List.getElem?_zipIdx] at h
 cases e:xs[i]? with
 | none=>rw[e] at h;cases h
 | some x=>rw[e] at h;cases h;exact⟨by simp,rfl⟩
theorem jX {a:Expr}{pos:Pos}{k:Nat}(hm:X.mg "enumerate"=none)(ha:EV X a Γ (ak r) xs Γ1)(hs:K2 [a] X.env=[(false,eval a X.env)]:=by rfl)(hg:Gl X "enumerate":=by rfl):
 IV X (.Tuple es k tp) (.Call (.Name "enumerate" p) [a] [] pos) Γ (aP af r) (nums xs) Γ1:=by
 refine⟨_,Ar hg hm (aH aJ bJ hs) hs,λσ H0 R0 H R E Rq q=>ha σ H0 R0 H R E _ λv H1 R1 E1 s1 e1=>?_⟩
 obtain⟨a,vs,rfl,hp,pp,z⟩:=e1
 refine⟨a,vs,rfl,bt.of (E1.sub _ _ hp),q _ H1 R1 E1 s1 (by rw[ee];exact z) λH' R' sR sH i=>⟨λy hy=>?_,λhi=>?_⟩⟩
 ·have hq:bt X.K H' a vs:=bt.of (sH _ _ (sR _ _ hp))
  obtain⟨e1,e2⟩:=iT hy
  obtain⟨v,hv,hr⟩:=eM pp e2
  refine⟨⟨vs,v,hq,hv⟩,λv' H2 hyl=>?_⟩
  obtain⟨p,x,hpn,rfl,rfl,hy⟩:=hyl
  have:=hy vs hq
  rw[hv] at this
  cases this
  have s2:ar R' (upd R' p (.tup [.int i,v])):=ar.fresh (sH.free hpn) _
  exact⟨upd R' p (.tup [.int i,v]),Ext.fresh sH hpn _,p,_,_,rfl,aA,by rw[e1];rfl,r.mono s2 (r.mono sR hr)⟩
 ·exact⟨vs,bt.of (sH _ _ (sR _ _ hp)),by rw[pp.length,← ee xs];exact hi⟩
theorem su:dH X (.builtin "isinstance") (λxs H Q=>∃x c t b,xs=[x,.ty c]/\eZ X.K H x t/\MX X.K t (.type c)=some b/\Q (.bl b) H):=by
 intro Nh s σ H xs us Q I r h
 obtain⟨x,c,t,b,rfl,ty,e,q⟩:=h
 obtain⟨u,u2,rfl,r1,r2⟩:=vals2 r
 cases (show u2=Value.type c from r2)
 exact xW I r1 ty e λtk=>⟨.bl b,H,I.tok tk,rfl,q⟩
theorem fC {e:Expr}{y:Str}{p2 pos:Pos}{x:α}{c:String}{t:Value}{b:Bool}(hm:X.mg "isinstance"=none)(S2:X.mg y=none)(hvy:Lo y=some (.type c))(he:EV X e Γ r x Γ1)
 (ty:∀(R H:Hp) v,ar R H->r.R X.K R v x->eZ X.K H v t) (ht:∀K:MP,MX K t (.type c)=some b:=by intro;rfl)
 (hs:K2 [e,.Name y p2] X.env=(false,eval e X.env)::K2 [.Name y p2] X.env:=by rfl) (hg:Gl X "isinstance":=by rfl) (S9:Gl X y:=by rfl) (hny:y≠"__name__":=by decide) (Tf:Nr y:=by decide):EV X (.Call (.Name "isinstance" p) [e,.Name y p2] [] pos) Γ aX b Γ1:=by
 intro σ H0 R0 H R E Q q
 refine eS (dq su hg hm KR (aH aJ (aH (tE (v:=.ty c) S9 S2 hvy rfl hny Tf) bJ rfl) hs) (by decide) (by decide) hs rfl) (he σ H0 R0 H R E _ λv H1 R1 E1 s1 e1=>?_)
 exact⟨v,c,t,b,rfl,ty R1 H1 v E1.sub e1,ht _,q _ H1 R1 E1 s1 rfl⟩
theorem ty_int {x:Int}(R H:Hp)(v:V)(_:ar R H)(h:af.R K R v x):eZ K H v (.type "int"):=by cases h;exact .int _
theorem ty_list (R H:Hp)(v:V)(s:ar R H)(h:(ak r).R K R v xs):eZ K H v (.type "list"):=by obtain⟨a,vs,rfl,e,_⟩:=h;exact .lst (s _ _ e)
theorem Bj {r':Rep β}{x:α×β}(R H:Hp)(v:V)(s:ar R H)(h:(aP r r').R K R v x):eZ K H v (.type "tuple"):=by obtain⟨a,_,_,rfl,e,_⟩:=h;exact .tup (s _ _ e)
theorem BK {x:Row}(R H:Hp)(v:V)(s:ar R H)(h:bA.R K R v x):eZ K H v (.type "tuple"):=by obtain⟨a,rfl,e⟩:=h;exact .tup (s _ _ e)
structure da (r:Rep α) [DecidableEq α] (n:Nat):Prop where
 inj:∀{K:MP} {R:Hp} {v:V} {x y:α},r.R K R v x->r.R K R v y->x=y
 eq:∀{X:Cx} {Nh:Ia} {σ:St} {H:Hp} {s:K3} {R:Hp} {A:La} (I:Inv X Nh σ H s) (sub:ar R H) {v u:V} {vv uu:Value} {x y:α},RelV v vv->RelV u uu->r.R X.K R v x->r.R X.K R u y->A.units + n < cLine->MD A s vv uu (decide (x=y))
theorem eq_int:da af 0:=by
 refine⟨by rintro K R v x y h1 h2;cases h1;cases h2;rfl,?_⟩
 intro X Nh σ H s R A I sub v u vv uu x y rv ru h1 h2 hu
 cases h1
 cases h2
 obtain⟨t,rfl⟩:=rv
 obtain⟨t',rfl⟩:=ru
 intro prog w E Q hq
 refine LQ ?_
 rw[Iq];exact hq
theorem in1_units (A:La):A.in1.units=A.units + 1:=rfl
theorem oM [DecidableEq α](e:da r n){X:Cx}(I:Inv X Nh σ H s)(sub:ar R H)(hu:A.units + n < cLine):
 ∀{vs ws:List V} {us OL:Ih} {xs ys:List α},Vals vs us->Vals ws OL->PySem.Paired (r.R X.K R) vs xs->PySem.Paired (r.R X.K R) ws ys->∀(j:Nat) (h1:j < us.toArray.size) (h2:j < OL.toArray.size),MD A s us.toArray[j] OL.toArray[j] (decide (xs[j]?=ys[j]?)):=by
 intro vs ws us OL xs ys hv hw px py j h1 h2
 have Q4:j < us.length:=by simpa using h1
 have Q3:j < OL.length:=by simpa using h2
 have l1:j < vs.length:=by rw[hv.length];exact Q4
 have l2:j < ws.length:=by rw[hw.length];exact Q3
 obtain⟨u,e1,r1⟩:=hv.get (IF l1)
 obtain⟨u',e2,r2⟩:=hw.get (IF l2)
 obtain⟨x,e3,q1⟩:=kg px (IF l1)
 obtain⟨y,e4,q2⟩:=kg py (IF l2)
 rw[IF Q4] at e1
 rw[IF Q3] at e2
 have e1:=Option.some.inj e1
 have e2:=Option.some.inj e2
 have key:=e.eq (A:=A) I sub r1 r2 q1 q2 hu
 have d:decide (xs[j]?=ys[j]?)=decide (x=y):=by rw[e3,e4];simp
 rw[d]
 simp only[List.getElem_toArray]
 rw[e1,e2]
 exact key
theorem all_eq [DecidableEq α](h:xs.length=ys.length):((JH xs.length).all λj=>decide (xs[j]?=ys[j]?))=decide (xs=ys):=by
 rw[Ip,JK]
 simp only[JG,decide_eq_true_eq]
 constructor
 ·intro hh
  refine JP λi=>?_
  by_cases hi:i < xs.length
  ·exact hh i hi
  ·have a1:xs[i]?=none:=Ju (by omega)
   have a2:ys[i]?=none:=Ju (by omega)
   rw[a1,a2]
 ·rintro rfl j _;rfl
theorem nv {F:α->β->Prop}(inj:∀v x y,F v x->F v y->x=y):∀{vs:List α} {xs ys:List β},PySem.Paired F vs xs->PySem.Paired F vs ys->xs=ys
 | _,_,_,.nil,.nil=>rfl
 | _,_,_,.cons h t,.cons h' t'=>by rw[inj _ _ _ h h',nv inj t t']
theorem oo [DecidableEq α](e:da r n){X:Cx}(I:Inv X Nh σ H s)(sub:ar R H){vs ws:List V}(ha:R a=some (.lst vs))(hb:R b=some (.lst ws))(px:PySem.Paired (r.R X.K R) vs xs)(py:PySem.Paired (r.R X.K R) ws ys)(hu:A.units + (n + 1) < cLine):
 ME A s (.ref a) (.ref b) (decide (xs=ys))/\MF A s (.ref a) (.ref b) (!decide (xs=ys)):=by
 obtain⟨us,hv,pl,_⟩:=I.list (bt.of (sub _ _ ha))
 obtain⟨OL,hw,Rk,_⟩:=I.list (bt.of (sub _ _ hb))
 have lx:us.toArray.size=xs.length:=by rw[Jc,← hv.length,px.length]
 have ly:OL.toArray.size=ys.length:=by rw[Jc,← hw.length,py.length]
 by_cases hl:xs.length=ys.length
 ·have he:=oM (A:=A.in1) e I sub (by rw[in1_units];omega) hv hw px py
  have r1:=ME.lists pl.isList Rk.isList (lx.trans (hl.trans ly.symm)) (by omega) he
  have r2:=MF.lists pl.isList Rk.isList (lx.trans (hl.trans ly.symm)) (by omega) he
  rw[lx,all_eq hl] at r1 r2
  exact⟨r1,r2⟩
 ·have NO:(us.toArray.size != OL.toArray.size)=true:=by rw[lx,ly];simpa using hl
  have d:decide (xs=ys)=false:=decide_eq_false λz=>hl (by rw[z])
  rw[d]
  exact⟨ME.lists_lengths pl.isList Rk.isList NO (by omega),MF.lists_lengths pl.isList Rk.isList NO (by omega)⟩
theorem eq_list [DecidableEq α](e:da r n):da (ak r) (n + 1):=by
 have inj:∀{K:MP} {R:Hp} {v:V} {x y:List α},(ak r).R K R v x->(ak r).R K R v y->x=y:=by
  rintro K R v x y ⟨a,vs,rfl,h,p,_⟩ ⟨a',N3,e1,h',p',_⟩
  cases e1
  rw[h] at h'
  cases h'
  exact nv (F:=r.R K R) (λ_ _ _ h1 h2=>e.inj h1 h2) p p'
 refine⟨inj,?_⟩
 intro X Nh σ H s R A I sub v u vv uu x y rv ru h1 h2 hu
 have Q4:=h1
 have Q3:=h2
 obtain⟨a,vs,rfl,ha,px,_⟩:=h1
 obtain⟨b,ws,rfl,hb,py,_⟩:=h2
 cases rv
 cases ru
 by_cases NY:a=b
 ·subst NY
  rw[decide_eq_true (inj Q4 Q3)]
  exact MD.same _
 ·exact MD.of_refs NY (oo e I sub ha hb px py hu).1
theorem xc {X:Cx}(I:Inv X Nh σ H s)(sub:ar R H){vs ws:List V}{k:Nat->Bool}(ha:R a=some (.tup vs))(hb:R b=some (.tup ws))(hl:vs.length=ws.length)(hu:A.units < cLine)
 (he:∀(us OL:Ih),Vals vs us->Vals ws OL->∀(j:Nat) (h1:j < us.toArray.size) (h2:j < OL.toArray.size),MD A.in1 s us.toArray[j] OL.toArray[j] (k j)):
 ME A s (.ref a) (.ref b) ((JH vs.length).all k)/\MF A s (.ref a) (.ref b) (!(JH vs.length).all k):=by
 obtain⟨us,hv,pl,_⟩:=I.tuple (ei.of (sub _ _ ha))
 obtain⟨OL,hw,Rk,_⟩:=I.tuple (ei.of (sub _ _ hb))
 have lx:us.toArray.size=vs.length:=by rw[Jc,← hv.length]
 have ly:OL.toArray.size=vs.length:=by rw[Jc,← hw.length,hl]
 have r1:=ME.tuples (A:=A) pl Rk hu (he us OL hv hw)
 have r2:=MF.tuples (A:=A) pl Rk hu (he us OL hv hw)
 rw[lx,ly,Nat.min_self] at r1 r2
 simp only[beq_self_eq_true,Bool.and_true] at r1 r2
 exact⟨r1,r2⟩
theorem Cr {X:Cx}(I:Inv X Nh σ H s)(sub:ar R H){x y:Row}(ha:R a=some (.tup [.int x.1,.int x.2.1,.int x.2.2.1,.int x.2.2.2]))(hb:R b=some (.tup [.int y.1,.int y.2.1,.int y.2.2.1,.int y.2.2.2]))(hu:A.units + 1 < cLine):
 ME A s (.ref a) (.ref b) (decide (x=y)):=by
 have OH:∀ys:Ib,PySem.Paired (af.R X.K R) (ys.map V.int) ys:=λys=>by
  induction ys with
  | nil=>exact .nil
  | cons y r ih=>exact .cons rfl ih
 have r1:=(xc (A:=A) I sub ha hb rfl (by omega) λus OL hv hw=>oM (A:=A.in1) eq_int I sub (by rw[in1_units];omega) hv hw (OH [x.1,x.2.1,x.2.2.1,x.2.2.2]) (OH [y.1,y.2.1,y.2.2.1,y.2.2.2])).1
 have e1:=all_eq (xs:=[x.1,x.2.1,x.2.2.1,x.2.2.2]) (ys:=[y.1,y.2.1,y.2.2.1,y.2.2.2]) rfl
 have e2:decide ([x.1,x.2.1,x.2.2.1,x.2.2.2]=[y.1,y.2.1,y.2.2.1,y.2.2.2])=decide (x=y):=by
  obtain⟨a1,a2,a3,a4⟩:=x
  obtain⟨b1,b2,b3,b4⟩:=y
  simp
 rw[e2] at e1
 rw[← e1]
 exact r1
theorem DH:da bA 1:=by
 have inj:∀{K:MP} {R:Hp} {v:V} {x y:Row},bA.R K R v x->bA.R K R v y->x=y:=by
  rintro K R v x y ⟨a,rfl,h⟩ ⟨a',e1,h'⟩
  cases e1
  rw[h] at h'
  obtain⟨a1,a2,a3,a4⟩:=x
  obtain⟨b1,b2,b3,b4⟩:=y
  simp at h'
  simp[h']
 refine⟨inj,?_⟩
 intro X Nh σ H s R A I sub v u vv uu x y rv ru h1 h2 hu
 have Q4:=h1
 have Q3:=h2
 obtain⟨a,rfl,ha⟩:=h1
 obtain⟨b,rfl,hb⟩:=h2
 cases rv
 cases ru
 by_cases NY:a=b
 ·subst NY
  rw[decide_eq_true (inj Q4 Q3)]
  exact MD.same _
 ·exact MD.of_refs NY (Cr I sub ha hb hu)
theorem zQ [DecidableEq α](e:da r n)(hu:X.A.units + (n + 1) < cLine):gN X .Eq (ak r) (ak r) xs ys (decide (xs=ys)):=
 ⟨λv u H Q=>∃R,ar R H/\∃xs ys,(ak r).R X.K R v xs/\(ak r).R X.K R u ys/\Q (.bl (decide (xs=ys))) H,λNh s σ H x y v u Q I rx ry ⟨R,sub,xs,ys,h1,h2,q⟩=>by
  obtain⟨a,vs,rfl,ha,px,_⟩:=h1
  obtain⟨b,ws,rfl,hb,py,_⟩:=h2
  cases rx
  cases ry
  exact(oo (A:=X.A) e I sub ha hb px py hu).1 _ _ _ _ ⟨.bl _,H,I,rfl,q⟩,λR H v u Q s h1 h2 q=>⟨R,s,xs,ys,h1,h2,q⟩⟩
theorem pI [DecidableEq α](e:da r n)(hu:X.A.units + (n + 1) < cLine):gN X .NotEq (ak r) (ak r) xs ys (!decide (xs=ys)):=
 ⟨λv u H Q=>∃R,ar R H/\∃xs ys,(ak r).R X.K R v xs/\(ak r).R X.K R u ys/\Q (.bl (!decide (xs=ys))) H,λNh s σ H x y v u Q I rx ry ⟨R,sub,xs,ys,h1,h2,q⟩=>by
  obtain⟨a,vs,rfl,ha,px,_⟩:=h1
  obtain⟨b,ws,rfl,hb,py,_⟩:=h2
  cases rx
  cases ry
  exact(oo (A:=X.A) e I sub ha hb px py hu).2 _ _ _ _ ⟨.bl _,H,I,rfl,q⟩,λR H v u Q s h1 h2 q=>⟨R,s,xs,ys,h1,h2,q⟩⟩
theorem oC:dH X (.type "range") (λxs H Q=>∃n:Int,xs=[.int n]/\∀p,H p=none->Q (.ref p) (upd H p (.OM 0 n))):=by
 intro Nh s σ H xs us Q I r h
 obtain⟨n,rfl,q⟩:=h
 obtain⟨u,rfl,t,rfl⟩:=vals1 r
 refine call_range_1 ?_
 exact⟨.ref s.heap.objs.size,_,I.laid (o:=.OM 0 n) (λb o e=>Mx _ e) (Kp _) ⟨_,_,_,My _ rfl⟩,rfl,q _ (I.Nm.fresh (Kp _))⟩
theorem qB (hc:X.calm=true):dH X (.type "list") (λxs H Q=>∃(p:Addr) (m n:Int),xs=[.ref p]/\H p=some (.OM m n)/\ -1000000<=m/\m<=1000000/\ -1000000<=n/\n<=1000000/\∀d,H d=none->Q (.ref d) (upd H d (.lst ((ups m (n - m).toNat).map V.int)))):=by
 intro Nh s σ H xs us Q I r h
 obtain⟨p,m,n,rfl,hp,m1,m2,n1,n2,q⟩:=h
 obtain⟨u,rfl,rx⟩:=vals1 r
 cases rx
 obtain⟨t,t2,t3,ho⟩:=I.Nm p _ hp
 have hsz:Builtin.Range.rangeSize m n 1=(((n - m).toNat:Nat):Int):=by rw[rangeSize_one];split<;>omega
 refine call_list_range (I.ok.hd hc) ho (small_one (by omega) (by omega) (by omega) (by omega)) hsz (by omega) λh' tk acc c' hk hS To=>?_
 have vals:Vals ((ups m (n - m).toNat).map V.int) acc.toList:=by
  have key:∀(k:Nat) (Nj:Ih) (lo:Int),Nj.length=k->(∀(j:Nat) v,Nj[j]?=some v->∃t,v= .int (lo + (j:Int) * 1) t)->Vals ((ups lo k).map V.int) Nj:=by
   intro k
   induction k with
   | zero=>intro Nj lo hl _;cases Nj with
     | nil=>exact .nil
     | cons _ _=>cases hl
   | succ k ih=>
     intro Nj lo hl hv
     cases Nj with
     | nil=>cases hl
     | cons v r=>
       have e:ups lo (k + 1)=lo::ups (lo + 1) k:=by
        unfold ups
        rw[List.range_succ_eq_map,Js,JO]
        congr 1
        ·simp
        ·apply Jx;intro a _;simp;omega
       rw[e,Js]
       obtain⟨t,e0⟩:=hv 0 v rfl
       refine .cons ⟨t,by rw[e0];simp⟩ (ih r (lo + 1) (by simpa using hl) λj v hj=>?_)
       obtain⟨t,ej⟩:=hv (j + 1) v (by simpa using hj)
       exact⟨t,by rw[ej];congr 1;push_cast;omega⟩
  refine key _ _ m (by rw[Ik];exact To.1) λj v hj=>To.2 j v (by simpa using hj)
 exact⟨.ref _,_,I.laid (a:=s.heap.objs.size) (o:=.lst ((ups m (n - m).toNat).map V.int)) hk (Kp _) ⟨by rw[IM,aC];exact Kq (show(n - m).toNat<=2000000 by omega) (by decide),acc.toList,c',vals,by rw[hS]⟩,rfl,q _ (I.Nm.fresh (Kp _))⟩
end
def ot (scope:Scope)(env:Env):List (Str×Addr):=(scope.names.filterMap λp=>if p.2== .free then(env.cells.lookup p.1).map (λc=>(p.1,c)) else none).reverse
theorem nu {env:Env}:∀(names:List (Str×LF)) (acc:List (Str×Addr)),(∀y∈names,y.2= .free->∃c,env.cells.lookup y.1=some c)->
 (forIn names acc λ(x:Str×LF) (r:List (Str×Addr))=>if(x.2==LF.free)=true then do let a ← cellOf env x.1;pure (Iz ((x.1,a)::r)) else pure (Iz r):Sem (List (Str×Addr)))
  =pure ((names.filterMap λp=>if p.2== .free then(env.cells.lookup p.1).map (λc=>(p.1,c)) else none).reverse++acc)
 | [],acc,_=>rfl
 | (n,k)::r,acc,h=>by
   have ih:=nu (env:=env) r
   rw[List.forIn_cons,Jw]
   cases hk:(k==LF.free) with
   | false=>
     simp only[hk,Ir,if_false]
     rw[pure_bind]
     exact ih acc λy hy=>h y (IK _ hy)
   | true=>
     obtain⟨c,hc⟩:=h (n,k) IT (eq_of_beq hk)
     have OG:cellOf env n=pure c:=by unfold cellOf;rw[hc]
     simp only[hk,if_true,hc,KI,OG]
     rw[pure_bind,pure_bind]
     show forIn r ((n,c)::acc) _=_
     rw[ih ((n,c)::acc) λy hy=>h y (IK _ hy)]
     simp
theorem uh {X:Cx}{scope:Scope}{own fr:Ic}{ix:List Nat}(hk:scope.kind= .function)(hn:∀y∈scope.names,y.2≠ .cell)(hl:∀y∈scope.names,y.2= .local->scope.names.lookup y.1=some .local)
 (hc:∀x,X.env.scope.names.lookup x=some .cell->∃c,X.env.cells.lookup x=some c) (hf:∀y∈scope.names,y.2= .free->X.env.scope.names.lookup y.1=some .cell)
 (Qa:∀x∈fr,scope.names.lookup x=some .free) (hlen:fr.length=ix.length) (RJ:∀(k i:Nat) (x:Str),ix[k]?=some i->fr[k]?=some x->X.N[i]?=some x):dj X scope (ot scope X.env) own fr ix:=by
 have free:∀y∈scope.names,y.2= .free->∃c,X.env.cells.lookup y.1=some c:=λy hy e=>hc _ (hf y hy e)
 refine⟨?_,λx c e=>?_,hk,hn,hl,λx e=>?_,Qa,hlen,λk i x e1 e2=>⟨RJ k i x e1 e2,hf (x,.free) (Lh (Qa x (IQ e2))) rfl⟩⟩
 ·have:=nu (env:=X.env) scope.names [] free
  rw[Jj] at this
  have e:closureFor scope X.env=((forIn scope.names [] λ(x:Str×LF) (r:List (Str×Addr))=>if(x.2==LF.free)=true then do let a ← cellOf X.env x.1;pure (Iz ((x.1,a)::r)) else pure (Iz r):Sem (List (Str×Addr))) >>=λcs=>pure cs):=rfl
  rw[e,this,pure_bind]
  rfl
 ·have m:=Lh e
  unfold ot at m
  obtain⟨p,_,hp⟩:=J9.mp (mem_reverse.mp m)
  split at hp
  ·cases q:X.env.cells.lookup p.1 with
   | none=>rw[q] at hp;cases hp
   | some c'=>rw[q] at hp;cases hp;exact q
  ·cases hp
 ·have m:=Lh e
  obtain⟨c,Q1⟩:=free _ m rfl
  have m2:(x,c)∈ot scope X.env:=by
   unfold ot
   refine mem_reverse.mpr (J9.mpr ⟨(x,.free),m,?_⟩)
   simp[Q1]
  cases q:(ot scope X.env).lookup x with
  | some c'=>exact⟨c',rfl⟩
  | none=>
    rw[List.lookup_eq_none_iff] at q
    exact absurd (q _ m2) (by simp)
def xH (scope so:Scope)(N0 fr:Ic)(ix:List Nat):Bool:=
 decide (scope.kind= .function)&&scope.names.all (λy=>decide (y.2≠ .cell)&&(decide (y.2≠ .local) ||decide (scope.names.lookup y.1=some .local))&&(decide (y.2≠ .free) ||decide (so.names.lookup y.1=some .cell)))
  &&fr.all (λx=>decide (scope.names.lookup x=some .free))&&decide (fr.length=ix.length)&&(JH ix.length).all λk=>match ix[k]?,fr[k]? with | some i,some x=>decide (N0[i]?=some x) | _,_=>true
theorem bu {X:Cx}{scope so:Scope}{N0 own fr:Ic}{ix:List Nat}(hso:X.env.scope=so)(hN0:X.N=N0)(hc:∀x,X.env.scope.names.lookup x=some .cell->∃c,X.env.cells.lookup x=some c)(h:xH scope so N0 fr ix=true):dj X scope (ot scope X.env) own fr ix:=by
 unfold xH at h
 simp only[Io,Bool.or_eq_true,decide_eq_true_eq,JK] at h
 obtain⟨⟨⟨⟨h1,h2⟩,h3⟩,h4⟩,h5⟩:=h
 refine uh h1 (λy hy=>(h2 y hy).1.1) (λy hy e=>(h2 y hy).1.2.resolve_left λz=>z e) hc (λy hy e=>by rw[hso];exact(h2 y hy).2.resolve_left λz=>z e) h3 h4 λk i x e1 e2=>?_
 have hk:k < ix.length:=(IG.mp e1).1
 have:=h5 k (JG.mpr hk)
 rw[e1,e2] at this
 rw[hN0]
 simpa using this
section
variable {X:Cx}{Γ Γ1 Γ2 Γ3:Ga}{α β γ δ:Type}{N:Ga->Prop}{T:RT}
variable {r:Rep α}
theorem iU (i:Nat){S:cf}{x y:Str}{k:Nat}{e:Expr}{es:Ii}{p p1 p2 pos:Pos}{ps:List Pk}{Pd:α->Prop}(C:ax X.prog X.w X.K X.mg X.base x k (aG S X.K))(hr:bI k X.A)(ha:HA X (e::es) Γ ps Γ1)(hS:S X.K ps (bL X.K r Pd))(h:∀z,Pd z->N (Γ1.set i (.im r z)))
 (hg:Gl X x:=by rfl) (Nx:Nr x:=by decide) (he:K2 (e::es) X.env=(false,eval e X.env)::K2 es X.env:=by rfl) (Nw:(Lb p2 (K2 es X.env)).any (·.1)=false:=by rfl)
 (hN:X.N.Nodup:=by first | assumption | decide) (hi:X.N[i]?=some y:=by rfl) (hx:autoParam (Loc X.env.scope y) Oe)
 (hs:K9 (.Call (.Name x p) (e::es) [] p2) (some (.Name y p1)) pos.line X.env=pure false:=by rfl) (hf:autoParam (X.fn y=true∨X.env.scope.names.lookup y=some .local) Od):
 W1 X (.Assign [.Name y p1] (.Call (.Name x p) (e::es) [] p2) pos) Γ N T:=λσ H0 R0 H R E D dn dr=>
 sS (eT hN hi hx aJ hs hf) (dS C hr ha hS E (λH1 R1 v H' R' E1 s1 xx t=>by
  obtain⟨z,e1,hz⟩:=t
  exact dn _ H' R' _ ((E1.grow xx).set i e1) (s1.trans xx.r) (h z hz)) hg Nx he Nw)
theorem Bl {tg iter:Expr}{w:Row}(h:EV X iter Γ bA w Γ1):IV X tg iter Γ af [w.1,w.2.1,w.2.2.1,w.2.2.2] Γ1:=by
 refine⟨_,DK aJ,λσ H0 R0 H R E Rq q=>h σ H0 R0 H R E _ λv H1 R1 E1 s1 e1=>?_⟩
 obtain⟨a,rfl,ha⟩:=e1
 have hq0:∀H' R':Hp,ar R1 R'->ar R' H'->ei X.K H' a [.int w.1,.int w.2.1,.int w.2.2.1,.int w.2.2.2]:=λH' R' sR sH=>ei.of (sH _ _ (sR _ _ ha))
 refine⟨a,rfl,⟨_,hq0 H1 R1 (ar.refl _) E1.sub⟩,q _ H1 R1 E1 s1 (by show 4<=K4;decide) λH' R' sR sH i=>⟨λx hx=>?_,λhi=>⟨_,hq0 H' R' sR sH,hi⟩⟩⟩
 have e2:([.int w.1,.int w.2.1,.int w.2.2.1,.int w.2.2.2]:List V)[i]?=some (.int x):=by
  have:=congrArg (Option.map V.int) hx
  rw[← Je] at this
  exact this
 refine⟨⟨_,_,hq0 H' R' sR sH,e2⟩,λv H2 hy=>?_⟩
 obtain⟨rfl,hy⟩:=hy
 have:=hy _ (hq0 _ R' sR sH)
 rw[e2] at this
 cases this
 exact⟨R',Ext.refl sH,rfl⟩
theorem sQ {a:Expr}{p pos:Pos}{x:α}{n:Nat}(hm:X.mg "len"=none)(ha:EV X a Γ r x Γ1)(ht:∀(R:Hp) v,r.R X.K R v x->∃q vs,v= .ref q/\R q=some (.tup vs)/\vs.length=n)(hs:K2 [a] X.env=[(false,eval a X.env)]:=by rfl)(hg:Gl X "len":=by rfl):EV X (.Call (.Name "len" p) [a] [] pos) Γ af (n:Int) Γ1:=by
 intro σ H0 R0 H R E Q q
 refine eS (dq fB hg hm LJ (aH aJ bJ hs) (by decide) (by decide) hs) (ha σ H0 R0 H R E _ λv H1 R1 E1 s1 e1=>?_)
 obtain⟨p,vs,rfl,hp,hl⟩:=ht R1 v e1
 refine⟨p,vs,rfl,.inr (ei.of (E1.sub _ _ hp)),?_⟩
 rw[hl]
 exact q _ H1 R1 E1 s1 rfl
theorem AA {K:MP}{r':Rep β}{x:α×β}(R:Hp)(v:V)(h:(aP r r').R K R v x):∃q vs,v= .ref q/\R q=some (.tup vs)/\vs.length=2:=by
 obtain⟨a,v1,v2,rfl,ha,_⟩:=h
 exact⟨a,_,rfl,ha,rfl⟩
theorem CQ {K:MP}{x:Row}(R:Hp)(v:V)(h:bA.R K R v x):∃q vs,v= .ref q/\R q=some (.tup vs)/\vs.length=4:=by
 obtain⟨a,rfl,ha⟩:=h
 exact⟨a,_,rfl,ha,rfl⟩
end
inductive Reach (es:Ij) (s:Int):Int->Prop
 | base:Reach es s s
 | step {a b:Int}:Reach es s a->(a,b)∈es->Reach es s b
theorem Reach.sub {es:Ij}{s:Int}{P:Int->Prop}(h0:P s)(hc:∀a b,P a->(a,b)∈es->P b):∀{k:Int},Reach es s k->P k
 | _,.base=>h0
 | _,.step r m=>hc _ _ (Reach.sub h0 hc r) m
section
variable {X:Cx}{Γ Γ1 Γ2 Γ3:Ga}{α β γ δ:Type}{N:Ga->Prop}{T:RT}
theorem Ax:d7 X (LD .Mult) (rI IntMulOk λi j=>.int (i * j)):=vX λ_ _ _ _ _ _ _ hc q=>mul_int q hc
theorem j5 {a b:Expr}{pos:Pos}{x y:Int}(ha:EV X a Γ af x Γ1)(hb:EV X b Γ1 af y Γ2)(h:IntMulOk x y):EV X (.BinOp a .Mult b pos) Γ af (x * y) Γ2:=kH Ax ha hb λR v u H Q e1 e2 q=>⟨x,y,e1,e2,h,q _ rfl⟩
def cN (a:Addr)(r:Rep α)(xs:List α):jv where
 fp:=[a]
 R:=λK H R v=>v= .ref a/\∃vs,H a=some (.lst vs)/\PySem.Paired (r.R K R) vs xs
 loc:=λhH hR ⟨e,vs,h,p⟩=>⟨e,vs,(hH a (II.mpr rfl)).trans h,Paired.map (λ_ _=>r.mono hR) p⟩
 has:=λ⟨e,vs,h,p⟩ b hb=>by rw[II.mp hb,h];exact KH _
theorem gj {K:MP}{H R:Hp}{a:Addr}{r:Rep α}{xs:List α}{vs:List V}(h:H a=some (.lst vs))(hR:R a=none)(p:PySem.Paired (r.R K R) vs xs):(Ent.ob (cN a r xs)).ok K H R (some (.ref a)):=
 ⟨⟨_,rfl,rfl,vs,h,p⟩,λb hb=>by rw[II.mp hb];exact hR⟩
theorem eX {K:MP}{H R:Hp}{a:Addr}{r:Rep α}{xs:List α}{o:Option V}(h:(Ent.ob (cN a r xs)).ok K H R o):o=some (.ref a)/\(∃vs,H a=some (.lst vs)/\PySem.Paired (r.R K R) vs xs)/\R a=none:=by
 obtain⟨⟨v,rfl,rfl,q⟩,n⟩:=h
 exact⟨rfl,q,n a (II.mpr rfl)⟩
theorem WS.box (i:Nat){Oq:List Stmt}{r:Rep α}{xs:List α}(hΓ:Γ[i]?=some (.mu r xs))(h:∀a,WS X Oq (Γ.set i (.ob (cN a r xs))) N T):WS X Oq Γ N T:=λσ H0 R0 H R E D dn dr=>by
 obtain⟨a,vs,ea,ha,hR,pp⟩:=E.ent i _ hΓ
 exact h a σ H0 R0 H R (E.tell hΓ (by rw[ea];exact gj ha hR pp) λb w=>by
  rw[show b=a from II.mp w];exact cy.mpr ea) D dn dr
theorem EV.box (i:Nat){e:Expr}{a:Addr}{r:Rep α}{xs N7:List α}{rr:Rep β}{y:β}(h:EV X e (Γ.set i (.mu r xs)) rr y Γ1)(hΓ:Γ[i]?=some (.ob (cN a r xs)))(hΓ1:Γ1[i]?=some (.mu r N7)):EV X e Γ rr y (Γ1.set i (.ob (cN a r N7))):=by
 intro σ H0 R0 H R E Q q
 obtain⟨ea,⟨vs,ha,pp⟩,hR⟩:=eX (E.ent i _ hΓ)
 refine h σ H0 R0 H R (E.tell hΓ (by rw[ea];exact⟨a,vs,rfl,ha,hR,pp⟩) λb w=>by rw[cy.mp w] at ea;cases ea;exact II.mpr rfl) Q λv H' R' E' s' hr=>q v H' R' ?_ s' hr
 obtain⟨a',N3,NM,N8,NI,Ol⟩:=E'.ent i _ hΓ1
 rw[ea] at NM;cases NM
 exact E'.tell hΓ1 (by rw[ea];exact gj N8 NI Ol) λb w=>by rw[show b=a from II.mp w];exact cy.mpr ea
theorem TV.box (i:Nat){e:Expr}{a:Addr}{r:Rep α}{xs N7:List α}{y:Bool}(h:TV X e (Γ.set i (.mu r xs)) y Γ1)(hΓ:Γ[i]?=some (.ob (cN a r xs)))(hΓ1:Γ1[i]?=some (.mu r N7)):TV X e Γ y (Γ1.set i (.ob (cN a r N7))):=by
 intro σ H0 R0 H R E Q q
 obtain⟨ea,⟨vs,ha,pp⟩,hR⟩:=eX (E.ent i _ hΓ)
 refine h σ H0 R0 H R (E.tell hΓ (by rw[ea];exact⟨a,vs,rfl,ha,hR,pp⟩) λb w=>by rw[cy.mp w] at ea;cases ea;exact II.mpr rfl) Q λH' R' E' s'=>q H' R' ?_ s'
 obtain⟨a',N3,NM,N8,NI,Ol⟩:=E'.ent i _ hΓ1
 rw[ea] at NM;cases NM
 exact E'.tell hΓ1 (by rw[ea];exact gj N8 NI Ol) λb w=>by rw[show b=a from II.mp w];exact cy.mpr ea
theorem aq.j7 {K:MP}{σ:St}{H0 R0 H R:Hp}(E:aq K σ H0 R0 H R Γ){i:Nat}{e0 en:Ent}(hi:Γ[i]?=some e0)(ho:en.ok K H R (σ[i]?).join)(Nt:∀b∈en.fp (σ[i]?).join,H0 b=none/\∀(j:Nat) (e:Ent),j≠i->Γ[j]?=some e->b∉e.fp (σ[j]?).join):aq K σ H0 R0 H R (Γ.set i en):=by
 refine⟨E.ext,λj e q=>?_,λj e b q w=>?_,λj k e e' b q q' w w'=>?_,by rw[Jp];exact E.len⟩
 ·rcases set_at q with⟨rfl,rfl,_⟩ | ⟨hj,q1⟩
  ·exact ho
  ·exact E.ent j e q1
 ·rcases set_at q with⟨rfl,rfl,_⟩ | ⟨hj,q1⟩
  ·exact(Nt b w).1
  ·exact E.nw j e b q1 w
 ·rcases set_at q with⟨rfl,rfl,_⟩ | ⟨hj,q1⟩
  ·rcases set_at q' with⟨rfl,rfl,_⟩ | ⟨hk,Of⟩
   ·rfl
   ·exact absurd w' ((Nt b w).2 k e' hk Of)
  ·rcases set_at q' with⟨rfl,rfl,_⟩ | ⟨hk,Of⟩
   ·exact absurd w ((Nt b w').2 j e hj q1)
   ·exact E.ds _ _ _ _ b q1 Of w w'
variable {P:K7}{w:World}{K:MP}{mg:HZ}{base:Heap}
end
section
variable {α:Type}
def cJ (k:Nat)(y:α)(xs:List α):List α:=xs.take k++y::xs.drop k
theorem gK {k:Nat}{y:α}{xs:List α}:(cJ k y xs).length=xs.length + 1:=by
 unfold cJ;rw[IL,I0,Jm,J6];omega
theorem oF {k:Nat}{y:α}{xs:List α}{z:α}:z∈cJ k y xs↔z=y∨z∈xs:=by
 unfold cJ
 rw[IS,IY]
 have:z∈xs↔z∈xs.take k∨z∈xs.drop k:=by rw[← IS,Kh]
 rw[this]
 constructor
 ·rintro(h | h | h)
  ·exact .inr (.inl h)
  ·exact .inl h
  ·exact .inr (.inr h)
 ·rintro(h | h | h)
  ·exact .inr (.inl h)
  ·exact .inl h
  ·exact .inr (.inr h)
end
section
variable {X:Cx}{Γ Γ1 Γ2 Γ3:Ga}{α β γ δ:Type}{N:Ga->Prop}{T:RT}
variable {as:Ig}{rs:List Row}{H:Hp}{b:Addr}{r:Row}{a:Addr}{j:Nat}{p1:Pos}{Oq:List Stmt}
def AQ:V->List V->Hp->VK->Prop:=λx vs H Q=>∃l xs i y,x= .ref l/\vs=[.int i,y]/\H l=some (.lst xs)/\0<=i/\i<=(xs.length:Int)/\xs.length < K4/\Q .Nu (upd H l (.lst (cJ i.toNat y xs)))
theorem vj:wJ X "list.insert" AQ:=by
 intro Nh s σ H x vs v us Q I rx rv h
 obtain⟨l,xs,i,y,rfl,rfl,hH,h0,h1,hz,q⟩:=h
 cases rx
 obtain⟨u1,u2,rfl,⟨t,rfl⟩,r2⟩:=vals2 rv
 obtain⟨z,Nj,n,r,hl,e⟩:=I.jC hH
 have RC:Builtin.List.listFitsIndex i=true:=Mf (by omega) (by
  have:K4 < 2 ^ 63:=by decide
  omega)
 refine Lz PySem.F.slot_list_insert ⟨_,e,rfl⟩ PySem.F.entry_list_insert (PySem.F.args_list_insert_3 _ _ _) (PySem.AutoSeq1.list_insert_list_int_val_1 l _ n i t u2 (by simp[RC]) (by rw[Jc];omega)) ⟨e,?_⟩
 refine⟨.Nu,_,I.qF (its':=cJ i.toNat u2 Nj) hH e ?_ ?_ ?_,rfl,q⟩
 ·have hk:(if i < 0 then(i + ((Nj.toArray.size:Nat):Int)).toNat else min i.toNat Nj.toArray.size)=i.toNat:=by
   rw[if_neg (by omega),Jc];omega
  dsimp only
  rw[hk]
  unfold cJ
  apply Array.ext'
  simp
  exact Kb (by rw[J6];exact Kp _)
 ·unfold cJ;exact(r.take _).append (.cons r2 (r.drop _))
 ·rw[gK];omega
def j9 (r:Row):List V:=[.int r.1,.int r.2.1,.int r.2.2.1,.int r.2.2.2]
def yS:Rep Addr:=⟨λ_ _ v a=>v= .ref a,λ_ h=>h⟩
def iK:Rep Row:=⟨λ_ H v r=>∃b,v= .ref b/\H b=some (.lst (j9 r)),λs ⟨b,e,h⟩=>⟨b,e,s _ _ h⟩⟩
def cM (H:Hp)(as:Ig)(rs:List Row):Prop:=as.length=rs.length/\∀(i:Nat) (b:Addr) (r:Row),as[i]?=some b->rs[i]?=some r->H b=some (.lst (j9 r))
theorem cM.row (h:cM H as rs)(hb:b∈as):∃r,H b=some (.lst (j9 r)):=by
 obtain⟨i,hi,rfl⟩:=JM.mp hb
 exact⟨_,h.2 i _ _ (IF hi) (IF (by rw[← h.1];exact hi))⟩
theorem cM.loc {H':Hp}(h:cM H as rs)(e:∀a∈as,H' a=H a):cM H' as rs:=
 ⟨h.1,λi b r h1 h2=>(e b (IQ h1)).trans (h.2 i b r h1 h2)⟩
theorem cM.put (h:cM H as rs)(nd:as.Nodup)(hb:as[j]?=some b):cM (upd H b (.lst (j9 r))) as (rs.set j r):=by
 refine⟨by rw[Jp];exact h.1,λi c q h1 h2=>?_⟩
 by_cases Ox:i=j
 ·subst Ox
  rw[hb] at h1;cases h1
  have hl:i < rs.length:=by rw[← h.1];exact(IG.mp hb).1
  rw[Ji hl] at h2;cases h2
  exact aA
 ·rw[Jk (KG Ox)] at h2
  have:c≠b:=λz=>by
   subst z
   have l1:=(IG.mp h1)
   have l2:=(IG.mp hb)
   exact Ox ((JI (h₀:=l1.1) (h₁:=l2.1) nd).mp (l1.2.trans l2.2.symm))
  rw[aM this];exact h.2 i c q h1 h2
def cu (a:Addr)(as:Ig)(rs:List Row):jv where
 fp:=a::as
 R:=λK H R v=>v= .ref a/\H a=some (.lst (as.map .ref))/\cM H as rs/\(a::as).Nodup
 loc:=λhH hR ⟨e,h1,h2,h3⟩=>⟨e,(hH a IT).trans h1,h2.loc λb hb=>hH b (IK _ hb),h3⟩
 has:=λ⟨e,h1,h2,h3⟩ b hb=>by
  rcases IY.mp hb with rfl | hb
  ·rw[h1];exact KH _
  ·obtain⟨r,hr⟩:=h2.row hb
   rw[hr];exact KH _
def qC (a:Addr)(as:Ig)(rs:List Row):jv where
 fp:=as
 R:=λK H R v=>v= .ref a/\R a=some (.lst (as.map .ref))/\cM H as rs/\as.Nodup
 loc:=λhH hR ⟨e,h1,h2,h3⟩=>⟨e,hR _ _ h1,h2.loc λb hb=>hH b hb,h3⟩
 has:=λ⟨e,h1,h2,h3⟩ b hb=>by
  obtain⟨r,hr⟩:=h2.row hb
  rw[hr];exact KH _
structure qt (B B':jv) (b:Addr) (r r':Row):Prop where
 mem:b∈B.fp
 fp:B'.fp=B.fp
 get:∀{K:MP} {H R:Hp} {v:V},B.R K H R v->H b=some (.lst (j9 r))
 set:∀{K:MP} {H R:Hp} {v:V},B.R K H R v->B'.R K (upd H b (.lst (j9 r'))) R v
theorem lR {r':Row}(hb:as[j]?=some b)(hr:rs[j]?=some r):qt (cu a as rs) (cu a as (rs.set j r')) b r r' where
 mem:=IK _ (IQ hb)
 fp:=rfl
 get:=λh=>h.2.2.1.2 j b r hb hr
 set:=λ⟨e,h1,h2,h3⟩=>by
  obtain⟨n1,n2⟩:=Jh.mp h3
  exact⟨e,by rw[aM (show a≠b from λz=>n1 (z▸IQ hb))];exact h1,h2.put n2 hb,h3⟩
theorem vQ (i:Nat){o:Expr}{c:Int}{pos:Pos}{B B':jv}{r':Row}{y:Int}(ho:EV X o Γ yS b Γ1)(hΓ1:Γ1[i]?=some (.ob B))(hB:qt B B' b r r')(hy:cS (j9 r) c=some (.int y)):EV X (.Subscript o (.Constant (.int c) j p1) pos) Γ af y Γ1:=by
 intro σ H0 R0 H R E Q q
 refine eS (jt h7 aJ eU (λ_ _=>rfl)) (ho σ H0 R0 H R E _ λv H1 R1 E1 s1 e1=>?_)
 cases e1
 obtain⟨⟨v,ev,hv⟩,_⟩:=E1.ent i _ hΓ1
 exact⟨b,_,c,_,rfl,rfl,bt.of (hB.get hv),hy,q _ H1 R1 E1 s1 rfl⟩
theorem qx (i:Nat){o e:Expr}{k:Nat}{p2 pos:Pos}{B B':jv}{y:Int}(he:EV X e Γ af y Γ1)(ho:EV X o Γ1 yS b Γ2)(hΓ2:Γ2[i]?=some (.ob B))(hB:qt B B' b r (r.1,r.2.1,r.2.2.1,y))(h:N (Γ2.set i (.ob B')))
 (ha:∀v,Lp (.Subscript o (.Constant (.int 3) k p1) p2) X.env v=(do
  let ov ← Lk [v] (eval o X.env)
  let iv ← Lk [v,ov] (eval (.Constant (.int 3) k p1) X.env)
  LL p2
  Lk [v,ov,iv] (LR ov iv v)
  L5 [v,ov,iv] []):=by intro _;rfl)
 (hs:Ls [.Subscript o (.Constant (.int 3) k p1) p2] e pos.line X.env=pure false:=by rfl) (hw:Lu [.Subscript o (.Constant (.int 3) k p1) p2] e X.env=pure none:=by rfl) (h1:(Lg [.Subscript o (.Constant (.int 3) k p1) p2] X.env).map (·.2)=[Lp (.Subscript o (.Constant (.int 3) k p1) p2) X.env]:=by rfl):
 W1 X (.Assign [.Subscript o (.Constant (.int 3) k p1) p2] e pos) Γ N T:=λσ H0 R0 H R E D dn dr=>by
 refine sS (iw aJ (ng aJ eU set_list ha) hs hw h1) (he σ H0 R0 H R E _ λv H1 R1 E1 s1 e1=>ho σ H0 R0 H1 R1 E1 _ λu H2 R2 E2 s2 e2=>?_)
 cases e2
 cases e1
 obtain⟨⟨v,ev,hv⟩,hn⟩:=E2.ent i _ hΓ2
 refine⟨b,_,3,3,rfl,rfl,hB.get hv,rfl,?_⟩
 exact dn σ _ R2 _ (E2.mv (u:=.lst (j9 (r.1,r.2.1,r.2.2.1,y))) (en:=.ob B') hΓ2 hB.mem ⟨⟨v,ev,hB.set hv⟩,by rw[hB.fp];exact hn⟩ λb' w=>.inl (by rw[Ent.fp,hB.fp] at w;exact w)) (s1.trans s2) h
theorem WS.AO (i:Nat){r:Rep α}(hΓ:Γ[i]?=some (.mu r []))(h:∀a,WS X Oq (Γ.set i (.ob (cu a [] []))) N T):WS X Oq Γ N T:=λσ H0 R0 H R E D dn dr=>by
 obtain⟨a,vs,ea,ha,hR,pp⟩:=E.ent i _ hΓ
 cases pp
 refine h a σ H0 R0 H R (E.tell hΓ ⟨⟨.ref a,ea,rfl,ha,⟨rfl,λi b r h1=>by simp at h1⟩,by simp⟩,λb hb=>?_⟩ λb w=>?_) D dn dr
 ·rw[show b=a by simpa[cu] using hb];exact hR
 ·rw[show b=a by simpa[Ent.fp,cu] using w];exact cy.mpr ea
theorem tW (i:Nat){x:Str}{p pos:Pos}(hm:X.mg "len"=none)(hΓ:Γ[i]?=some (.ob (cu a as rs)))(hN:X.N[i]?=some x:=by rfl)(hv:autoParam (bZ X.env.scope x) NC)
 (hd:Nr x:=by decide) (Np:NA x:=by decide) (hg:Gl X "len":=by rfl):EV X (.Call (.Name "len" p) [.Name x p1] [] pos) Γ af (rs.length:Int) Γ:=by
 intro σ H0 R0 H R E Q q
 obtain⟨⟨v,ea,rfl,ha,hr,_⟩,hR⟩:=E.ent i _ hΓ
 refine eS (dq fB hg hm LJ (aH (ba hN hv hd Np) bJ rfl) (by decide) (by decide) rfl) ⟨.ref a,at_of ea,a,_,rfl,.inl (bt.of ha),?_⟩
 rw[IM,hr.1]
 exact q _ H R E (ar.refl _) rfl
theorem aq.xg {K:MP}{σ:St}{H0 R0:Hp}:∀(as:Ig) {R:Hp},aq K σ H0 R0 H R Γ->(∀b∈as,H b≠none/\H0 b=none/\Off b σ Γ)->∃R',aq K σ H0 R0 H R' Γ/\ar R R'/\∀b∈as,R' b=H b
 | [],R,E,_=>⟨R,E,ar.refl _,λb hb=>by cases hb⟩
 | b::as,R,E,h=>by
   obtain⟨h1,h2,h3⟩:=h b IT
   obtain⟨u,hu⟩:∃u,H b=some u:=by cases q:H b with
    | none=>exact absurd q h1
    | some u=>exact⟨u,rfl⟩
   have key:∃R1,aq K σ H0 R0 H R1 Γ/\ar R R1/\R1 b=some u:=by
    cases q:R b with
    | none=>exact⟨_,E.nq hu q h2 h3,ar.fresh q _,aA⟩
    | some u'=>
      have:=E.sub b u' q
      rw[hu] at this
      cases this
      exact⟨R,E,ar.refl _,q⟩
   obtain⟨R1,E1,s1,r1⟩:=key
   obtain⟨R2,E2,s2,r2⟩:=aq.xg as E1 λc hc=>h c (IK _ hc)
   refine⟨R2,E2,s1.trans s2,λc hc=>?_⟩
   rcases IY.mp hc with rfl | hc
   ·rw[s2 _ _ r1,hu]
   ·exact r2 c hc
theorem WS.outer (i:Nat)(hΓ:Γ[i]?=some (.ob (cu a as rs)))(h:WS X Oq (Γ.set i (.ob (qC a as rs))) N T):WS X Oq Γ N T:=λσ H0 R0 H R E D dn dr=>by
 obtain⟨⟨v,ea,rfl,ha,hr,nd⟩,hR⟩:=E.ent i _ hΓ
 obtain⟨n1,n2⟩:=Jh.mp nd
 have hl:i < Γ.length:=(IG.mp hΓ).1
 have apart:∀(j:Nat) (e:Ent),j≠i->Γ[j]?=some e->∀b∈a::as,b∉e.fp (σ[j]?).join:=λj e hj qj b hb w=>hj (E.ds j i e _ b qj hΓ w hb)
 have E1:aq X.K σ H0 R0 H R (Γ.set i .no):=E.tell hΓ trivial λb w=>by cases w
 have E2:=E1.nq ha (hR a IT) (E.nw i _ a hΓ IT) λj e qj w=>by
  rcases set_at qj with⟨rfl,rfl,_⟩ | ⟨hj,q1⟩
  ·cases w
  ·exact apart j e hj q1 a IT w
 have s2:ar R (upd R a (.lst (as.map .ref))):=ar.fresh (hR a IT) _
 have E3:=E2.j7 (i:=i) (e0:=.no) (en:=.ob (qC a as rs)) (Ji hl) ⟨⟨.ref a,ea,rfl,aA,hr,n2⟩,λb hb=>by
  rw[aM (show b≠a from λz=>n1 (z▸hb))];exact hR b (IK _ hb)⟩ λb w=>⟨E.nw i _ b hΓ (IK _ w),λj e hj qj=>apart j e hj (by rwa [Jk (KG hj)] at qj) b (IK _ w)⟩
 rw[set_set] at E3
 exact h σ H0 R0 H _ E3 D (λσ2 H2 R2 Γ2 E2 s2'=>dn σ2 H2 R2 Γ2 E2 (s2.trans s2')) dr
theorem jy {K:MP}{H:Hp}:∀{as:Ig} {rs:List Row},cM H as rs->PySem.Paired (iK.R K H) (as.map .ref) rs
 | [],[],_=>.nil
 | [],_::_,h=>absurd h.1 (by simp)
 | _::_,[],h=>absurd h.1 (by simp)
 | a::as,r::rs,h=>.cons ⟨a,rfl,h.2 0 a r rfl rfl⟩ (jy ⟨by simpa using h.1,λi b q h1 h2=>h.2 (i + 1) b q (by simpa using h1) (by simpa using h2)⟩)
theorem WS.AU (i:Nat)(hΓ:Γ[i]?=some (.ob (qC a as rs)))(hz:rs.length<=K4)(h:WS X Oq (Γ.set i (.im (ak iK) rs)) N T):WS X Oq Γ N T:=λσ H0 R0 H R E D dn dr=>by
 obtain⟨⟨v,ea,rfl,ha,hr,nd⟩,hR⟩:=E.ent i _ hΓ
 have hl:i < Γ.length:=(IG.mp hΓ).1
 have E1:aq X.K σ H0 R0 H R (Γ.set i .no):=E.tell hΓ trivial λb w=>by cases w
 obtain⟨R',E2,s',rr⟩:=E1.xg as λb hb=>⟨(Ent.dB (E.ent i _ hΓ) hb).1,E.nw i _ b hΓ hb,λj e qj w=>by
  rcases set_at qj with⟨rfl,rfl,_⟩ | ⟨hj,q1⟩
  ·cases w
  ·exact hj (E.ds j i e _ b q1 hΓ w hb)⟩
 have O3:cM R' as rs:=hr.loc rr
 have E3:=E2.j7 (i:=i) (e0:=.no) (en:=.im (ak iK) rs) (Ji hl) ⟨.ref a,ea,a,_,rfl,s' _ _ ha,jy O3,hz⟩ λb w=>by cases w
 rw[set_set] at E3
 exact h σ H0 R0 H _ E3 D (λσ2 H2 R2 Γ2 E2 s2'=>dn σ2 H2 R2 Γ2 E2 (s'.trans s2')) dr
def nC:Ent->Ent
 | .im r x=>.im r x
 | _=>.no
theorem aq.N6 {K:MP}{σ:St}{H0 R0 R:Hp}(E:aq K σ H0 R0 H R Γ):aq K σ H H H H (Γ.map nC):=by
 have NB:∀(i:Nat) (e:Ent) (o:Option V),(Γ.map nC)[i]?=some e->e.fp o=[]:=λi e o q=>by
  rw[Je] at q
  cases h:Γ[i]? with
  | none=>rw[h] at q;cases q
  | some e'=>rw[h] at q;cases q;cases e'<;>rfl
 refine⟨Ext.refl (ar.refl _),λi e q=>?_,λi e a q w=>absurd w (by rw[NB i e _ q];exact Jy),λi j e e' a q _ w=>absurd w (by rw[NB i e _ q];exact Jy),by rw[IM];exact E.len⟩
 rw[Je] at q
 cases h:Γ[i]? with
 | none=>rw[h] at q;cases q
 | some e'=>
   rw[h] at q;cases q
   have:=E.ent i e' h
   cases e' with
   | im r x=>obtain⟨v,e,hr⟩:=this;exact⟨v,e,r.mono E.sub hr⟩
   | no=>trivial
   | mu r x=>trivial
   | di x=>trivial
   | ob x=>trivial
theorem A7 (i:Nat){Γf:Ga}(hF:∀(σ:St) (H0 R0 H R:Hp),aq X.K σ H0 R0 H R Γ->aq X.K σ H H H H Γf){y:Str}{py NK:Pos}{tg elt iter:Expr}{ifs:Ii}{scope:Scope}{pos:Pos}{cl:List (Str×Addr)}{own fr:Ic}{ix:List Nat}{ra:Rep α}{rb:Rep β}{xs:List α}{p:α->Bool}{f:α->β}{bf:α->Ga->Ga}
 (flat:∀(K:MP) (H H':Hp) v y,rb.R K H v y->rb.R K H' v y)
 (S:dj X scope cl own fr ix) (hit:IV X tg iter Γf ra xs Γf)
 (hb:∀(C:Addr) (s:K3) (H:Hp) (ex:Ig),BG (aL X scope cl C (own++fr) s H ex) tg ra bf) (hw:∀x,Wk (bf x (cE own ix Γf)) (cE own ix Γf))
 (ht:∀(C:Addr) (s:K3) (H:Hp) (ex:Ig) x,x∈xs->TF (aL X scope cl C (own++fr) s H ex) ifs (bf x (cE own ix Γf)) (p x) (bf x (cE own ix Γf)))
 (he:∀(C:Addr) (s:K3) (H:Hp) (ex:Ig) x,x∈xs->p x=true->EV (aL X scope cl C (own++fr) s H ex) elt (bf x (cE own ix Γf)) rb (f x) (bf x (cE own ix Γf)))
 (h:N (Γ.set i (.mu rb ((xs.filter p).map f))))
 (NU:K9 (.ListComp elt [⟨tg,iter,ifs,0⟩] scope pos) (some (.Name y py)) NK.line X.env=pure true:=by rfl)
 (hN:X.N.Nodup:=by first | assumption | decide) (Pg:X.N[i]?=some y:=by rfl) (hx:autoParam (Loc X.env.scope y) Oe)
 (hc:X.calm=true:=by rfl) (hs:∀x,Lc iter X.env x=pure x:=by intro _;rfl) (hf:autoParam (X.fn y=true∨X.env.scope.names.lookup y=some .local) Od):
 W1 X (.Assign [.Name y py] (.ListComp elt [⟨tg,iter,ifs,0⟩] scope pos) NK) Γ N T:=λσ H0 R0 H R E D dn dr=>by
 obtain⟨wi,hi,hit⟩:=hit
 refine sS (iI (i:=i) (g:=λv σ H Q=>∀C s Hh ex,iC (aL X scope cl C (own++fr) s Hh ex) tg v σ H Q) (tc:=λσ H Q=>∀C s Hh ex,jg (aL X scope cl C (own++fr) s Hh ex) ifs σ H Q) (te:=λσ H Q=>∀C s Hh ex,eF (aL X scope cl C (own++fr) s Hh ex) elt σ H Q) NU hN Pg hx hc S hi
  (λC s H ex=>⟨λNh s1 σ H v u Q I r h=>h C s _ ex Nh s1 u I r,λNh s1 σ H Q I h=>h C s _ ex Nh s1 I,λNh s1 σ H Q I h=>h C s _ ex Nh s1 I⟩) hs hf) ?_
 refine hit σ H H H H (hF σ H0 R0 H R E) _ λJ H1 R1 E1 s1 hz src=>kU (Q:=λv H'=>D.nx (σ.set i (some v)) H') E1 src hz hb hw ht he λa vs H' R' xx ha pp=>?_
 have sH:ar H H':=E1.ext.h.trans xx.h
 have E2:=E.grow (H':=H') (R':=R) ⟨sH,ar.refl _,E.sub.trans sH,λ_ _=>rfl⟩
 exact dn _ _ R _ ((E2.grow (Ext.c7 E2.sub ha _)).rm (u:=.lst vs) (en:=.mu rb ((xs.filter p).map f)) i ⟨a,vs,rfl,aA,E2.sub.free ha,Paired.map (λ_ _=>flat X.K R' R _ _) pp⟩ (E2.ext.h.free ha) λj e _ q w=>E2.off ha j e q w) (ar.refl _) h
theorem pd {a:Expr}{p pos:Pos}(hm:X.mg "tuple"=none)(ha:EV X a Γ iK r Γ1)(hs:K2 [a] X.env=[(false,eval a X.env)]:=by rfl)(hg:Gl X "tuple":=by rfl):EV X (.Call (.Name "tuple" p) [a] [] pos) Γ bA r Γ1:=by
 intro σ H0 R0 H R E Q q
 refine eS (gx pD hg hm KY (aH aJ bJ hs) (by decide) (by decide) hs) (ha σ H0 R0 H R E _ λv H1 R1 E1 s1 e1=>?_)
 obtain⟨b,rfl,hb⟩:=e1
 refine⟨b,_,rfl,.inl ⟨bt.of (E1.sub _ _ hb),λl hl=>?_⟩⟩
 exact q _ _ (upd R1 l _) (E1.grow (Ext.fresh E1.sub hl _)) (s1.trans (ar.fresh (E1.sub.free hl) _)) ⟨l,rfl,aA⟩
end
section
variable {X:Cx}{Γ Γ1 Γ2 Γ3:Ga}{α β γ δ:Type}{N:Ga->Prop}{T:RT}
theorem EV.rep {e:Expr}{r:Rep α}{x:α}{r':Rep β}{y:β}(h:EV X e Γ r x Γ1)(c:∀(R:Hp) v,r.R X.K R v x->r'.R X.K R v y):EV X e Γ r' y Γ1:=λσ H0 R0 H R E Q q=>h σ H0 R0 H R E Q λv H' R' E' s' e'=>q v H' R' E' s' (c R' v e')
end
section
variable {X:Cx}{Γ Γ1 Γ2 Γ3:Ga}{α β γ δ:Type}{N:Ga->Prop}{T:RT}
theorem paired_ints {K:MP}{R:Hp}:∀ys:Ib,PySem.Paired (af.R K R) (ys.map V.int) ys
 | []=>.nil
 | _::r=>.cons rfl (paired_ints r)
theorem pC {a:Expr}{p1 p2 pos Rj:Pos}{n:Int}(hml:X.mg "list"=none)(hmr:X.mg "range"=none)(ha:EV X a Γ af n Γ1)(hn: -1000000<=n/\n<=1000000)(hs:K2 [a] X.env=[(false,eval a X.env)]:=by rfl)
 (Pc:K2 [.Call (.Name "range" p2) [a] [] Rj] X.env=[(false,eval (.Call (.Name "range" p2) [a] [] Rj) X.env)]:=by rfl) (hc:X.calm=true:=by rfl) (hg:Gl X "list":=by rfl) (hgr:Gl X "range":=by rfl):aE X (.Call (.Name "list" p1) [.Call (.Name "range" p2) [a] [] Rj] [] pos) Γ af (ups 0 n.toNat) Γ1:=by
 intro σ H0 R0 H R E Q q
 refine eS (gx (qB hc) hg hml KQ (aH (gx oC hgr hmr boot_range (aH aJ bJ hs) (by decide) (by decide) hs) bJ Pc) (by decide) (by decide) Pc) (ha σ H0 R0 H R E _ λv H1 R1 E1 s1 e1=>⟨n,by rw[show v=V.int n from e1],λp hp=>?_⟩)
 refine⟨p,0,n,rfl,aA,by decide,by decide,hn.1,hn.2,λd hd=>?_⟩
 have E2:=E1.grow (Ext.c7 E1.sub hp (.OM 0 n))
 rw[Int.sub_zero]
 exact q d _ _ R1 (E2.grow (Ext.c7 E2.sub hd _)) s1 aA (E2.sub.free hd) (E2.ext.h.free hd) (E2.off hd) (paired_ints _) (by rw[aC];exact Kq (show n.toNat<=1000000 by omega) (by decide))
end
section
variable {X:Cx}{Γ Γ1 Γ2 Γ3:Ga}{α β γ δ:Type}{N:Ga->Prop}{T:RT}
variable {x:Str}{F:Ij}{r:Rep α}{p1:Pos}{e a:Expr}{r':Rep β}{n m:Nat}{p2:Pos}{Γf:Ga}
theorem l8 (xs:Array (Int×Tok)):∀n:Nat,preSum (numAt xs) n=((xs.toList.map (·.1)).take n).sum
 | 0=>rfl
 | n + 1=>by
   have e:preSum (numAt xs) (n + 1)=preSum (numAt xs) n + numAt xs n:=rfl
   rw[e,l8 xs n,PySem.sum_take_succ,numAt_eq]
theorem wZ (hc:X.calm=true):dH X (.builtin "sum") (λxs H Q=>∃(p:Addr) (ns:Ib),xs=[.ref p]/\bt X.K H p (ns.map V.int)/\Q (.int ns.sum) H):=by
 intro Nh s σ H xs us Q I r h
 obtain⟨p,ns,rfl,hq,q⟩:=h
 obtain⟨u,rfl,rx⟩:=vals1 r
 cases rx
 obtain⟨Nj,r',pl,hz⟩:=I.list hq
 have hi:=intsAre_of r'
 have hl:=pl.isList
 obtain⟨xs,e⟩:=hi.allInts.items
 have QX:ns=xs.toList.map (·.1):=by rw[← hi.numsOf,← nums_intItems,← e]
 rw[e] at hl
 refine call_sum_walkG (iter_intList hl λs₂ e st O4 hlI=>?_)
 subst e
 refine⟨_,_,_,_,_,_,numAt xs,rfl,Walks.list (A:=X.A.in1) (I.ok.hd hc) _ p hlI (intItems xs),st,O4,(λ_ _=>intItems_at),λh' tk t' hk=>?_⟩
 have es:preSum (numAt xs) (intItems xs).size=ns.sum:=by
  rw[l8,QX,Kb]
  simp[intItems]
 rw[es]
 exact⟨.int _,H,I.kept (old_kept hk),⟨t',rfl⟩,q⟩
theorem ny {p pos:Pos}{ns:Ib}(hm:X.mg "sum"=none)(ha:EV X a Γ (ak af) ns Γ1)(hs:K2 [a] X.env=[(false,eval a X.env)]:=by rfl)(hc:X.calm=true:=by rfl)(hg:Gl X "sum":=by rfl):EV X (.Call (.Name "sum" p) [a] [] pos) Γ af ns.sum Γ1:=
 pJ (wZ hc) hm PyProof.Rows.boot_sum ha (λR H v Q s ⟨p,vs,e,hp,pp,_⟩ q=>⟨p,ns,by rw[e],by rw[← eD pp];exact bt.of (s _ _ hp),q _ rfl⟩) hs hg
theorem tN [DecidableEq α] [DecidableEq β](e:da r n)(e':da r' m){X:Cx}{Nh:Ia}{σ:St}{H:Hp}{s:K3}{R:Hp}{A:La}(I:Inv X Nh σ H s)(sub:ar R H){a b:Addr}{v1 v2 w1 w2:V}{x y:α×β}(ha:R a=some (.tup [v1,v2]))(hb:R b=some (.tup [w1,w2]))
 (p1:r.R X.K R v1 x.1) (p2:r'.R X.K R v2 x.2) (q1:r.R X.K R w1 y.1) (q2:r'.R X.K R w2 y.2) (hu:A.units + (n + 1) < cLine) (hu':A.units + (m + 1) < cLine):
 ME A s (.ref a) (.ref b) (decide (x=y))/\MF A s (.ref a) (.ref b) (!decide (x=y)):=by
 have key:=xc (A:=A) (k:=λj=>if j=0 then decide (x.1=y.1) else decide (x.2=y.2)) I sub ha hb rfl (by omega) λus OL hv hw j h1 h2=>by
  cases hv with
  | cons a1 t=>cases t with
    | cons a2 t=>cases t;cases hw with
      | cons b1 t=>cases t with
        | cons b2 t=>
          cases t
          match j,h1 with
          | 0,_=>exact e.eq (A:=A.in1) I sub a1 b1 p1 q1 (by rw[in1_units];omega)
          | 1,_=>exact e'.eq (A:=A.in1) I sub a2 b2 p2 q2 (by rw[in1_units];omega)
          | j + 2,h=>exact absurd h (by simp)
 have d:(JH [v1,v2].length).all (λj=>if j=0 then decide (x.1=y.1) else decide (x.2=y.2))=decide (x=y):=by
  obtain⟨x1,x2⟩:=x
  obtain⟨y1,y2⟩:=y
  simp[List.range_succ,Ip]
 rw[d] at key
 exact key
theorem sT [DecidableEq α] [DecidableEq β]{k:Nat}(e:da r n)(e':da r' m)(hn:n < k)(hm:m < k):da (aP r r') k:=by
 have inj:∀{K:MP} {R:Hp} {v:V} {x y:α×β},(aP r r').R K R v x->(aP r r').R K R v y->x=y:=by
  rintro K R v ⟨x1,x2⟩ ⟨y1,y2⟩ ⟨a,v1,v2,rfl,h,p1,p2⟩ ⟨a',w1,w2,e1,h',q1,q2⟩
  cases e1
  rw[h] at h'
  cases h'
  exact Prod.ext (e.inj p1 q1) (e'.inj p2 q2)
 refine⟨inj,?_⟩
 intro X Nh σ H s R A I sub v u vv uu x y rv ru h1 h2 hu
 have Q4:=h1
 have Q3:=h2
 obtain⟨a,v1,v2,rfl,ha,p1,p2⟩:=h1
 obtain⟨b,w1,w2,rfl,hb,q1,q2⟩:=h2
 cases rv
 cases ru
 by_cases NY:a=b
 ·subst NY
  rw[decide_eq_true (inj Q4 Q3)]
  exact MD.same _
 ·exact MD.of_refs NY (tN e e' I sub ha hb p1 p2 q1 q2 (by omega) (by omega)).1
theorem zD [DecidableEq α] [DecidableEq β](e:da r n)(e':da r' m)(hu:X.A.units + (n + 1) < cLine)(hu':X.A.units + (m + 1) < cLine){x y:α×β}:gN X .Eq (aP r r') (aP r r') x y (decide (x=y)):=
 ⟨λv u H Q=>∃R,ar R H/\(aP r r').R X.K R v x/\(aP r r').R X.K R u y/\Q (.bl (decide (x=y))) H,λNh s σ H v1 u1 v u Q I rx ry ⟨R,sub,h1,h2,q⟩=>by
  obtain⟨a,v1,v2,rfl,ha,p1,p2⟩:=h1
  obtain⟨b,w1,w2,rfl,hb,q1,q2⟩:=h2
  cases rx
  cases ry
  exact(tN (A:=X.A) e e' I sub ha hb p1 p2 q1 q2 hu hu').1 _ _ _ _ ⟨.bl _,H,I,rfl,q⟩,λR H v u Q s h1 h2 q=>⟨R,s,h1,h2,q⟩⟩
theorem yM {pos p4:Pos}{k:Nat}{w:Row}(ha:EV X a Γ bA w Γ):EV X (.Subscript a (.Slice none (some (.Constant (.int 2) k p4)) none p2) pos) Γ (aP af af) (w.1,w.2.1) Γ:=by
 intro σ H0 R0 H R E Q q
 refine eS (mE Ej aJ sU (tH eU)) (ha σ H0 R0 H R E _ λv H1 R1 E1 s1 e1=>?_)
 obtain⟨p,rfl,hp⟩:=e1
 refine⟨_,rfl,p,_,rfl,ei.of (E1.sub _ _ hp),?_,λd hd=>?_⟩
 ·exact λz=>absurd z.2 (by show¬(HT.Ny 4 4 (some 2)=4);decide)
 ·have s2:ar R1 (upd R1 d (.tup [V.int w.1,V.int w.2.1])):=ar.fresh (E1.sub.free hd) _
  exact q _ _ (upd R1 d (.tup [V.int w.1,V.int w.2.1])) (E1.grow (Ext.fresh E1.sub hd _)) (s1.trans s2) ⟨d,_,_,rfl,aA,rfl,rfl⟩
def cW (F:Ij):List (Int×V):=F.map λp=>(p.1,.int p.2)
def aV (F:Ij)(k:Int):Option Int:=(F.find? λp=>decide (p.1=k)).map (·.2)
def dO (F:Ij)(k v:Int):Ij:=if(aV F k).isSome then F.map (λp=>if p.1=k then(p.1,v) else p) else F++[(k,v)]
theorem gE:∀(F:Ij) (k:Int),dk (dh (cW F)) (Sum.inl k:Key)=(aV F k).map V.int
 | [],_=>rfl
 | p::r,k=>by
   have ih:=gE r k
   by_cases e:p.1=k
   ·have e':(Sum.inl p.1:Key)=Sum.inl k:=by rw[e]
    have h1:dk (dh (cW (p::r))) (Sum.inl k:Key)=some (.int p.2):=dF (p:=((Sum.inl p.1:Key),V.int p.2)) e'
    rw[h1]
    unfold aV
    rw[JR,decide_eq_true e];rfl
   ·have e':¬(Sum.inl p.1:Key)=Sum.inl k:=λz=>e (Sum.inl.inj z)
    have h1:dk (dh (cW (p::r))) (Sum.inl k:Key)=dk (dh (cW r)) (Sum.inl k:Key):=dE (p:=((Sum.inl p.1:Key),V.int p.2)) e'
    rw[h1,ih]
    unfold aV
    rw[JR,decide_eq_false e]
theorem vR (F:Ij)(k v:Int):putK (dh (cW F)) (Sum.inl k:Key) (.int v)=dh (cW (dO F k v)):=by
 unfold putK dO
 rw[gf,gE]
 have e:((aV F k).map V.int).isSome=(aV F k).isSome:=by cases aV F k<;>rfl
 rw[e]
 split
 ·unfold dh cW
  simp only[JO]
  apply Jx
  intro p _
  simp only[Function.comp]
  by_cases h:p.1=k
  ·rw[if_pos (by rw[h]),if_pos h]
  ·rw[if_neg (λz=>h (Sum.inl.inj z)),if_neg h]
 ·unfold dh cW
  rw[Jq,Jq];rfl
theorem eW (F:Ij)(k:Int):gM (cW F) k=(aV F k).isSome:=by
 rw[← kT,gE];cases aV F k<;>rfl
def iB:Rep Ij:=⟨λ_ H v F=>∃a,v= .ref a/\H a=some (.dK (dh (cW F))),λs ⟨a,e,q⟩=>⟨a,e,s _ _ q⟩⟩
theorem jJ {b:Expr}{pos:Pos}{k y:Int}(hu:X.A.units + 1 < cLine)(ha:EV X a Γ iB F Γ1)(hb:EV X b Γ1 af k Γ2)(h:aV F k=some y)(hs:rE b:=by exact λ_ _=>rfl):EV X (.Subscript a b pos) Γ af y Γ2:=by
 intro σ H0 R0 H R E Q q
 refine eS (oj hu aJ aJ hs) (ha σ H0 R0 H R E _ λv H1 R1 E1 s1 e1=>hb σ H0 R0 H1 R1 E1 _ λu H2 R2 E2 s2 e2=>?_)
 obtain⟨p,rfl,hp⟩:=iB.mono s2 e1
 cases e2
 have g:=eY.k (k:=Sum.inl k) (E2.sub _ _ hp)
 rw[gE,h] at g
 exact⟨p,_,rfl,g,q _ H2 R2 E2 (s1.trans s2) rfl⟩
theorem lE (i:Nat){b:Expr}{pos:Pos}{k y:Int}(hu:X.A.units + 1 < cLine)(hb:EV X b Γ af k Γ)(hΓ:Γ[i]?=some (.di (cW F)))(h:aV F k=some y)(hN:X.N[i]?=some x:=by rfl)(hv:autoParam (bZ X.env.scope x) NC)
 (hs:rE b:=by exact λ_ _=>rfl) (hd:Nr x:=by decide) (Np:NA x:=by decide):EV X (.Subscript (.Name x p1) b pos) Γ af y Γ:=by
 intro σ H0 R0 H R E Q q
 obtain⟨a,ea,ha,hR⟩:=E.ent i _ hΓ
 refine eS (oj hu (ba hN hv hd Np) aJ hs) ⟨.ref a,at_of ea,hb σ H0 R0 H R E _ λu H2 R2 E2 s2 e2=>?_⟩
 obtain⟨a',NM,N8,NI⟩:=E2.ent i _ hΓ
 rw[ea] at NM;cases NM
 cases e2
 have g:=eY.k (k:=Sum.inl k) N8
 rw[gE,h] at g
 exact⟨a,_,rfl,g,q _ H2 R2 E2 s2 rfl⟩
theorem yK (i:Nat){f:Expr}{ap cp:Pos}{k z:Int}(hu:X.A.units + 1 < cLine)(he:EV X e Γ af k Γ)(hf:EV X f Γ af z Γ)(hΓ:Γ[i]?=some (.di (cW F)))(hN:X.N[i]?=some x:=by rfl)(hv:autoParam (bZ X.env.scope x) NC)
 (hd:Nr x:=by decide) (Np:NA x:=by decide) (m:M2 X (.Name x p1) "get" ap e f cp:=by exact⟨rfl,rfl,rfl,rfl⟩):EV X (.Call (.Attribute (.Name x p1) "get" ap) [e,f] [] cp) Γ af ((aV F k).getD z) Γ:=by
 intro σ H0 R0 H R E Q q
 obtain⟨a,ea,ha,hR⟩:=E.ent i _ hΓ
 refine eS (yj hu (ba hN hv hd Np) aJ aJ m) ⟨.ref a,at_of ea,a,rfl,.inl ⟨_,.inl ha⟩,he σ H0 R0 H R E _ λu H2 R2 E2 s2 e2=>hf σ H0 R0 H2 R2 E2 _ λu3 H3 R3 E3 s3 e3=>?_⟩
 obtain⟨a',NM,N8,NI⟩:=E3.ent i _ hΓ
 rw[ea] at NM;cases NM
 cases e2
 cases e3
 have g:=eY.k (k:=Sum.inl k) N8
 rw[gE] at g
 refine⟨_,g,?_⟩
 have e:((aV F k).map V.int).getD (V.int z)=V.int ((aV F k).getD z):=by cases aV F k<;>rfl
 rw[e]
 exact q _ H3 R3 E3 (s2.trans s3) rfl
theorem kY (i:Nat){ke ve:Expr}{pos:Pos}{k v:Int}(hu:X.A.units + 1 < cLine)(hk:EV X ke Γ af k Γ)(hv':EV X ve Γ af v Γ)(hΓ:Γ[i]?=some (.di (cW F)))(hz:F.length < K4)(h:N (Γ.set i (.di (cW (dO F k v)))))
 (hN:X.N[i]?=some x:=by rfl) (hvi:autoParam (bZ X.env.scope x) NC)
 (hd:Nr x:=by decide) (Np:NA x:=by decide)
 (hs:K9 ve (some (.Subscript (.Name x p1) ke p2)) pos.line X.env=pure false:=by rfl):W1 X (.Assign [.Subscript (.Name x p1) ke p2] ve pos) Γ N T:=λσ H0 R0 H R E D dn dr=>by
 refine sS (tG hu (ba hN hvi hd Np) aJ aJ hs) (hv' σ H0 R0 H R E _ λu0 H0' R0' E0 s0 e0=>?_)
 obtain⟨a,ea,ha,hR⟩:=E0.ent i _ hΓ
 refine⟨.ref a,at_of ea,hk σ H0 R0 H0' R0' E0 _ λu H1 R1 E1 s1 e1=>?_⟩
 obtain⟨a',NM,N8,NI⟩:=E1.ent i _ hΓ
 rw[ea] at NM;cases NM
 cases e1
 cases e0
 refine⟨a,_,rfl,oa.k (k:=Sum.inl k) N8 (by unfold dh cW;rw[IM,IM];exact hz),?_⟩
 rw[vR]
 exact dn σ _ R1 _ (E1.upd (en:=.di (cW (dO F k v))) hΓ rfl ea NI ⟨a,rfl,aA,NI⟩) (s0.trans s1) h
theorem ow (i:Nat){pos:Pos}{P:Ij->Prop}(hΓ:Γ[i]?=some (.di (cW F)))(h:P F)(hN:X.N[i]?=some x:=by rfl)(hv:autoParam (bZ X.env.scope x) NC)
 (hd:Nr x:=by decide) (Np:NA x:=by decide):W1 X (.Return (some (.Name x p1)) pos) Γ N (bL X.K iB P):=λσ H0 R0 H R E D dn dr=>by
 obtain⟨a,ea,ha,hR⟩:=E.ent i _ hΓ
 have h0:H0 a=none:=E.new i _ a hΓ rfl ea
 refine sS (fW (ba hN hv hd Np)) ⟨.ref a,at_of ea,dr _ H (upd R a (.dK (dh (cW F)))) ⟨E.ext.h,E.ext.r.trans (ar.fresh hR _),λb o qb=>?_,λb hb=>?_⟩ ⟨F,⟨a,rfl,aA⟩,h⟩⟩
 ·by_cases hb:b=a
  ·subst hb;rw[aA] at qb;cases qb;exact ha
  ·rw[aM hb] at qb;exact E.ext.s b o qb
 ·rw[aM (show b≠a from λe=>hb (by rw[e];exact h0))];exact E.ext.old b hb
theorem aq.Bs {K:MP}{σ:St}{H0 R0 H R H' R':Hp}(E:aq K σ H0 R0 H R Γ)(E':aq K σ H H H' R' Γf):aq K σ H0 R0 H' R Γ:=
 E.grow ⟨E'.ext.h,ar.refl _,E.sub.trans E'.ext.h,λ_ _=>rfl⟩
theorem TV.N6 (hF:∀(σ:St) (H0 R0 H R:Hp),aq X.K σ H0 R0 H R Γ->aq X.K σ H H H H Γf){b:Bool}(h:TV X e Γf b Γf):TV X e Γ b Γ:=λσ H0 R0 H R E Q q=>
 h σ H H H H (hF σ H0 R0 H R E) Q λH' R' E' s'=>q H' R (E.Bs E') (ar.refl _)
theorem EV.N6 (hF:∀(σ:St) (H0 R0 H R:Hp),aq X.K σ H0 R0 H R Γ->aq X.K σ H H H H Γf){y:α}(flat:∀(K:MP) (H H':Hp) v y,r.R K H v y->r.R K H' v y)(h:EV X e Γf r y Γf):EV X e Γ r y Γ:=λσ H0 R0 H R E Q q=>
 h σ H H H H (hF σ H0 R0 H R E) Q λv H' R' E' s' e'=>q v H' R (E.Bs E') (ar.refl _) (flat X.K R' R v y e')
def fI:Rep Unit:=⟨λ_ _ v _=>v= .Nu,λ_ h=>h⟩
theorem jN {S:cf}{k:Nat}{es:Ii}{p pos:Pos}{ps:List Pk}{Pd:Unit->Prop}(C:ax X.prog X.w X.K X.mg X.base x k (aG S X.K))(hr:bI k X.A)(ha:HA X (e::es) Γ ps Γ1)(hS:S X.K ps (bL X.K fI Pd))(h:N Γ1)
 (hg:Gl X x:=by rfl) (Nx:Nr x:=by decide) (he:K2 (e::es) X.env=(false,eval e X.env)::K2 es X.env:=by rfl) (Nw:(Lb p2 (K2 es X.env)).any (·.1)=false:=by rfl)
 (NU:K9 (.Call (.Name x p) (e::es) [] p2) none pos.line X.env=pure false:=by rfl):W1 X (.Expr (.Call (.Name x p) (e::es) [] p2) pos) Γ N T:=λσ H0 R0 H R E D dn dr=>
 sS (dY aJ NU) (dS C hr ha hS E (λH1 R1 v H' R' E1 s1 xx t=>dn σ H' R' _ (E1.grow xx) (s1.trans xx.r) h) hg Nx he Nw)
end
section
variable {P:K7}{w:World}{K:MP}{mg:HZ}{base:Heap}{α:Type}
theorem xo {S:cf}{x qual:Str}{st:Stmt}{f:Addr}{fd:Ld}{N ps:Ic}{k:Nat}(F:bC K x qual st f fd)(Sc:aF N ps (ag st))(hm:mg x=some (.ref f))(hb:Binds K fd ps [])(len:∀qs T,S K qs T->qs.length=ps.length)
 (NH:∀(Nl:Value) (A:La) (outer:List Env) (s:K3) (H:Hp) (E:XK) (qs:List Pk) (T:RT),bI k (A.deeper (KP qual (ag st) s.heap.objs.size f Nl))->S K qs T->(∀H0 H' R',T H0 .Nu H' R')/\
  WS (bQ dW P w K mg base N qual (ag st) f Nl A outer s H E).cO (bG st) (dP qs N.length) (λ_=>True) T):ax P w K mg base x (k + 1) (aG S K):=by
 refine⟨f,fd,ps,?_,hm,F.kp,hb⟩
 refine F.ok Sc (λvs H Q E h=>?_) (λNl A outer s H vs Q E hr h=>?_)
 ·obtain⟨R,qs,T,_,p,hS,_⟩:=h
  rw[p.length];exact len qs T hS
 ·obtain⟨R,qs,T,sR,p,hS,q⟩:=h
  have hl:qs.length<=N.length:=by
   rw[len qs T hS]
   have:=congrArg List.length Sc.pre
   rw[Jm] at this
   omega
  obtain⟨h1,h2⟩:=NH Nl A outer s H E qs T hr hS
  exact⟨_,dI,h2 (L2.start N vs) H R H R (d9 sR p hl) {nx:=λ_ H'=>Q .Nu H',rt:=Q} (λσ' H' R' Γ' E' _ _=>q .Nu H' R' E'.ext (h1 _ _ _)) λv H' R' xx t=>q v H' R' xx t⟩
end
variable {P:K7}{w:World}{K:MP}{mg:HZ}{base:Heap}
theorem vx {S:cf}{x qual:Str}{st:Stmt}{f:Addr}{fd:Ld}{N ps:Ic}{k:Nat}(F:bC K x qual st f fd)(Sc:aF N ps (ag st))(len:∀qs T,S K qs T->qs.length=ps.length)
 (NH:∀(Nl:Value) (A:La) (outer:List Env) (s:K3) (H:Hp) (E:XK) (qs:List Pk) (T:RT),bI k (A.deeper (KP qual (ag st) s.heap.objs.size f Nl))->S K qs T->
  WS (bQ dW P w K mg base N qual (ag st) f Nl A outer s H E).cO (bG st) (dP qs N.length) (λ_=>False) T):fH P w K mg base dW (k + 1) f fd ps (aG S K):=by
 refine F.ok Sc (λvs H Q E h=>?_) (λNl A outer s H vs Q E hr h=>?_)
 ·obtain⟨R,qs,T,_,p,hS,_⟩:=h
  rw[p.length];exact len qs T hS
 ·obtain⟨R,qs,T,sR,p,hS,q⟩:=h
  have hl:qs.length<=N.length:=by
   rw[len qs T hS]
   have:=congrArg List.length Sc.pre
   rw[Jm] at this
   omega
  exact⟨_,dI,NH Nl A outer s H E qs T hr hS (L2.start N vs) H R H R (d9 sR p hl) {nx:=λ_ H'=>Q .Nu H',rt:=Q} (λ_ _ _ _ _ _ f=>f.elim) λv H' R' xx t=>q v H' R' xx t⟩
def Def (K:MP)(mg:HZ)(x:Str)(st:Stmt)(ps:Ic):Prop:=∃f fd,bC K x x st f fd/\mg x=some (.ref f)/\Binds K fd ps []
theorem aZ {h:Heap}{x:Str}{st:Stmt}{ps:Ic}{f:Addr}{oc:Value}{od an:Option Addr}{O7:Array Ie}{kV doc pm Nl ct:Value}(KX:K.In h)(G:h.Ns K5 mg)
 (a:MQ K K5 x=some (some (.ref f))) (l:K.lookup f=some ⟨oc,od,.func (MY x x (gq st) (bG st) (ag st) .none kV doc pm an Nl ct),O7⟩) (c:M6 K Nl x=true) (k:MZ K (.ref f)=true)
 (b:∀(kV doc pm:Value) (an:Option Addr) (Nl ct:Value) (us:Ih),us.length=ps.length->bindArgs (MY x x (gq st) (bG st) (ag st) .none kV doc pm an Nl ct) ⟨us,[]⟩=pure (ps.zip us)):Def K mg x st ps:=
 ⟨f,_,rW l c k,MS KX G a,(rW l c k).binds b⟩
open PySem.Builtin.Int (intBits)
theorem sj {ns:Ib}(h:PySem.W.WData.layableAll [.list (ns.map .int)]=true):∀n∈ns,intBits n<=2 ^ 20:=λn hn=>by
 have h1:=PySem.W.layableW_arg h _ (II.mpr rfl)
 have h2:=PySem.W.layableW_item h1 (.int n) (Jf.mpr ⟨n,hn,rfl⟩)
 exact PySem.PyData.bits_of_layable h2
end Fc
namespace Att
open PySem PySem.W PySem.Calls PyProof.Rows
open PySem.Builtin.Int (intBits)
theorem qP {l:OpenLaw}{n:Nat}{q:K7}{loose:Ic}{XP:(HZ)->Heap->Prop}{YP:World->Heap->Prop}{d:DefRec}
 (hn:l.most=some n) (Th:d.params.defaults=[])
 (call:∀(w:World) (s₀ s₁:K3) (mg mb:HZ) (fa:Addr) (o:Obj) (pm cd doc:Value) (a:Addr) (vs:Ih) (ns:Ib),
  Ground q loose [] XP w s₀ mg mb s₁.heap->YP w s₁.heap->
  s₁.heap.get? fa=some o->o.data= .func (docDef d.name d.params d.body d.scope pm cd doc)->s₁.heap.CodeRec cd d.name->mg d.name=some (.ref fa)->
  s₁.heap.get? a=some {cls:=.type "list",data:=.seq vs.toArray}->KZ vs ns->ns.length<=n->(∀m∈ns,intBits m<=2 ^ 20)->s₁.gens= #[]->
  Me (model l.prog w) L7 (.call (.ref fa) ⟨[.ref a],[]⟩) (λr s'=>r= .ok (.ret (.bool true))/\OldK s₁.heap s'.heap/\s'.os=s₁.os/\KW s'.gens) s₁):
 WalkO q loose XP YP l.row.toRowW d [] (λf vs=>PySem.call f vs):=by
 intro w s₀ s₁ mg mb G Y fa o pm cd doc dV kV ho hd Np hD S4 hg args vals as QB hlay hrd SJ hlo
 obtain rfl:dV= .none:=Dflts.none hD Th
 obtain rfl:kV= .none:=Dflts.noKw hD
 obtain⟨a,vs,ns,rfl,rfl,Rx,hints,hlen⟩:=wY hn QB SJ
 refine enter_call (LN (call w s₀ s₁ mg mb fa o pm cd doc a vs ns G Y ho (fd_plain hd) Np S4 Rx hints hlen (Fc.sj hlay) hg) λr s' hq=>?_)
 obtain⟨rfl,h2,h3,h4⟩:=hq
 exact⟨.inl ⟨.bool true,.bool true,[],rfl,λ_=>rfl,.bool true,xf l _,λ_=>⟨List.Pairwise.nil,λ_ hm=>(nomatch hm)⟩⟩,h2,h3,h4⟩
end Att
namespace L2
open PySem PySem.Spec PyProof.Rows
open PySem.Builtin.Int (intBits)
theorem yq {l:Nc}{n k:Nat}{q:K7}{loose:Ic}{XP:(HZ)->Heap->Prop}{YP:World->Heap->Prop}{d:DefRec}{K:Params->MP}{CX:World->jV}{sp:World->Sp}{x:Str}
 (hn:l.most=some n) (hn2:n<=K4) (Th:d.params.defaults=[]) (hr:bI k L7)
 (hY:∀(w:World) (h:Heap),YP w h->(K w.params).In h)
 (F:∀(w:World) (mg:HZ) (fa:Addr) (h:Heap),(K w.params).In h->h.Ns K5 mg->mg d.name=some (.ref fa)->
  ∃fd:Ld,(∀(s:K3) (u:Value),Md s fd ⟨[u],[]⟩ [(x,u)])/\
   ∀base:Heap,(K w.params).In base->base.Ns K5 mg->fH l.prog w (K w.params) mg base (CX w) k fa fd [x] (sp w))
 (QU:∀(w:World) (H:Hp) (a:Addr) (ns:Ib),ns.length<=n->(∀m∈ns,intBits m<=2 ^ 20)->yX H->bt (K w.params) H a (ns.map V.int)->sp w [.ref a] H (λv _=>v= .bl true) λ_ _ _=>False)
 (hCX:∀(w:World) (H:Hp) (s:K3) (e:Value) (s':K3),CX w [] H s (λ_ _ _=>False) e s'->False):
 PySem.W.WalkO q loose XP YP l.row.toRowW d [] (λf vs=>PySem.call f vs):=by
 refine Att.qP hn Th λw s₀ s₁ mg mb fa o pm cd doc a vs ns G Y ho hd Np S4 Rx hints hlen Oz hg=>?_
 have KX:=hY w _ Y
 obtain⟨fd,hb,hF⟩:=F w mg fa _ KX G.T.g S4
 exact ym KX G.T.g G.T.b G.T.builtins G.T.nolimit hg Rx hints (Kq hlen hn2) hr hF hb (λH hO hS=>QU w H a ns hlen Oz hO hS) λH e s'=>hCX w H s₁ e s'
end L2
namespace Fc
open PySem PySem.Spec PySem.W PySem.Calls L2
open PyProof.Rows hiding St
section
variable {H:Hp}{h:Heap}{P:K7}{w:World}{h':Heap}
structure vq (h0 h:Heap) (H:Hp) (e T:Addr) (cls:Value):Prop where
 ex:∃oe vs oT ts a0,h.get? e=some oe/\(oe.cls=cls/\vs[0]?=some a0)/\oe.data= .fields vs/\vs[1]?=some (.ref T)/\T≠e/\h.get? T=some oT/\oT.data= .fields ts/\ts[3]?=some .none
 ne:h0.get? e=none
 nT:h0.get? T=none
 fe:H e=none
 fT:H T=none
def fJ (P:K7)(w:World):jV:=λouter H s E ev s'=>∃e T cls H',ev= .ref e/\s'.os=s.os/\KW s'.gens/\Un (cG outer) [] H H' s.heap s'.heap/\cQ P w H' s'.heap/\vq s.heap s'.heap H' e T cls/\E cls none H'
theorem jP {h b0 h0:Heap}{fs:Ig}:∀{l:List Env},h.FunFrames b0 l->(∀b∈cG l,b∈fs)->h.FunFrames (MV h0 fs) l
 | [],_,_=>trivial
 | env::rest,hl,hs=>by
   obtain⟨hk,⟨L,o,hf,hn,ho,hd⟩,hr⟩:=hl
   refine⟨hk,⟨L,o,hf,MW fs (hs L ?_),ho,hd⟩,jP hr λb hb=>hs b ?_⟩
   ·show L∈(env::rest).filterMap (·.frame)
    rw[Jw,hf];exact IT
   ·show b∈(env::rest).filterMap (·.frame)
    rw[Jw,hf];exact IK _ hb
theorem Un.shrink {fs fs' ex:Ig}{H':Hp}(u:Un fs ex H H' h h')(hs:∀b o,h.get? b=some o->b∈fs->b∈fs'):Un fs' ex H H' h h':=
 ⟨λb o q n hb he=>u.keep b o q n (λz=>hb (hs b o q z)) he,λb o q n _ he=>u.any q n he,u.free,u.there,u.NS,u.NR,u.NT⟩
theorem cj.there {a:Addr}{o:HO}(x:cj P w H h a o):∃ob,h.get? a=some ob:=by
 cases o with
 | lst xs=>obtain⟨_,_,_,_,e⟩:=x;exact⟨_,e⟩
 | tup xs=>obtain⟨_,_,_,p⟩:=x;obtain⟨o,e,_⟩:=p;exact⟨o,e⟩
 | dK kvs=>obtain⟨_,_,_,_,o,_,_,e,_⟩:=x;exact⟨_,e⟩
 | dT kvs=>obtain⟨_,_,_,_,o,_,_,e,_⟩:=x;exact⟨_,e⟩
 | set S n=>obtain⟨o,_,_,_,e,_⟩:=x;exact⟨_,e⟩
 | ins C dx fs=>obtain⟨_,_,_,e,_⟩:=x;exact⟨_,e⟩
 | own y=>obtain⟨_,e⟩:=x;exact⟨_,e⟩
 | xd fs=>obtain⟨_,⟨_,_,_,e,_⟩,_⟩:=x;exact⟨_,e⟩
 | OM lo hi=>obtain⟨_,_,_,e⟩:=x;exact⟨_,e⟩
 | N6 ob u=>obtain⟨e,_⟩:=x;exact⟨_,e⟩
 | QN ps=>exact⟨_,show h.get? a=some _ from x⟩
 | met f y=>exact⟨_,show h.get? a=some _ from x⟩
 | ext φ=>obtain⟨_,⟨_,e⟩,_⟩:=x;exact⟨_,e⟩
theorem cQ.none_of (x:cQ P w H h){a:Addr}(e:h.get? a=none):H a=none:=by
 cases q:H a with
 | none=>rfl
 | some u=>
   obtain⟨ob,r⟩:=cj.there (x a u q)
   rw[e] at r;cases r
theorem yI {fs:Ig}(Nm:cQ P w H h)(hf:∀b∈fs,H b=none)(st:(MV h fs).StaysIn h')(up:∀b o,h.get? b=some o->b∈fs->∃sl,h'.get? b=some {o with slots:=sl}):
 Un fs [] H H h h'/\cQ P w H h':=by
 have keep:∀b o,h.get? b=some o->b∉fs->h'.get? b=some o:=λb o q hb=>st b o (M0 fs q hb)
 refine⟨⟨λb o q _ hb _=>keep b o q hb,λb o q _ hb _=>up b o q hb,λ_ _ _ n _=>n,λb o q _=>?_,λ_ _ q=>q,λ_ _ _ q=>q,λ_ ps q=>⟨#[],by rw[q];simp⟩⟩,λb u q=>?_⟩
 ·by_cases hb:b∈fs
  ·obtain⟨sl,e⟩:=up b o q hb;exact⟨_,e⟩
  ·exact⟨o,keep b o q hb⟩
 ·refine(Nm b u q).ja (λc v hc r=>keep c v r λz=>?_) (λ_ r=>r) λ_ _ r=>r
  have n:=hf c z
  rcases hc with rfl | hc
  ·rw[q] at n;cases n
  ·rw[hc] at n;cases n
theorem fP {fs:Ig}{H':Hp}(u:Un fs [] H H' h h'){b:Addr}(e:h'.get? b=none):h.get? b=none:=by
 cases q:h.get? b with
 | none=>rfl
 | some o=>
   obtain⟨o',r⟩:=u.there b o q Jy
   rw[e] at r;cases r
theorem qZ {K:MP}{mg:HZ}{base:Heap}{N:Ic}{qual:Str}{scope:Scope}{f:Addr}{cd:Value}{A:La}{outer:List Env}{s:K3}{E:XK}
 {Nh:Ia} {σ:St} {H1:Hp} {s1:K3} {h2:Heap} {e:Addr} {cls:Value} {args:Ih} (I:Inv (bQ (fJ P w) P w K mg base N qual scope f cd A outer s H E) Nh σ H1 s1)
 (m:Heap.MadeExcOf s1.heap h2 e cls args) (q:E cls none H1):(bQ (fJ P w) P w K mg base N qual scope f cd A outer s H E).xe (.ref e) {s1 with heap:=h2}:=by
 have OA:s1.heap.FunFrames base (KP qual scope s.heap.objs.size f cd::outer):=I.stack
 have Oy:∀b∈cG (KP qual scope s.heap.objs.size f cd::outer),H1 b=none:=I.gT
 show wpAny (model P w) (A.deeper (KP qual scope s.heap.objs.size f cd)) (leaving (KP qual scope s.heap.objs.size f cd) (.ref e)) _ _ _
 refine wpAny_leaves_madeW (h:=s1.heap) (base:=MV s1.heap (cG (KP qual scope s.heap.objs.size f cd::outer))) I.ok.frames rfl (λb o z=>M3 _ z) (jP OA λ_ z=>z) m λh' t fl _ _ up=>?_
 obtain⟨st,hen,Qa,oe,vs,T,oT,ts,he,hc,hd,h1,hnT,Tq,hT,Sd,h3⟩:=fl
 have up2:∀b o,s1.heap.get? b=some o->b∈cG (KP qual scope s.heap.objs.size f cd::outer)->∃sl,h'.get? b=some {o with slots:=sl}:=λb o r z=>by
  obtain⟨_,o2,r2,nf⟩:=OA.mem z
  rw[r] at r2;cases r2
  exact up b o (m.keeps b o r) nf
 obtain⟨un,Nm⟩:=yI (P:=P) (w:=w) I.Nm Oy st up2
 have nT:s1.heap.get? T=none:=by
  cases r:s1.heap.get? T with
  | none=>rfl
  | some o=>
    exfalso
    by_cases z:T∈cG (KP qual scope s.heap.objs.size f cd::outer)
    ·obtain⟨_,o2,r2,nf⟩:=OA.mem z
     rw[r] at r2;cases r2
     obtain⟨sl,r3⟩:=up2 T o r z
     rw[hT] at r3;cases r3
     exact nf ts Sd
    ·rw[M0 _ r z] at hnT;cases hnT
 have Oi:Un (cG outer) [] H H1 s.heap s1.heap:=I.base
 have un2:Un (cG outer) [] H H1 s.heap h':=by
  refine Un.shrink ((Oi.mono (fs':=cG (KP qual scope s.heap.objs.size f cd::outer)) (λb z=>?_) λ_ z=>z).trans un) λb o r z=>?_
  ·show b∈(KP qual scope s.heap.objs.size f cd::outer).filterMap (·.frame)
   rw[Jw]
   exact IK _ z
  ·have z':b∈(KP qual scope s.heap.objs.size f cd::outer).filterMap (·.frame):=z
   rw[Jw] at z'
   rcases IY.mp z' with y | y
   ·have:=Mw r
    rw[y] at this
    exact absurd this (Ku _)
   ·exact y
 exact⟨e,T,cls,H1,rfl,I.os,I.bare,un2,Nm,⟨⟨oe,vs,oT,ts,_,he,hc,hd,h1,Tq,hT,Sd,h3⟩,fP Oi m.new,fP Oi nT,cQ.none_of I.Nm m.new,cQ.none_of I.Nm nT⟩,q⟩
abbrev Dz:Ih:=[.type "ValueError",.type "Exception",.type "BaseException",.type "object"]
structure lh (K:MP) (mg:HZ) (x:Str) (C:Addr):Prop where
 bound:mg x=some (.ref C)
 here:Nf K C Dz "ValueError.__new__"=true
theorem lh.own {K:MP}{mg:HZ}{x:Str}{C:Addr}(c:lh K mg x C)(X:K.In h):OwnCls x C Dz "ValueError.__new__" mg h:=by
 refine⟨c.bound,?_⟩
 have q:=c.here
 unfold Nf at q
 split at q
 ·rename_i dd cd sl ho
  split at q
  ·rename_i C' bm k0 k1 k2 k3 n k5 hm hs
   simp only[Io,beq_iff_eq,Bool.not_eq_true'] at q
   obtain⟨⟨⟨⟨⟨rfl,rfl⟩,Ti⟩,ht⟩,Nm⟩,hni⟩:=q
   obtain⟨nm,bs,mro,ns,qn,hd,sn,sub,ab,col,del⟩:=cd
   dsimp only at hm Ti Nm hni
   subst hm Ti
   have Rr:sl= #[k0,k1,k2,k3,some (.builtin "ValueError.__new__"),k5]:=by
    obtain⟨l⟩:=sl
    simp only at hs
    rw[hs]
   subst Rr
   exact⟨bm,ns,nm,qn,bs,hd,sn,sub,ab,col,dd,k0,k1,k2,k3,k5,_,X _ _ ho,.of_isNs (PySem.W.isNs_of_in X Nm),PySem.W.nsMap_none_of_in X Nm hni,PySem.W.tail_of_in X ht⟩
  ·cases q
 ·cases q
end
section
variable {X:Cx}{Γ Γ1:Ga}
def RS (X:Cx)(H0 R0:Hp)(Oq:List Stmt)(Γ:Ga):Prop:=∀(σ:St) (H R:Hp),aq X.K σ H0 R0 H R Γ->∀D:Ends,ie X Oq D σ H
theorem mL.cO {st:Stmt}{D:Ends}{σ:St}{H:Hp}(h:mL X.cO st D σ H):mL X st D σ H:=λNh s I=>
 Lf (h Nh s (I.ia _)) (λ_ _ q=>q.fh) λ_ _ z=>Iy z
theorem mw.cO {e:Expr}{Q:Bool->Hp->Prop}{σ:St}{H:Hp}(h:mw X.cO e σ H Q):mw X e σ H Q:=λNh s I=>
 Lf (h Nh s (I.ia _)) (λ_ _ ⟨H',I',q⟩=>⟨H',I'.fh,q⟩) λ_ _ z=>Iy z
theorem gY {H0 R0:Hp}{st:Stmt}{rest:List Stmt}{N1:Ga->Prop}(h1:W1 X.cO st Γ N1 (λ_ _ _ _=>False))(h2:∀Γ',N1 Γ'->RS X H0 R0 rest Γ'):RS X H0 R0 (st::rest) Γ:=λσ H R E D=>by
 refine λNh s I=>Lm (aQ (mL.cO (h1 σ H0 R0 H R E {nx:=λσ' H'=>ie X rest D σ' H',rt:=λ_ _=>False,bk:=λ_ _=>False,ct:=λ_ _=>False} (λσ' H' R' Γ' E' _ n=>h2 Γ' n σ' H' R' E' D) λ_ _ _ _ z=>z) Nh s I) λf s1 q=>?_)
 cases f with
 | next=>
   obtain⟨σ',H',I',q⟩:=q
   exact q Nh s1 I'
 | brk=>obtain⟨_,_,_,q⟩:=q;exact q.elim
 | cont=>obtain⟨_,_,_,q⟩:=q;exact q.elim
 | ret u=>obtain⟨_,_,_,_,_,q⟩:=q;exact q.elim
theorem nB {H0 R0:Hp}{c:Expr}{a b rest:List Stmt}{pos:Pos}(hc:TV X.cO c Γ true Γ1)(h:RS X H0 R0 a Γ1):RS X H0 R0 (.If c a b pos::rest) Γ:=λσ H R E D=>by
 refine λNh s I=>Lm ?_
 have:=mw.cO (hc σ H0 R0 H R E (λb H'=>b=true/\∀D,ie X a D σ H') λH' R' E' _=>⟨rfl,λD=>h σ H' R' E' D⟩) Nh s I
 refine PySem.wpAny_If (aQ this λb s1 ⟨H',I',hb,q⟩=>?_)
 subst hb
 rw[if_pos rfl]
 refine aQ (q {nx:=λ_ _=>False,rt:=λ_ _=>False} Nh s1 I') λf s2 z=>?_
 cases f with
 | next=>obtain⟨_,_,_,z⟩:=z;exact z.elim
 | brk=>obtain⟨_,_,_,z⟩:=z;exact z.elim
 | cont=>obtain⟨_,_,_,z⟩:=z;exact z.elim
 | ret u=>obtain⟨_,_,_,_,_,z⟩:=z;exact z.elim
end
theorem kG {P:K7}{w:World}{K:MP}{mg:HZ}{base:Heap}{N:Ic}{qual:Str}{scope:Scope}{f:Addr}{cd:Value}{A:La}{outer:List Env}{s:K3}{H R:Hp}{E:XK}{Γ:Ga}
 {x:Str} {C:Addr} {np cp pos sp:Pos} {txt:Str} {j:Nat} {rest:List Stmt} (hC:lh K mg x C) (q:∀H' R',Ext H R H' R'->E (.ref C) none H')
 (hg:Gl (bQ (fJ P w) P w K mg base N qual scope f cd A outer s H E) x:=by rfl) (Nx:Nr x:=by decide):
 RS (bQ (fJ P w) P w K mg base N qual scope f cd A outer s H E) H R (.Raise (some (.Call (.Name x np) [.Constant (.str txt) j sp] [] cp)) none pos::rest) Γ:=λσ H1 R1 EO D Nh s1 I=>by
 refine Lm ?_
 obtain⟨bm,Nn,nm,qn,bs,hdct,sn,sub,ab,col,dd,k0,k1,k2,k3,k5,mN,hCo,hN,hni,TL⟩:=(hC.own I.eJ).obj
 refine wpAny_Raise_call_subT (C:=C) (nm:=nm) (q:=qn) (N:=Nn) (bs:=bs) (bm:=bm) (hdct:=hdct) (sn:=sn) (sub:=sub) (ab:=ab) (col:=col) (dd:=dd) (k0:=k0) (k1:=k1) (k2:=k2) (k3:=k3) (k5:=k5) (mN:=mN) PySem.F.excBase_ValueError (TL.hasType PySem.F.excBase_ValueError.hasBase) (I.ok.hd rfl) rfl hni (h8 I hg hC.bound ⟨rfl,?_⟩ Nx)
 refine Mp (Mn (Calls.Constant_str (k:=j) (pos:=sp) (Mq ⟨rfl,by show 1<=K4;decide,hCo,hN,TL,λh' e m=>?_⟩)))
 exact qZ (I.tok _) m (q H1 R1 EO.ext)
inductive Out
 | ret (T:RT)
 | exc (cls:Value)
abbrev iE:=MP->List Pk->Out->Prop
def Out.meets (H R:Hp)(Q:VK)(E:XK):Out->Prop
 | .ret T=>∀v H' R',Ext H R H' R'->T H v H' R'->Q v H'
 | .exc c=>∀H' R',Ext H R H' R'->E c none H'
def de (S:iE)(K:MP):Sp:=λvs H Q E=>∃R ps o,ar R H/\gu K R vs ps/\S K ps o/\o.meets H R Q E
structure cn (P:K7) (w:World) (K:MP) (mg:HZ) (base:Heap) (x:Str) (k:Nat) (sp:Sp):Prop where
 ex:∃f fd ps,fH P w K mg base (fJ P w) k f fd ps sp/\mg x=some (.ref f)/\MZ K (.ref f)=true/\Binds K fd ps []
theorem cn.mono {P:K7}{w:World}{K:MP}{mg:HZ}{base:Heap}{x:Str}{j k:Nat}{sp:Sp}(c:cn P w K mg base x j sp)(h:j<=k):cn P w K mg base x k sp:=by
 obtain⟨f,fd,ps,F,a,b,c⟩:=c.ex
 exact⟨f,fd,ps,F.mono h,a,b,c⟩
section
variable {P:K7}{w:World}{K:MP}{mg:HZ}{base:Heap}
theorem DC {S:iE}{x qual:Str}{st:Stmt}{f:Addr}{fd:Ld}{N ps:Ic}{k:Nat}(F:bC K x qual st f fd)(Sc:aF N ps (ag st))(hm:mg x=some (.ref f))(hb:Binds K fd ps [])(len:∀qs o,S K qs o->qs.length=ps.length)
 (Ru:∀(Nl:Value) (A:La) (outer:List Env) (s:K3) (H:Hp) (E:XK) (qs:List Pk) (T:RT),bI k (A.deeper (KP qual (ag st) s.heap.objs.size f Nl))->S K qs (.ret T)->
  WS (bQ dW P w K mg base N qual (ag st) f Nl A outer s H E).cO (bG st) (dP qs N.length) (λ_=>False) T)
 (Qc:∀(Nl:Value) (A:La) (outer:List Env) (s:K3) (H R:Hp) (E:XK) (qs:List Pk) (c:Value),bI k (A.deeper (KP qual (ag st) s.heap.objs.size f Nl))->S K qs (.exc c)->(∀H' R',Ext H R H' R'->E c none H')->
  RS (bQ (fJ P w) P w K mg base N qual (ag st) f Nl A outer s H E) H R (bG st) (dP qs N.length)):cn P w K mg base x (k + 1) (de S K):=by
 obtain⟨oc,od,kV,doc,pm,an,Nl,ct,O7,rfl,lk,Np⟩:=F.ex
 refine⟨f,_,ps,?_,hm,F.kp,hb⟩
 refine ua lk Np Sc (λvs H Q E h=>?_) (λA outer s H vs Q E hr h=>?_)
 ·obtain⟨R,qs,o,_,p,hS,_⟩:=h
  rw[p.length];exact len qs o hS
 ·obtain⟨R,qs,o,sR,p,hS,q⟩:=h
  have hl:qs.length<=N.length:=by
   rw[len qs o hS]
   have:=congrArg List.length Sc.pre
   rw[Jm] at this
   omega
  cases o with
  | ret T=>
    have hw:=Ru Nl A outer s H E qs T hr hS (L2.start N vs) H R H R (d9 sR p hl) {nx:=λ_ H'=>Q .Nu H',rt:=Q} (λ_ _ _ _ _ _ f=>f.elim) λv H' R' xx t=>q v H' R' xx t
    have hp:iy (bQ (fJ P w) P w K mg base N qual (ag st) f Nl A outer s H E).cO (bG st) (ie (bQ (fJ P w) P w K mg base N qual (ag st) f Nl A outer s H E).cO (bG st)):=dI
    exact⟨_,hp.cO,hw⟩
  | exc c=>exact⟨_,dI,Qc Nl A outer s H R E qs c hr hS q (L2.start N vs) H R (d9 sR p hl) _⟩
end
abbrev jk (X:Cx)(e:Addr)(o:Obj):Cx:={X with pn:=(e,o)::X.pn}
theorem Ok.pin {X:Cx}(ok:X.Ok)(e:Addr)(o:Obj):(jk X e o).Ok:=
 ⟨ok.mod,ok.kind,ok.glob,ok.blt,ok.above,ok.inj,ok.has,ok.QM,ok.hd,ok.frames,ok.NG,ok.Q5,ok.bs,ok.PH,ok.OI,ok.OD,ok.N5,ok.Qq⟩
theorem Ok.uS {X:Cx}{e:Addr}{o:Obj}(ok:(jk X e o).Ok):X.Ok:=
 ⟨ok.mod,ok.kind,ok.glob,ok.blt,ok.above,ok.inj,ok.has,ok.QM,ok.hd,ok.frames,ok.NG,ok.Q5,ok.bs,ok.PH,ok.OI,ok.OD,ok.N5,ok.Qq⟩
section
variable {X:Cx}{Nh:Ia}{σ:St}{H:Hp}{s:K3}{e:Addr}{o:Obj}
theorem Inv.pinned (I:Inv X Nh σ H s)(h:s.heap.get? e=some o/\H e=none/\e≠X.env.locals/\e∉X.fs/\∀v,o.data≠ .cell v):Inv (jk X e o) Nh σ H s:=
 ⟨Ok.pin I.ok e o,I.os,I.bare,I.base,I.loc,I.cell,I.free,I.NF,λp hp=>by
  rcases IY.mp hp with rfl | hp
  ·exact h
  ·exact I.pin p hp,I.Nm,I.len⟩
theorem Inv.fE (I:Inv (jk X e o) Nh σ H s):Inv X Nh σ H s:=
 ⟨Ok.uS I.ok,I.os,I.bare,I.base,I.loc,I.cell,I.free,I.NF,λp hp=>I.pin p (IK _ hp),I.Nm,I.len⟩
theorem SP.uS {D:Ends}{f:Flow}{s':K3}(h:SP (jk X e o) Nh D f s'):SP X Nh D f s':=by
 cases f with
 | next=>obtain⟨σ',H',I,q⟩:=h;exact⟨σ',H',Inv.fE I,q⟩
 | brk=>obtain⟨σ',H',I,q⟩:=h;exact⟨σ',H',Inv.fE I,q⟩
 | cont=>obtain⟨σ',H',I,q⟩:=h;exact⟨σ',H',Inv.fE I,q⟩
 | ret u=>obtain⟨v,σ',H',I,r,q⟩:=h;exact⟨v,σ',H',Inv.fE I,r,q⟩
abbrev markX (X:Cx)(v:Value):Cx:={X with A:=X.A.mark (some v),calm:=false,xe:=λ_ _=>False}
theorem Inv.marked (I:Inv X Nh σ H s)(v:Value):Inv (markX X v) Nh σ H s:=
 ⟨⟨I.ok.mod,I.ok.kind,I.ok.glob,I.ok.blt,I.ok.above,I.ok.inj,I.ok.has,I.ok.QM,(λz=>by cases z),I.ok.frames,I.ok.NG,I.ok.Q5,I.ok.bs,I.ok.PH,I.ok.OI,I.ok.OD,I.ok.N5,I.ok.Qq⟩,
   I.os,I.bare,I.base,I.loc,I.cell,I.free,I.NF,I.pin,I.Nm,I.len⟩
theorem Inv.unmarked {v:Value}(c:X.calm=true->X.A.handled=none)(I:Inv (markX X v) Nh σ H s):Inv X Nh σ H s:=
 ⟨⟨I.ok.mod,I.ok.kind,I.ok.glob,I.ok.blt,I.ok.above,I.ok.inj,I.ok.has,I.ok.QM,c,I.ok.frames,I.ok.NG,I.ok.Q5,I.ok.bs,I.ok.PH,I.ok.OI,I.ok.OD,I.ok.N5,I.ok.Qq⟩,
   I.os,I.bare,I.base,I.loc,I.cell,I.free,I.NF,I.pin,I.Nm,I.len⟩
theorem w6 {M:Model}{A:La}{E:Value->K3->Prop}{i:Nat}{x:Str}{pos:Pos}{Q:Unit->K3->Prop}(I:Inv X Nh σ H s)(hN:X.N.Nodup)(hi:X.N[i]?=some x)(hk:X.env.scope.names.lookup x=some .local)
 (h:∀s',Inv X Nh (σ.set i none) H s'->Q () s'):wpAny M A (do bindName X.env x .none;unbindBehindTheSuite X.env x pos) Q E s:=by
 obtain⟨m,hn,hl⟩:=id I.loc
 have RI:(X.env.scope.kind== .class ||(X.env.scope.kind== .module&&X.env.locals != X.env.globals))=false:=by rw[I.ok.kind];rfl
 have Qj:=I.Qj
 refine wpAny_nameGoes_keeps hk hn RI λh' v S1 hs=>?_
 obtain⟨oL,_,_,hoL,_⟩:=id hn
 have tracked:cQ X.prog X.w H h':=λb ob e=>by
  refine(I.Nm b ob e).ja (λc w' hc q=>(hs.2 c ?_).trans q) (λ_ q=>q) λ_ _ q=>q
  rintro rfl
  rcases hc with rfl | hc
  ·rw[I.free] at e;cases e
  ·rw[I.free] at hc;cases hc
 refine h _ ⟨I.ok,I.os,I.bare,⟨λb o e n hb hx=>?_,λb o e n hb hx=>?_,I.base.free,λb o e hx=>?_,I.base.NS,I.base.NR,I.base.NT⟩,⟨_,S1,λj y v' e1 e2 e3=>?_⟩,λy c e=>?_,I.free,I.NF,λp hp=>?_,tracked,by simpa using I.len⟩
 ·exact(hs.2 b (Kt (Kr (Mw e) I.ok.above))).trans (I.base.keep b o e n hb hx)
 ·obtain⟨sl,e1⟩:=I.base.slot b o e n hb hx
  exact⟨sl,(hs.2 b (Kt (Kr (Mw e) I.ok.above))).trans e1⟩
 ·obtain⟨o',e1⟩:=I.base.there b o e hx
  exact⟨o',(hs.2 b (Kt (Kr (Mw e) I.ok.above))).trans e1⟩
 ·by_cases hj:j=i
  ·subst hj
   rw[getElem?_set] at e2
   split at e2
   ·split at e2<;>cases e2
   ·rename_i z;exact absurd rfl z
  ·rw[Jk (KG hj)] at e2
   obtain⟨u',r',q⟩:=hl j y v' e1 e2 e3
   refine⟨u',r',?_⟩
   rcases q with⟨k,e⟩ | ⟨k,c,e,z⟩
   ·refine .inl ⟨k,?_⟩
    have:y≠x:=λe=>hj (mO hN e1 (e▸hi))
    simp[this,e]
   ·exact .inr ⟨k,c,e,z.sameBut hs (Qj y c e)⟩
 ·obtain⟨w',z⟩:=I.cell y c e
  exact⟨w',z.sameBut hs (Qj y c e)⟩
 ·obtain⟨e,n,ne,nf,d⟩:=I.pin p hp
  exact⟨(hs.2 p.1 ne).trans e,n,ne,nf,d⟩
end
section
variable {X:Cx}{σ:St}{cls:Value}
theorem ky.cO {es:Ii}{Q:List V->Hp->Prop}{H:Hp}(h:ky X.cO es σ H Q)(E:Value->K3->Prop):∀(pos:Pos) (Nh:Ia) (s:K3),Inv X Nh σ H s->wpAny (model X.prog X.w) X.A (spliced (Lb pos (K2 es X.env))) (AP X Nh σ Q) E s:=λpos Nh s I=>
 Lf (h pos Nh s (I.ia _)) (λ_ _ ⟨vs,H',I',r,q⟩=>⟨vs,H',I'.fh,r,q⟩) λ_ _ z=>Iy z
theorem pY {S:iE}{x:Str}{k:Nat}{e:Expr}{es:Ii}{p pos:Pos}{ps:List Pk}{H0 R0 H R:Hp}{Γ Γ1:Ga}{Nh:Ia}{s:K3}{Q:Value->K3->Prop}{Ex:Value->K3->Prop}
 (C:cn X.prog X.w X.K X.mg X.base x k (de S X.K)) (hr:bI k X.A) (ha:HA X.cO (e::es) Γ ps Γ1) (hS:S X.K ps (.exc cls)) (E:aq X.K σ H0 R0 H R Γ) (I:Inv X Nh σ H s)
 (q:∀s1 H1 ea T H' R' s',Inv X Nh σ H1 s1->s'.os=s1.os->KW s'.gens->Un (cG X.stack) [] H1 H' s1.heap s'.heap->cQ X.prog X.w H' s'.heap->vq s1.heap s'.heap H' ea T cls->aq X.K σ H0 R0 H' R' Γ1->ar R R'->Ex (.ref ea) s')
 (hg:Gl X x) (Nx:(x==("__debug__":Str))=false) (he:K2 (e::es) X.env=(false,eval e X.env)::K2 es X.env) (Nw:(Lb pos (K2 es X.env)).any (·.1)=false):
 wpAny (model X.prog X.w) X.A (eval (.Call (.Name x p) (e::es) [] pos) X.env) Q Ex s:=by
 obtain⟨f,fd,pn,F,hm,hk,hb⟩:=C.ex
 refine Lw (h8 I hg hm ?_ Nx)
 refine M4 (h₀:=X.base) I.ok.mod.Qx hk (aQ (ky.cO (ha σ H0 R0 H R E (λvs H1=>∃R1,aq X.K σ H0 R0 H1 R1 Γ1/\ar R R1/\gu X.K R1 vs ps) λvs H1 R1 E1 s1 p1=>⟨R1,E1,s1,p1⟩) Ex pos Nh s I) λus s1 ⟨vs,H1,I1,r,R1,E1,sR,p1⟩=>⟨I1.eJ,?_⟩) he Nw
 have r2:Vals (vs++[]) (us++[]):=by rw[Jj,Jj];exact r
 have sp:de S X.K (vs++[]) H1 (λ_ _=>False) (λc _ H'=>c=cls/\∃R',Ext H1 R1 H' R'):=⟨R1,ps,.exc cls,E1.sub,by rw[Jj];exact p1,hS,λH' R' xx=>⟨rfl,R',xx⟩⟩
 have hl:(us++[]).length=pn.length:=by rw[← r2.length];exact F.len _ _ _ _ sp
 refine L4 (LN (F.run X.A X.stack s1 H1 ⟨us,[]⟩ (us++[]) (vs++[]) _ _ hr I1.zh (hb s1 us I1.eJ hl) r2 sp) λr s' hq=>?_)
 cases r with
 | error ev=>
   obtain⟨ea,T,c,H',rfl,ho,bare,un,Nm,Oo,rfl,R',xx⟩:=hq
   exact q s1 H1 ea T H' R' s' I1 ho bare un Nm Oo (E1.grow xx) (sR.trans xx.r)
 | ok fl=>
   cases fl with
   | ret u=>obtain⟨_,_,_,_,_,_,_,z⟩:=hq;exact z.elim
   | next=>exact Iy hq
   | brk=>exact Iy hq
   | cont=>exact Iy hq
theorem qJ {P:K7}{w:World}{fs:Ig}{H1 H':Hp}{h1 h' h2:Heap}{e T:Addr}(u:Un fs [] H1 H' h1 h')(Nm:cQ P w H' h')(Oo:vq h1 h' H' e T cls)(hf:∀b∈fs,H' b=none)
 (st:(MV h' (e::T::fs)).StaysIn h2) (up:∀b o,h'.get? b=some o->b∈fs->∃sl,h2.get? b=some {o with slots:=sl}):Un fs [] H1 H' h1 h2/\cQ P w H' h2:=by
 have keep:∀b o,h'.get? b=some o->b∉fs->b≠e->b≠T->h2.get? b=some o:=λb o q hb n1 n2=>st b o (M0 _ q λz=>by
  rcases IY.mp z with z | z
  ·exact n1 z
  ·rcases IY.mp z with z | z
   ·exact n2 z
   ·exact hb z)
 have n1:∀b o,h1.get? b=some o->b≠e:=λb o q z=>by rw[z,Oo.ne] at q;cases q
 have n2:∀b o,h1.get? b=some o->b≠T:=λb o q z=>by rw[z,Oo.nT] at q;cases q
 refine⟨⟨λb o q n hb hx=>keep b o (u.keep b o q n hb hx) hb (n1 b o q) (n2 b o q),λb o q n hb hx=>?_,u.free,λb o q hx=>?_,u.NS,u.NR,u.NT⟩,λb x q=>?_⟩
 ·obtain⟨sl,r⟩:=u.slot b o q n hb hx
  obtain⟨QP,r'⟩:=up b _ r hb
  exact⟨QP,r'⟩
 ·obtain⟨o',r⟩:=u.there b o q hx
  by_cases hb:b∈fs
  ·obtain⟨QP,r'⟩:=up b _ r hb;exact⟨_,r'⟩
  ·exact⟨_,keep b o' r hb (n1 b o q) (n2 b o q)⟩
 ·refine(Nm b x q).ja (λc v hc r=>?_) (λ_ r=>r) λ_ _ r=>r
  have Pw:H' c≠none:=by
   rcases hc with rfl | hc
   ·rw[q];exact KH _
   ·rw[hc];exact KH _
  exact keep c v r (λz=>Pw (hf c z)) (λz=>Pw (z▸Oo.fe)) λz=>Pw (z▸Oo.fT)
theorem gC {h h' b0 h0:Heap}{fs:Ig}:∀{l:List Env},h.FunFrames b0 l->(∀b∈cG l,∀o,h.get? b=some o->∃sl,h'.get? b=some {o with slots:=sl})->(∀b∈cG l,b∈fs)->h'.FunFrames (MV h0 fs) l
 | [],_,_,_=>trivial
 | env::rest,hl,Qm,hs=>by
   obtain⟨hk,⟨L,o,hf,hn,ho,hd⟩,hr⟩:=hl
   have hL:L∈cG (env::rest):=by
    show L∈(env::rest).filterMap (·.frame)
    rw[Jw,hf];exact IT
   have hT:∀b∈cG rest,b∈cG (env::rest):=λb hb=>by
    show b∈(env::rest).filterMap (·.frame)
    rw[Jw,hf];exact IK _ hb
   obtain⟨sl,e⟩:=Qm L hL o ho
   exact⟨hk,⟨L,_,hf,MW fs (hs L hL),e,hd⟩,gC hr (λb hb=>Qm b (hT b hb)) λb hb=>hs b (hT b hb)⟩
theorem Ec {H1 H':Hp}{Nh:Ia}{s1 s':K3}{e T:Addr}{Q:Flow->K3->Prop}{ce n y:Str}{CE:Addr}{np p1 p2 p3 hp:Pos}{i j:Nat}
 (I1:Inv X Nh σ H1 s1) (ho:s'.os=s1.os) (bare:KW s'.gens) (un:Un (cG X.stack) [] H1 H' s1.heap s'.heap) (Nm:cQ X.prog X.w H' s'.heap) (Oo:vq s1.heap s'.heap H' e T cls)
 (OA:X.stack=X.env::X.outer) (hef:X.env.frame=some X.env.locals) (hm:X.mg ce=some (.ref CE)) (hx:M7 X.K cls (.ref CE)=some true) (hg:Gl X ce) (Nx:(ce==("__debug__":Str))=false)
 (hN:X.N.Nodup) (hi:X.N[i]?=some n) (hj:X.N[j]?=some y) (Ow:X.env.scope.names.lookup n=some .local) (hjy:X.env.scope.names.lookup y=some .local)
 (hs:K9 (.Name n p2) (some (.Name y p1)) p3.line X.env=pure false) (OP:(n==("__debug__":Str))=false) (hnc:(n==("__classdict__":Str))=false)
 (q:∀oe s6,oe.cls=cls->Inv (jk X e oe) Nh (((σ.set i (some (.ref e))).set j (some (.ref e))).set i none) H' s6->Q .next s6):
 wpAny (model X.prog X.w) X.A (noteFrame (.ref e) X.env) (λ_ s₂=>wpAny (model X.prog X.w) X.A (setFlight (.ref e) none) (λ_ s₃=>
  wpAny (model X.prog X.w) X.A (handleBy (.ref e) X.env [.ExceptHandler (some (.Name ce np)) (some n) [.Assign [.Name y p1] (.Name n p2) p3] hp]) Q X.xe s₃) X.xe s₂) X.xe s':=by
 have hA:X.A.frames=some (X.env::X.outer):=by rw[← OA];exact I1.ok.frames
 have hfs:∀b∈cG X.stack,H' b=none:=λb hb=>by
  obtain⟨_,o,r,_⟩:=I1.stack.mem hb
  exact un.free b o r (I1.gT b hb) Jy
 have Rr:∀b∈cG X.stack,∀o,s1.heap.get? b=some o->∃sl,s'.heap.get? b=some {o with slots:=sl}:=λb hb o r=>un.slot b o r (I1.gT b hb) hb Jy
 have Sa:s'.heap.FunFrames (MV s'.heap (e::T::cG X.stack)) (X.env::X.outer):=by
  have:=gC (h0:=s'.heap) (fs:=e::T::cG X.stack) I1.stack Rr λb hb=>IK _ (IK _ hb)
  rw[OA] at this ⊢;exact this
 obtain⟨oe,vs,oT,ts,a0,he,hc,hd,h1,Tq,hT,Sd,h3⟩:=Oo.ex
 have Ot:Heap.FlyingW (MV s'.heap (e::T::cG X.stack)) (X.env::X.outer) e cls a0 s'.heap:=
  ⟨λb o z=>M3 _ z,MW _ IT,Sa,oe,vs,T,oT,ts,he,hc,hd,h1,MW _ (IK _ IT),Tq,hT,Sd,h3⟩
 have So:∀{h2:Heap},s'.heap.UpToSlots h2->∀b o,s'.heap.get? b=some o->b∈cG X.stack->∃sl,h2.get? b=some {o with slots:=sl}:=λ{h2} up b o r hb=>by
  have Oc:b∈(X.env::X.outer).filterMap (·.frame):=by rw[← OA];exact hb
  obtain⟨_,o2,r2,nf⟩:=Sa.mem Oc
  rw[r] at r2;cases r2
  exact up b o r nf
 have nL:e≠X.env.locals:=λz=>by
  obtain⟨m,⟨o,_,_,r,_⟩,_⟩:=id I1.loc
  rw[← z,Oo.ne] at r;cases r
 have nF:e∉X.fs:=λz=>by
  have z':e∈cG X.stack:=by
   rw[OA]
   show e∈(X.env::X.outer).filterMap (·.frame)
   rw[Jw,hef];exact IK _ z
  obtain⟨_,o,r,_⟩:=I1.stack.mem z'
  rw[Oo.ne] at r;cases r
 refine wpAny_looks_onW hA hef Ot λh4 Td up4=>?_
 refine wpAny_landsW Td λh5 fl5 up5=>?_
 obtain⟨u5,ok5⟩:=qJ un Nm Oo hfs fl5.1 (So (up4.trans up5))
 have I5:Inv X Nh σ H' {s' with heap:=h5}:=Inv.tX (ch:=[]) (s':={s' with heap:=h5}) I1 ho u5 ok5 bare λb z=>absurd z Jy
 refine wpAny_handleBy_cons (codeAny_handlers_test (h8 (Inv.marked I5 (.ref e)) hg hm ?_ Nx)) (by intro q;cases q)
 obtain⟨oe5,Sm,he5,hc5,hd5,_⟩:=fl5.first
 have LT:PySem.W.Looks (model X.prog X.w) h5 (typeOf (.ref e)) cls:=hc5▸(PySem.W.Looks.ld he5).andThen .now
 refine(PySem.W.exm_one (M:=model X.prog X.w) (show X.K.In h5 from I5.eJ) LT hx).here ?_
 refine codeAny_handlers_suite_as (lands_againW fl5 λh6 fl6 up6=>?_)
 obtain⟨u6,ok6⟩:=qJ un Nm Oo hfs fl6.1 (So ((up4.trans up5).trans up6))
 have I6:Inv X Nh σ H' {s' with heap:=h6}:=Inv.tX (ch:=[]) (s':={s' with heap:=h6}) I1 ho u6 ok6 bare λb z=>absurd z Jy
 obtain⟨Sx,vs6,he6,hc6,hd6,_⟩:=fl6.first
 have I6p:Inv (jk X e Sx) Nh σ H' {s' with heap:=h6}:=Inv.pinned I6 ⟨he6,Oo.fe,nL,nF,λv z=>by rw[hd6] at z;cases z⟩
 refine ki (X:=jk X e Sx) I6p hN hi (.inl Ow) (v:=.ref e) rfl (λs7 I7=>?_) (.inr Ow)
 have P7:=(eT (X:=markX (jk X e Sx) (.ref e)) (i:=j) (pos:=p3) hN hj (.inl hjy) (ba (i:=i) (pos:=p2) hi (.inl Ow) OP hnc) hs (.inr hjy)) Nh s7 _ H' {nx:=λσ' H2=>σ'=(σ.set i (some (.ref e))).set j (some (.ref e))/\H2=H',rt:=λ_ _=>False} (Inv.marked I7 (.ref e))
  ⟨.ref e,Ji (by rw[I1.len];exact(IG.mp hi).1),rfl,rfl⟩
 refine Lm (Lf P7 (λf s8 z=>?_) λ_ _ z=>Iy z)
 cases f with
 | next=>
   obtain⟨σ',H2,I8,rfl,rfl⟩:=z
   refine Lx ?_
   exact w6 (X:=jk X e Sx) (Inv.unmarked (λ_=>I6p.ok.hd (by assumption)) I8) hN hi Ow λs9 I9=>q Sx s9 hc6 I9
 | brk=>obtain⟨_,_,_,z⟩:=z;exact z.elim
 | cont=>obtain⟨_,_,_,z⟩:=z;exact z.elim
 | ret u=>obtain⟨_,_,_,_,_,z⟩:=z;exact z.elim
end
end Fc
namespace Fc
open PySem PySem.Spec PySem.W PySem.Calls L2
open PyProof.Rows hiding St
open PySem PySem.Spec PySem.W PySem.Calls PySem.Builtin.ObjectAttr PySem.Builtin.Getset_descriptor L2
def lG (x D:Addr)(h:Heap):Prop:=∃ox,h.get? x=some ox/\ox.cls= .ref D
theorem lG.ty {M:Model}{h:Heap}{x D:Addr}(p:lG x D h):Looks M h (typeOf (.ref x)) (.ref D):=by
 obtain⟨ox,h1,h2⟩:=p
 exact h2▸(Looks.ld h1).andThen .now
def dZ (K:Frag)(D:Addr):Bool:=(findIn K (.ref D) "__getattribute__"==some (some (.builtin "BaseException.__getattribute__")))&&(findIn K (.ref D) "__getattr__"==some none)&&(findIn K (.ref D) "__class__"==some (some (.builtin "object.__class__")))&&(specialIn K (.builtin "object.__class__") "__get__"==some (some (.builtin "getset_descriptor.__get__")))
 &&(takesIn K (.builtin "object.__class__")==some true)&&(mroIn K D (.type "object")==some true)&&(subIn K (.ref D) (.type "BaseException")==some true)&&(clsIn K D).isSome
section
variable {K:Frag}{D x:Addr}{prog:K7}{w:World}{A:La}{E:Value->K3->Prop}{s:K3}
theorem xS {Q:Ie->K3->Prop}(e:dZ K D=true)(X:K.In s.heap)(p:lG x D s.heap)(h:Q (some (.ref D)) {s with toks:=s.toks + 1}):wpAny (model prog w) A (getAttr? (.ref x) "__class__") Q E s:=by
 unfold dZ at e
 simp only[Io,beq_iff_eq] at e
 obtain⟨⟨⟨⟨⟨⟨⟨hga,hgk⟩,ha⟩,hn⟩,htk⟩,hm⟩,Pb⟩,hc⟩:=e
 obtain⟨hh,g,d,t,os⟩:=s
 have X:K.In hh:=X
 have p:lG x D hh:=p
 have L0:=p.ty (M:=model prog w)
 have L1:=looks_findIn (M:=model prog w) X hga
 have L2:=looks_findIn (M:=model prog w) X hgk
 have LB:Looks (model prog w) hh (isSubtype (.ref D) (.type "BaseException")) true:=looks_subIn X Pb
 have F1:Looks (model prog w) hh (find (.ref x) (.ref D) "__class__") (.bind (.builtin "getset_descriptor.__get__") (.builtin "object.__class__")):=by
  refine(looks_findIn X ha).andThen ((show Looks _ hh (getOf (some (.builtin "object.__class__"))) (some (.builtin "getset_descriptor.__get__")) from looks_specialIn X hn).andThen ?_)
  exact(show Looks _ hh (dataDescriptor? (some (.builtin "object.__class__")) (some (.builtin "getset_descriptor.__get__"))) (some (.builtin "getset_descriptor.__get__",.builtin "object.__class__")) from(looks_takesIn X htk).andThen .now).andThen (Looks.tag .now)
 have M1:=looks_mroIn (M:=model prog w) X hm
 have PR:(MJ "BaseException.__getattribute__"==MJ "object.__getattribute__")=false:=by decide +kernel
 have R6:(onTheHeap (MI D)&&MJ "BaseException.__getattribute__"==MJ "object.__getattribute__")=false:=by rw[PR];rfl
 unfold getAttr? getAttrBy? getAttrBy
 refine K6 (wpAny_mkText (K6 (wpAny_attempt (Ln (K6 (L0.at (K6 (L1.at ?_))))))))
 dsimp only
 rw[R6]
 simp only[Ir,if_false]
 unfold getAttrByItsOwn hookBefore
 have f3:=PySem.F.attr_ValueError.ga.bind (.ref x)
 refine K6 (L2.at ?_)
 refine K6 (wpAny_attempt (Ln ?_))
 show wpAny _ _ (boundAndCalled _ _ _) _ _ _
 unfold boundAndCalled
 refine K6 (wpAny_of_eq f3 ?_)
 have hkd:builtinKind "BaseException.__getattribute__"=some .slot:=by decide +kernel
 have Pa:splitId "BaseException.__getattribute__"=some ("BaseException","__getattribute__"):=by decide +kernel
 have hargs:=PySem.F.args_bexc_ga (.ref x) (.str "__class__" t)
 refine L4 (codeAny_call_builtin PySem.F.attr_ValueError.ga.plain PySem.F.entry_bexc_ga ?_)
 show wpAny _ _ (checkBuiltinCall "BaseException.__getattribute__" ⟨[.ref x,.str "__class__" t],[]⟩) _ _ _
 simp only[checkBuiltinCall,hkd,Pa]
 refine K6 ?_
 unfold isInstance
 repeat lk
 refine wpAny_run ?_
 refine codeAny_call_builtin KF.slot_gs.plain KF.entry_gs (KF.slot_gs.check _ _ _ _ _ _ _ _ KF.type_class (KF.args_gs _ _ _) ?_)
 unfold Builtin.«getset_descriptor.__get__» descrGet
 rw[dga_obj]
 refine K6 (K8 ?_)
 unfold descrGetter descrCheckInstance descrNameAndClass isInstance
 simp only[KF.owner_class]
 repeat lk
 refine⟨Code.quiet_builtin _ (by decide +kernel),codeAny_builtin KF.entry_class ?_⟩
 unfold Builtin.«object.__class__» shownTypeOf
 repeat lk
 exact h
theorem rj (e:dZ K D=true):KitX K (.ref x) (.ref D) (lG x D) where
 ty:=λ_ _ _ p=>p.ty
 it:=λ_ _ X _=>by
  unfold dZ at e
  rw[Io] at e
  have hc:=e.2
  unfold clsIn at hc
  split at hc
  ·rename_i c' d' cd' QP ho
   intro A' Q' E' s' k q
   unfold isType loadHead
   exact K6 (wpAny_loadPart (k _ _ (X _ _ ho)) (K8 q))
  ·cases hc
 ne:=λh tp dd Nj n sl X htp=>by
  unfold dZ at e
  rw[Io] at e
  have hc:=e.2
  refine Iu.mpr λq=>?_
  have z:D=tp:=MI.inj (beq_iff_eq.mp q)
  subst z
  unfold clsIn at hc
  split at hc
  ·rename_i c' d' cd' QP ho
   have z:=(X _ _ ho).symm.trans htp
   cases z
  ·cases hc
 ca:=λX p k=>xS e X p k
end
section
variable {X:Cx}{Γ Γ1:Ga}{ea D:Addr}{oe:Obj}
def gO (ea:Addr):Rep Unit:=⟨λ_ _ v _=>v= .ref ea,λ_ h=>h⟩
end
theorem aq.gone {K:MP}{σ:St}{H0 R0 H R:Hp}{Γ:Ga}(E:aq K σ H0 R0 H R Γ)(i:Nat):aq K (σ.set i none) H0 R0 H R (Γ.set i .no):=by
 have key:∀(j:Nat) (e:Ent),(Γ.set i Ent.no)[j]?=some e->e= .no∨(Γ[j]?=some e/\(σ.set i none)[j]?=σ[j]?):=λj e q=>by
  by_cases hj:j=i
  ·subst hj
   rw[getElem?_set] at q
   split at q
   ·split at q
    ·cases q;exact .inl rfl
    ·cases q
   ·rename_i z;exact absurd rfl z
  ·rw[Jk (KG hj)] at q
   exact .inr ⟨q,Jk (KG hj)⟩
 refine⟨E.ext,λj e q=>?_,λj e a q z=>?_,λj k e e' a q q' z z'=>?_,by rw[Jp,Jp];exact E.len⟩
 ·rcases key j e q with rfl | ⟨q,h⟩
  ·trivial
  ·rw[h];exact E.ent j e q
 ·rcases key j e q with rfl | ⟨q,h⟩
  ·cases z
  ·rw[h] at z;exact E.nw j e a q z
 ·rcases key j e q with rfl | ⟨q,h⟩
  ·cases z
  ·rcases key k e' q' with rfl | ⟨q',h'⟩
   ·cases z'
   ·rw[h] at z;rw[h'] at z';exact E.ds j k e e' a q q' z z'
theorem DP {X:Cx}{Γ Γ1:Ga}{N:Ga->Prop}{T:RT}{S:iE}{f ce n y:Str}{k:Nat}{e0:Expr}{es:Ii}{p pos ep np p1 p2 p3 hp tp:Pos}{ps:List Pk}{D CE:Addr}{rest:List Stmt}(i j:Nat)
 (C:cn X.prog X.w X.K X.mg X.base f k (de S X.K)) (hr:bI k X.A) (ha:HA X.cO (e0::es) Γ ps Γ1) (hS:S X.K ps (.exc (.ref D))) (hm:X.mg ce=some (.ref CE)) (hx:exmOne X.K (.ref D) (.ref CE)=some true)
 (Ob:∀ea oe,oe.cls= .ref D->WS (jk X ea oe) rest (((Γ1.set i (.im (gO ea) ())).set j (.im (gO ea) ())).set i .no) N T)
 (OA:X.stack=X.env::X.outer:=by rfl) (hef:X.env.frame=some X.env.locals:=by rfl) (hN:X.N.Nodup:=by first | assumption | decide) (hi:X.N[i]?=some n:=by rfl) (hj:X.N[j]?=some y:=by rfl)
 (Ow:X.env.scope.names.lookup n=some .local:=by rfl) (hjy:X.env.scope.names.lookup y=some .local:=by rfl) (hg:Gl X ce:=by rfl) (hgf:Gl X f:=by rfl)
 (hs:K9 (.Name n p2) (some (.Name y p1)) p3.line X.env=pure false:=by rfl) (hsc:K9 (.Call (.Name f p) (e0::es) [] pos) none ep.line X.env=pure false:=by rfl)
 (he:K2 (e0::es) X.env=(false,eval e0 X.env)::K2 es X.env:=by rfl) (Nw:(Lb pos (K2 es X.env)).any (·.1)=false:=by rfl)
 (d1:Nr ce:=by decide) (d2:Nr f:=by decide) (d3:Nr n:=by decide) (d4:NA n:=by decide):
 WS X (.Try [.Expr (.Call (.Name f p) (e0::es) [] pos) ep] [.ExceptHandler (some (.Name ce np)) (some n) [.Assign [.Name y p1] (.Name n p2) p3] hp] [] [] tp::rest) Γ N T:=by
 intro σ H0 R0 H R E D dn dr Nh s I
 refine Lm (wpAny_Try_except (Lm (Mc ?_ I.quiet hsc)))
 refine pY C hr ha hS E I (λs1 H1 ea T H' R' s' I1 ho bare un Nm Oo E' sR=>?_) hgf d2 he Nw
 refine Ec I1 ho bare un Nm Oo OA hef hm hx hg d1 hN hi hj Ow hjy hs d3 d4 λoe s6 hc I6=>?_
 have E3:=aq.gone ((E'.set i (r:=gO ea) (v:=.ref ea) (x:=()) rfl).set j (r:=gO ea) (v:=.ref ea) (x:=()) rfl) i
 exact aQ (Ob ea oe hc _ H0 R0 H' R' E3 D (λσ2 H2 R2 Γ2 E2 s2=>dn σ2 H2 R2 Γ2 E2 (sR.trans s2)) dr Nh s6 I6) λf s7 z=>SP.uS z
end Fc
namespace Fc
open PySem PySem.Spec PySem.W PySem.Calls L2
open PyProof.Rows hiding St
section
variable {X:Cx}{Γ Γ1 Γ2 Γ3:Ga}{α β γ δ:Type}{N:Ga->Prop}{T:RT}
variable {r:Rep α}{xs:List α}{x:Str}
theorem EJ (i:Nat){pos:Pos}(hΓ:Γ[i]?=some (.im (ak r) xs))(hN:X.N[i]?=some x:=by rfl)(hv:autoParam (bZ X.env.scope x) NC)
 (hd:Nr x:=by decide) (Np:NA x:=by decide)
 (he:∀whole,LK (.Name x pos) X.env whole=(do let v ← whole;LL (Expr.Name x pos).pos;Lk [v] (Mb v)):=by intro _;rfl):TV X (.Name x pos) Γ (!xs.isEmpty) Γ:=by
 intro σ H0 R0 H R E Q q
 obtain⟨v,ea,a,vs,rfl,ha,pp,_⟩:=E.ent i _ hΓ
 refine tS (mn (ba hN hv hd Np) he) ⟨.ref a,at_of ea, !xs.isEmpty,.inl ⟨vs,bt.of (E.sub _ _ ha),?_⟩,q H R E (ar.refl _)⟩
 cases pp<;>rfl
theorem oW (i:Nat){e:Expr}{p1 ap cp:Pos}{y:α}(he:EV X e Γ r y Γ1)(hΓ:Γ[i]?=some (.mu r xs))(hΓ1:Γ1[i]?=some (.mu r xs))(hz:xs.length < K4)
 (hN:X.N[i]?=some x:=by rfl) (hv:autoParam (bZ X.env.scope x) NC)
 (hd:Nr x:=by decide) (Np:NA x:=by decide)
 (Nv:Li (.Name x p1) "append" X.env (eval (.Name x p1) X.env)=eval (.Name x p1) X.env:=by rfl)
 (NN:((Lb cp (K2 [e] X.env)).all (λx=> !x.1)&&(LH cp (Lq [] X.env)).all (λx=>x.1.isSome)
  &&decide ([e].length + ([]:List Ll).length + (if([]:List Ll).isEmpty then 0 else 1) < 30))=true:=by rfl)
 (hline:(ap.endLine==cp.line)=true:=by rfl) (hs:K2 [e] X.env=(false,eval e X.env)::K2 [] X.env:=by rfl):EV X (.Call (.Attribute (.Name x p1) "append" ap) [e] [] cp) Γ fI () (Γ1.set i (.mu r (xs++[y]))):=λσ H0 R0 H R E Q q=>by
 obtain⟨a,vs,ea,ha,hR,pp⟩:=E.ent i _ hΓ
 refine eS (iG Mr Ms Mt jq (ba hN hv hd Np) (aH aJ bJ hs) Nv NN hline hs rfl) ?_
 refine⟨.ref a,at_of ea,.inl ⟨rfl,vs,bt.of ha⟩,he σ H0 R0 H R E _ λv H1 R1 E1 s1 e1=>?_⟩
 obtain⟨a',N3,NM,N8,NI,Ol⟩:=E1.ent i _ hΓ1
 rw[ea] at NM;cases NM
 refine⟨a,N3,v,rfl,rfl,N8,by rw[Ol.length];exact hz,?_⟩
 exact q _ _ R1 (E1.upd (en:=.mu r (xs++[y])) hΓ1 rfl ea NI ⟨a,_,rfl,aA,NI,cY Ol (.cons e1 .nil)⟩) s1 rfl
theorem pT {i:Nat}(hΓ:Γ[i]?=some (.mu r xs))(hz:xs.length<=K4)(σ:St)(H0 R0 H R:Hp)(E:aq X.K σ H0 R0 H R Γ):aq X.K σ H H H H ((Γ.map nC).set i (.im (ak r) xs)):=by
 obtain⟨a,vs,ea,ha,hR,pp⟩:=E.ent i _ hΓ
 exact E.N6.j7 (i:=i) (e0:=.no) (by rw[Je,hΓ];rfl) ⟨.ref a,ea,a,vs,rfl,ha,Paired.map (λ_ _=>r.mono E.sub) pp,hz⟩ λb w=>by cases w
theorem nQ (i:Nat){p1 pos:Pos}{P:List α->Prop}(hΓ:Γ[i]?=some (.mu r xs))(hz:xs.length<=K4)(h:P xs)(hN:X.N[i]?=some x:=by rfl)(hv:autoParam (bZ X.env.scope x) NC)
 (hd:Nr x:=by decide) (Np:NA x:=by decide):W1 X (.Return (some (.Name x p1)) pos) Γ N (iF X.K r P):=λσ H0 R0 H R E D dn dr=>by
 obtain⟨a,vs,ea,ha,hR,pp⟩:=E.ent i _ hΓ
 exact sS (fW (ba hN hv hd Np)) ⟨.ref a,at_of ea,dr _ H R E.ext ⟨a,vs,xs,rfl,E.new i _ a hΓ rfl ea,ha,hR,pp,hz,h⟩⟩
theorem lH {j:Nat}{pos:Pos}:EV X (.Constant .none j pos) Γ fI () Γ:=λ_ _ _ _ _ E _ q=>eS Bz (q _ _ _ E (ar.refl _) rfl)
end
section
variable {X:Cx}{Γ Γ1 Γ2 Γ3:Ga}{α β γ δ:Type}{N:Ga->Prop}{T:RT}
def kB (r:Rep α)(r':Rep β):Rep (α ⊕ β):=⟨λK H v o=>match o with | .inl x=>r.R K H v x | .inr y=>r'.R K H v y,λ{K H H' v o} s h=>by cases o with | inl x=>exact r.mono s h | inr y=>exact r'.mono s h⟩
theorem EV.inl {e:Expr}{r:Rep α}{r':Rep β}{x:α}(h:EV X e Γ r x Γ1):EV X e Γ (kB r r') (.inl x) Γ1:=EV.rep h λ_ _ q=>q
theorem EV.inr {e:Expr}{r:Rep α}{r':Rep β}{y:β}(h:EV X e Γ r' y Γ1):EV X e Γ (kB r r') (.inr y) Γ1:=EV.rep h λ_ _ q=>q
end
theorem Bk {α β γ:Type}{r:Rep α}{r':Rep β}{rc:Rep γ} [DecidableEq α] [DecidableEq β] [DecidableEq γ]{n m k:Nat}(e:da (aP r r') n)(e':da (ak rc) m)(hn:n<=k)(hm:m<=k):da (kB (aP r r') (ak rc)) k:=by
 have tl:∀{K:MP} {R:Hp} {v:V} {x:α×β} {y:List γ},(aP r r').R K R v x->(ak rc).R K R v y->False:=by
  rintro K R v x y ⟨a,v1,v2,rfl,h,_⟩ ⟨a',vs,e1,h',_⟩
  cases e1
  rw[h] at h';cases h'
 refine⟨?_,?_⟩
 ·intro K R v x y h1 h2
  cases x with
  | inl x=>cases y with
    | inl y=>exact congrArg _ (e.inj h1 h2)
    | inr y=>exact(tl h1 h2).elim
  | inr x=>cases y with
    | inl y=>exact(tl h2 h1).elim
    | inr y=>exact congrArg _ (e'.inj h1 h2)
 ·intro X Nh σ H s R A I sub v u vv uu x y rv ru h1 h2 hu
  have isT:∀{a:Addr} {vs:List V},R a=some (.tup vs)->∃Nj,s.heap.IsTuple a Nj:=λ{a vs} ha=>by
   obtain⟨_,Nj,_,o,h1,h2,n,h3⟩:=(show cj X.prog X.w H s.heap a (.tup vs) from I.Nm a _ (sub _ _ ha))
   exact⟨_,o,h1,h2,n,h3⟩
  have isL:∀{a:Addr} {vs:List V},R a=some (.lst vs)->∃Nj,s.heap.IsList a Nj:=λ{a vs} ha=>by
   obtain⟨us,hv,pl,_⟩:=I.list (bt.of (sub _ _ ha))
   exact⟨_,pl.isList⟩
  cases x with
  | inl x=>cases y with
    | inl y=>rw[show decide (Sum.inl (β:=List γ) x=Sum.inl y)=decide (x=y) by simp];exact e.eq I sub rv ru h1 h2 (by omega)
    | inr y=>
      obtain⟨a,v1,v2,rfl,ha,_⟩:=h1
      obtain⟨b,vs,rfl,hb,_⟩:=h2
      cases rv
      cases ru
      obtain⟨_,ta⟩:=isT ha
      obtain⟨_,lb⟩:=isL hb
      rw[show decide (Sum.inl x=Sum.inr (α:=α×β) y)=false by simp]
      exact MD.of_refs (λz=>by rw[z,hb] at ha;cases ha) (ME.tuple_list ta lb (by omega))
  | inr x=>cases y with
    | inl y=>
      obtain⟨b,vs,rfl,hb,_⟩:=h1
      obtain⟨a,v1,v2,rfl,ha,_⟩:=h2
      cases rv
      cases ru
      obtain⟨_,ta⟩:=isT ha
      obtain⟨_,lb⟩:=isL hb
      rw[show decide (Sum.inr (α:=α×β) x=Sum.inl y)=false by simp]
      exact MD.of_refs (λz=>by rw[z,ha] at hb;cases hb) (ME.list_tuple lb ta (by omega))
    | inr y=>rw[show decide (Sum.inr (α:=α×β) x=Sum.inr y)=decide (x=y) by simp];exact e'.eq I sub rv ru h1 h2 (by omega)
section
variable {X:Cx}{Γ Γ1 Γ2 Γ3:Ga}{α β γ δ:Type}{N:Ga->Prop}{T:RT}
end
section
variable {X:Cx}{Γ Γ1 Γ2 Γ3:Ga}{α β γ δ:Type}{N:Ga->Prop}{T:RT}
def eO (H:Hp)(l:Ig):Hp:=λb=>if b∈l then none else H b
theorem iN {H:Hp}{l:Ig}{b:Addr}(h:b∈l):eO H l b=none:=if_pos h
theorem eN {H:Hp}{l:Ig}{b:Addr}(h:b∉l):eO H l b=H b:=if_neg h
theorem mJ {H:Hp}{l:Ig}:ar (eO H l) H:=λb o q=>by
 by_cases h:b∈l
 ·rw[iN h] at q;cases q
 ·rwa [eN h] at q
theorem aq.uA {K:MP}{σ:St}{H0 R0 H R H' R':Hp}{i:Nat}{B B':jv}(E:aq K σ H0 R0 H R Γ)(hΓ:Γ[i]?=some (.ob B))(x:Ext (eO H B.fp) R H' R')(ho:(Ent.ob B').ok K H' R' (σ[i]?).join)(O4:∀b∈B'.fp,b∈B.fp):aq K σ H0 R0 H' R' (Γ.set i (.ob B')):=by
 have h0:∀b∈B.fp,H0 b=none:=λb hb=>E.nw i _ b hΓ hb
 have out:∀{b:Addr},H0 b≠none->b∉B.fp:=λh e=>h (h0 _ e)
 have apart:∀(j:Nat) (e:Ent),j≠i->Γ[j]?=some e->∀b∈e.fp (σ[j]?).join,b∉B.fp:=λj e hj qj b hb w=>hj (E.ds j i e _ b qj hΓ hb w)
 refine⟨⟨λb o q=>?_,E.ext.r.trans x.r,x.s,λb hb=>?_⟩,λj e q=>?_,λj e b q w=>?_,λj k e e' b q q' w w'=>?_,by rw[Jp];exact E.len⟩
 ·exact x.h b o (by rw[eN (out (by rw[q];exact KH _))];exact E.ext.h b o q)
 ·refine(x.old b ?_).trans (E.ext.old b hb)
  rw[eN (out hb)];exact ar.some E.ext.h hb
 ·rcases set_at q with⟨rfl,rfl,_⟩ | ⟨hj,q1⟩
  ·exact ho
  ·have h1:=E.ent j e q1
   refine h1.loc (λb hb=>?_) x.r λb hb=>?_
   ·cases e2:H b with
    | none=>exact absurd e2 (Ent.dB h1 hb).1
    | some u=>exact x.h b u (by rw[eN (apart j e hj q1 b hb)];exact e2)
   ·exact(x.old b (by rw[eN (apart j e hj q1 b hb)];exact(Ent.dB h1 hb).1)).trans (Ent.dB h1 hb).2
 ·rcases set_at q with⟨rfl,rfl,_⟩ | ⟨hj,q1⟩
  ·exact h0 b (O4 b w)
  ·exact E.nw j e b q1 w
 ·rcases set_at q with⟨rfl,rfl,_⟩ | ⟨hj,q1⟩
  ·rcases set_at q' with⟨rfl,rfl,_⟩ | ⟨hk,Of⟩
   ·rfl
   ·exact absurd (O4 b w) (apart k e' hk Of b w')
  ·rcases set_at q' with⟨rfl,rfl,_⟩ | ⟨hk,Of⟩
   ·exact absurd (O4 b w') (apart j e hj q1 b w)
   ·exact E.ds _ _ _ _ b q1 Of w w'
structure hV (P:Type):Type 1 where
 bx:Addr->Addr->P->jv
 fp:∀a b s,(bx a b s).fp=[a,b]
 at_:∀{K H R v a b s},(bx a b s).R K H R v->v= .ref a
abbrev jw (P:Type):=MP->P->List Pk->(P->RT)->Prop
def eo {P:Type}(B:hV P)(S:jw P)(K:MP):Sp:=λvs H Q _=>∃R a b s N3 ps T,vs= .ref a::N3/\ar R H/\(R a=none/\R b=none)/\(B.bx a b s).R K H R (.ref a)/\gu K R N3 ps/\S K s ps T/\
 ∀v H' R' s',Ext (eO H [a,b]) R H' R'->(B.bx a b s').R K H' R' (.ref a)->(R' a=none/\R' b=none)->T s' (eO H [a,b]) v H' R'->Q v H'
theorem e8 {P:Type}{B:hV P}{K:MP}{H R:Hp}{a b:Addr}{s:P}{o:Option V}(h:(Ent.ob (B.bx a b s)).ok K H R o):o=some (.ref a)/\(B.bx a b s).R K H R (.ref a)/\R a=none/\R b=none:=by
 obtain⟨⟨v,e,hv⟩,hR⟩:=h
 have:=B.at_ hv
 subst this
 exact⟨e,hv,hR a (by rw[B.fp];simp),hR b (by rw[B.fp];simp)⟩
theorem jn {P:Type}{B:hV P}{K:MP}{H R:Hp}{a b:Addr}{s:P}(h:(B.bx a b s).R K H R (.ref a))(h1:R a=none)(h2:R b=none):(Ent.ob (B.bx a b s)).ok K H R (some (.ref a)):=
 ⟨⟨_,rfl,h⟩,λc hc=>by
   rw[B.fp] at hc
   rcases IY.mp hc with rfl | hc
   ·exact h1
   ·rw[II.mp hc];exact h2⟩
theorem kS {P:Type}{B:hV P}{S:jw P}{x y:Str}{k:Nat}{es:Ii}{p p1 pos:Pos}{ps:List Pk}{a b:Addr}{s0 s:P}{TM:P->RT}{Q:VK}{σ:St}{H0 R0 H R:Hp}(i:Nat)(C:ax X.prog X.w X.K X.mg X.base x k (eo B S X.K))(hr:bI k X.A)(ha:HA X es Γ ps Γ1)(hΓ:Γ[i]?=some (.ob (B.bx a b s0)))(hΓ1:Γ1[i]?=some (.ob (B.bx a b s)))(hS:S X.K s ps TM)(E:aq X.K σ H0 R0 H R Γ)
 (q:∀H1 R1 v H' R' s',aq X.K σ H0 R0 H1 R1 Γ1->ar R R1->Ext (eO H1 [a,b]) R1 H' R'->aq X.K σ H0 R0 H' R' (Γ1.set i (.ob (B.bx a b s')))->TM s' (eO H1 [a,b]) v H' R'->Q v H')
 (hg:Gl X x) (Nx:(x==("__debug__":Str))=false) (he:K2 (.Name y p1::es) X.env=(false,eval (.Name y p1) X.env)::K2 es X.env) (Nw:(Lb pos (K2 es X.env)).any (·.1)=false)
 (hN:X.N[i]?=some y) (hv:bZ X.env.scope y) (hd:(y==("__debug__":Str))=false) (Np:(y==("__classdict__":Str))=false):eF X (.Call (.Name x p) (.Name y p1::es) [] pos) σ H Q:=by
 obtain⟨f,fd,pn,F,hm,hk,hb⟩:=C.ex
 obtain⟨ea,_,_⟩:=e8 (E.ent i _ hΓ)
 refine eS (hZ F hr hg hm hk hb .nil kC (aH (ba hN hv hd Np) js he) Nx he Nw) ⟨.ref a,at_of ea,ha σ H0 R0 H R E _ λus H1 R1 E1 s1 p1=>?_⟩
 obtain⟨Q6,hB,OQ,Og⟩:=e8 (E1.ent i _ hΓ1)
 refine⟨R1,a,b,s,us,ps,TM,by rw[Jj],E1.sub,⟨OQ,Og⟩,hB,p1,hS,λv H' R' s' xx QK NI t=>q H1 R1 v H' R' s' E1 s1 xx ?_ t⟩
 refine E1.uA hΓ1 (by rw[B.fp];exact xx) (by rw[Q6];exact jn QK NI.1 NI.2) λc hc=>?_
 rw[B.fp] at hc ⊢;exact hc
theorem bo (i:Nat){P:Type}{B:hV P}{S:jw P}{x y:Str}{k:Nat}{es:Ii}{p p1 pos:Pos}{ps:List Pk}{a b:Addr}{s0 s st:P}{rr:Rep β}{z:β}(C:ax X.prog X.w X.K X.mg X.base x k (eo B S X.K))(hr:bI k X.A)(ha:HA X es Γ ps Γ1)(hΓ:Γ[i]?=some (.ob (B.bx a b s0)))(hΓ1:Γ1[i]?=some (.ob (B.bx a b s)))(hS:S X.K s ps (λs'=>bL X.K rr λw=>s'=st/\w=z))
 (hg:Gl X x:=by rfl) (Nx:Nr x:=by decide) (he:K2 (.Name y p1::es) X.env=(false,eval (.Name y p1) X.env)::K2 es X.env:=by rfl) (Nw:(Lb pos (K2 es X.env)).any (·.1)=false:=by rfl)
 (hN:X.N[i]?=some y:=by rfl) (hv:autoParam (bZ X.env.scope y) NC) (hd:Nr y:=by decide) (Np:NA y:=by decide):
 EV X (.Call (.Name x p) (.Name y p1::es) [] pos) Γ rr z (Γ1.set i (.ob (B.bx a b st))):=λσ H0 R0 H R E Q q=>
 kS i C hr ha hΓ hΓ1 hS E (λH1 R1 v H' R' s' _ s1 xx E' t=>by
  obtain⟨w,e1,rfl,rfl⟩:=t
  exact q v H' R' E' (s1.trans xx.r) e1) hg Nx he Nw hN hv hd Np
theorem mB {tg:Expr}(i:Nat){P:Type}{B:hV P}{S:jw P}{x y:Str}{k:Nat}{es:Ii}{p p1 p2 pos:Pos}{ps:List Pk}{a b:Addr}{s0 s:P}{rr:Rep β}{Pd:P->β->Prop}{bf:β->Ga->Ga}(C:ax X.prog X.w X.K X.mg X.base x k (eo B S X.K))(hr:bI k X.A)(ha:HA X es Γ ps Γ1)(hΓ:Γ[i]?=some (.ob (B.bx a b s0)))(hΓ1:Γ1[i]?=some (.ob (B.bx a b s)))(hS:S X.K s ps (λs'=>bL X.K rr (Pd s')))(hb:BG X tg rr bf)(h:∀s' z,Pd s' z->N (bf z (Γ1.set i (.ob (B.bx a b s')))))
 (hg:Gl X x:=by rfl) (Nx:Nr x:=by decide) (he:K2 (.Name y p1::es) X.env=(false,eval (.Name y p1) X.env)::K2 es X.env:=by rfl) (Nw:(Lb p2 (K2 es X.env)).any (·.1)=false:=by rfl)
 (hN:X.N[i]?=some y:=by rfl) (hv:autoParam (bZ X.env.scope y) NC) (hd:Nr y:=by decide) (Np:NA y:=by decide)
 (hs:Ls [tg] (.Call (.Name x p) (.Name y p1::es) [] p2) pos.line X.env=pure false:=by rfl) (hw:Lu [tg] (.Call (.Name x p) (.Name y p1::es) [] p2) X.env=pure none:=by rfl) (h1:(Lg [tg] X.env).map (·.2)=[Lp tg X.env]:=by rfl):
 W1 X (.Assign [tg] (.Call (.Name x p) (.Name y p1::es) [] p2) pos) Γ N T:=λσ H0 R0 H R E D dn dr=>
 sS (iw aJ tU hs hw h1) (kS i C hr ha hΓ hΓ1 hS E (λH1 R1 v H' R' s' _ s1 xx E' t=>by
  obtain⟨w,e1,hz⟩:=t
  exact hb σ H0 R0 H' R' _ v w E' e1 _ λσ2 E2=>dn σ2 H' R' _ E2 (s1.trans xx.r) (h s' w hz)) hg Nx he Nw hN hv hd Np)
def xB (K:MP){P:Type}(B:hV P)(a b:Addr)(T:P->RT):RT:=λH0 v H' R'=>∃s',(B.bx a b s').R K H' R' (.ref a)/\(R' a=none/\R' b=none)/\T s' H0 v H' R'
theorem eQ (i:Nat){P:Type}{B:hV P}{e:Expr}{pos:Pos}{a b:Addr}{s:P}{rr:Rep β}{y:β}{Pd:P->β->Prop}(he:EV X e Γ rr y Γ1)(hΓ1:Γ1[i]?=some (.ob (B.bx a b s)))(h:Pd s y):W1 X (.Return (some e) pos) Γ N (xB X.K B a b λs'=>bL X.K rr (Pd s')):=λσ H0 R0 H R E D dn dr=>
 sS (fW aJ) (he σ H0 R0 H R E _ λv H1 R1 E1 s1 e1=>by
  obtain⟨ea,hB,hR⟩:=e8 (E1.ent i _ hΓ1)
  exact dr v H1 R1 E1.ext ⟨s,hB,hR,y,e1,h⟩)
theorem uD {P:Type}{B:hV P}{K:MP}{R H:Hp}{a b:Addr}{st:P}{vs:List V}{ps:List Pk}{N:Ic}(s:ar R H)(hR:R a=none/\R b=none)(hB:(B.bx a b st).R K H R (.ref a))(p:gu K R vs ps)(hl:ps.length + 1<=N.length):
 aq K (L2.start N (.ref a::vs)) (eO H [a,b]) R H R (.ob (B.bx a b st)::dP ps (N.length - 1)):=by
 obtain⟨n0,N',rfl⟩:∃n0 N',N=n0::N':=by cases N with
  | nil=>exact absurd hl (by simp)
  | cons n N'=>exact⟨n,N',rfl⟩
 have Rz:ps.length<=N'.length:=by simpa using hl
 have E0:=d9 (N:=N') s p Rz
 have es:L2.start (n0::N') (.ref a::vs)=some (.ref a)::L2.start N' vs:=by unfold L2.start;simp
 rw[es]
 have NB:∀(i:Nat) (e:Ent) (o:Option V),(dP ps N'.length)[i]?=some e->e.fp o=[]:=λi e o q=>by
  unfold dP at q
  rcases IS.mp (IQ q) with z | z
  ·obtain⟨p,_,rfl⟩:=Jf.mp z;rfl
  ·obtain⟨_,rfl⟩:=J3.mp z;rfl
 refine⟨⟨mJ,ar.refl _,s,λ_ _=>rfl⟩,λi e q=>?_,λi e c q w=>?_,λi j e e' c q q' w w'=>?_,?_⟩
 ·cases i with
  | zero=>simp at q;subst q;exact jn hB hR.1 hR.2
  | succ i=>simp at q;simpa using E0.ent i e q
 ·cases i with
  | zero=>
    simp at q;subst q
    have w:c∈(B.bx a b st).fp:=w
    rw[B.fp] at w
    exact iN w
  | succ i=>simp at q;rw[NB i e _ q] at w;cases w
 ·cases i with
  | succ i=>simp at q;rw[NB i e _ q] at w;cases w
  | zero=>
    cases j with
    | zero=>rfl
    | succ j=>simp at q';rw[NB j e' _ q'] at w';cases w'
 ·have:=E0.len
  simp[this]
variable {P:K7}{w:World}{K:MP}{mg:HZ}{base:Heap}
theorem jh {Q0:Type}{B:hV Q0}{S:jw Q0}{x qual:Str}{st:Stmt}{f:Addr}{fd:Ld}{N ps:Ic}{k:Nat}(F:bC K x qual st f fd)(Sc:aF N ps (ag st))(hm:mg x=some (.ref f))(hb:Binds K fd ps [])(len:∀s qs T,S K s qs T->qs.length + 1=ps.length)
 (NH:∀(Nl:Value) (A:La) (outer:List Env) (s:K3) (H:Hp) (E:XK) (a b:Addr) (u:Q0) (qs:List Pk) (T:Q0->RT),bI k (A.deeper (KP qual (ag st) s.heap.objs.size f Nl))->S K u qs T->
  WS (bQ dW P w K mg base N qual (ag st) f Nl A outer s H E).cO (bG st) (.ob (B.bx a b u)::dP qs (N.length - 1)) (λΓ=>∃u',Γ[0]?=some (.ob (B.bx a b u'))/\∀H0 H' R',T u' H0 .Nu H' R') (xB K B a b T)):ax P w K mg base x (k + 1) (eo B S K):=by
 refine⟨f,fd,ps,?_,hm,F.kp,hb⟩
 refine F.ok Sc (λvs H Q E h=>?_) (λNl A outer s H vs Q E hr h=>?_)
 ·obtain⟨R,a,b,u,N3,qs,T,rfl,_,_,_,p,hS,_⟩:=h
  rw[I0,p.length];exact len u qs T hS
 ·obtain⟨R,a,b,u,N3,qs,T,rfl,sR,hR,hB,p,hS,q⟩:=h
  have hl:qs.length + 1<=N.length:=by
   rw[len u qs T hS]
   have:=congrArg List.length Sc.pre
   rw[Jm] at this
   omega
  refine⟨_,dI,NH Nl A outer s H E a b u qs T hr hS (L2.start N (.ref a::N3)) (eO H [a,b]) R H R (uD sR hR hB p hl) {nx:=λ_ H'=>Q .Nu H',rt:=Q} (λσ' H' R' Γ' E' _ ⟨u',hΓ,t⟩=>?_) λv H' R' xx t=>?_⟩
  ·obtain⟨ea,QK,NI⟩:=e8 (E'.ent 0 _ hΓ)
   exact q .Nu H' R' u' E'.ext QK NI (t _ _ _)
  ·obtain⟨s',h1,h2,h3⟩:=t
   exact q v H' R' s' xx h1 h2 h3
end
section
variable {prog:K7}{w:World}{A:La}{E:Value->K3->Prop}{s:K3}
theorem oE {it t:Addr}{items:Array Value}(NO:t≠it):∀(n i:Nat) (s:K3) (Q:Ih->K3->Prop),s.heap.IsListIter it t i->s.heap.IsList t items->i + n<=items.size->
 (∀h',h'.IsListIter it t (i + n)->Mz it s.heap h'->Q ((items.toList.drop i).take n) {s with heap:=h'})->wpAny (model prog w) A (draw (.ref it) n) Q E s
 | 0,i,s,Q,hit,_,_,hQ=>by
   show wpAny _ _ (pure []) Q E s
   exact K8 (by simpa using hQ s.heap hit (Mz.refl ..))
 | n + 1,i,s,Q,hit,ht,hle,hQ=>by
   have NJ:i < items.size:=by omega
   show wpAny _ _ (pyNext (.ref it) >>=_) Q E s
   refine K6 (wpAny_pyNext_list_item hit ht (x:=items[i]) (by simp[NJ]) λh₁ hit₁ hs₁=>?_)
   refine K6 (Ln (oE NO n (i + 1) _ _ hit₁ (ht.extBut hs₁.extBut NO) (by omega) λh₂ hit₂ hs₂=>K8 ?_))
   have hd:items.toList.drop i=items[i]::items.toList.drop (i + 1):=by simp[JF,NJ]
   have:=hQ h₂ (by rw[show i + (n + 1)=i + 1 + n by omega];exact hit₂) (hs₁.trans hs₂)
   rw[hd,J5] at this
   exact this
theorem mh {t:Addr}{items:Array Value}{Q:Ih->K3->Prop}(hh:A.handled=none)(ht:s.heap.IsList t items)
 (hQ:∀h',Heap.ExtBut s.heap.objs.size s.heap h'->Q items.toList {s with heap:=h'}):wpAny (model prog w) A (unpackItems (.ref t) items.size none) Q E s:=by
 have NJ:t≠s.heap.objs.size:=by obtain⟨o,ho,_⟩:=ht;exact Kt (Mw ho)
 unfold unpackItems
 refine K6 ?_
 ·unfold notIterableAtAll
  refine K6 (wpAny_specialOf ht.typeIs slot_list_iter.lookup ?_)
  refine K8 ?_
  simp only[Ir,if_false]
  refine K6 (Ln (LP ht ?_))
  refine K6 (Ln (oE NJ items.size 0 _ _ ⟨_,My _ rfl,rfl,rfl⟩ (ht.push _) (by omega) λh₁ hit₁ hs₁=>?_))
  have Ph:List.take items.size (List.drop 0 items.toList)=items.toList:=by
   rw[List.drop_zero];exact Kb (by simp)
  rw[Ph]
  rw[if_neg (by simp)]
  have ht₁:h₁.IsList t items:=(ht.push _).extBut hs₁.extBut NJ
  refine K6 (Ln (wpAny_pyNext_list_end hh hit₁ ht₁ (by simp) λh₂ he₂=>?_))
  simp only[Option.isSome_none,Ir,if_false]
  refine K8 (hQ h₂ λb o hb e=>he₂ b o hb (hs₁.extBut b o hb (Mx _ e)))
theorem lW {env:Env}{elts:Ii}{x1}{pos:Pos}{t:Addr}{items:Array Value}{Q:Unit->K3->Prop}(hh:A.handled=none)(ht:s.heap.IsList t items)
 (hn:(Lg elts env).length=items.size) (SR:(Lg elts env).findIdx? (·.1)=none)
 (h:∀h',Heap.ExtBut s.heap.objs.size s.heap h'->wpAny (model prog w) A (assignInOrder ((Lg elts env).map (·.2)) items.toList) Q E {s with heap:=h'}):
 wpAny (model prog w) A (Lp (.Tuple elts x1 pos) env (.ref t)) Q E s:=by
 rw[assign_Tuple]
 refine K6 (L3 ?_)
 unfold unpack
 rw[hn,SR]
 exact K6 (Ln (mh hh ht h))
end
section
variable {X:Cx}{Γ Γ1 Γ2 Γ3:Ga}{α β γ δ:Type}{N:Ga->Prop}{T:RT}
def HU (K:MP)(n:Nat)(t:nK):TG:=λv σ H Q=>∃a xs,v= .ref a/\bt K H a xs/\xs.length=n/\t xs σ H Q
theorem vt {es:Ii}{k:Nat}{pos:Pos}{t:nK}{n:Nat}(hc:X.calm=true)(h:wQ X es t)
 (hn:(Lg es X.env).length=n:=by rfl) (OA:(Lg es X.env).findIdx? (·.1)=none:=by rfl):PG X (.Tuple es k pos) (HU X.K n t):=by
 intro Nh s σ H v u Q I r hw
 obtain⟨a,xs,e1,hq,hl,hw⟩:=hw
 subst e1
 cases r
 obtain⟨Nj,rv,pl,hz⟩:=I.list hq
 refine lW (I.ok.hd hc) pl.isList (by simp[hn,← hl,rv.length]) OA λh' hx=>?_
 have I1:Inv X Nh σ H {s with heap:=h'}:=I.kept (t':=s.toks) λb o e=>hx b o (Kt (Mw e)) e
 exact h Nh _ σ H xs _ Q I1 (by simpa using rv) hw
def gB (r:Rep α):Rep (α×α):=⟨λK H v x=>(ak r).R K H v [x.1,x.2],λs h=>(ak r).mono s h⟩
theorem oA (i j:Nat){x y:Str}{k:Nat}{p1 p2 pos:Pos}{r:Rep α}(hc:X.calm=true:=by rfl)(hN:X.N.Nodup:=by first | assumption | decide)(hi:X.N[i]?=some x:=by rfl)(hx:autoParam (Loc X.env.scope x) Oe)(hf:autoParam (X.fn x=true∨X.env.scope.names.lookup x=some .local) Od)
 (hj:X.N[j]?=some y:=by rfl) (hy:autoParam (Loc X.env.scope y) Oe) (Tc:autoParam (X.fn y=true∨X.env.scope.names.lookup y=some .local) Od):
 BG X (.Tuple [.Name x p1,.Name y p2] k pos) (gB r) (λw Γ=>(Γ.set i (.im r w.1)).set j (.im r w.2)):=λσ H0 R0 H R Γ v w E h Q q=>by
 obtain⟨a,vs,rfl,ha,pp,_⟩:=h
 obtain⟨v1,v2,rfl,e1,e2⟩:∃v1 v2,vs=[v1,v2]/\r.R X.K R v1 w.1/\r.R X.K R v2 w.2:=by
  cases pp with
  | cons h1 t=>cases t with
    | cons h2 t=>cases t;exact⟨_,_,rfl,h1,h2⟩
 exact gS (vt hc (eh (eu hN hi hx hf) (eh (eu hN hj hy Tc) lU))) ⟨a,_,rfl,bt.of (E.sub _ _ ha),rfl,v1,[v2],rfl,v2,[],rfl,rfl,q _ ((E.set i e1).set j e2)⟩
end
abbrev Pu:=Ib×Int
def zr (a b:Addr)(s:Pu):jv where
 fp:=[a,b]
 R:=λK H R v=>v= .ref a/\H a=some (.lst [.ref b,.int s.2])/\H b=some (.lst (s.1.map V.int))/\a≠b
 loc:=λhH hR ⟨e,h1,h2,h3⟩=>⟨e,(hH a IT).trans h1,(hH b (by simp)).trans h2,h3⟩
 has:=λ⟨e,h1,h2,h3⟩ c hc=>by
  rcases IY.mp hc with rfl | hc
  ·rw[h1];exact KH _
  ·rw[II.mp hc,h2];exact KH _
def bg:hV Pu:=⟨zr,λ_ _ _=>rfl,λh=>h.1⟩
def rV:Rep V:=⟨λ_ _ v x=>v=x,λ_ h=>h⟩
theorem o9 {K:MP}{R:Hp}:∀{vs ys:List V},PySem.Paired (rV.R K R) vs ys->vs=ys
 | _,_,.nil=>rfl
 | _,_,.cons h t=>by rw[show _=_ from h,o9 t]
section
variable {X:Cx}{Γ Γ1 Γ2 Γ3:Ga}{α β γ δ:Type}{N:Ga->Prop}{T:RT}
variable {b:Addr}{e:Expr}{y:Str}{p1:Pos}{a:Addr}{s:Pu}{p p2:Pos}{x:Str}{c:Int}
theorem EV.ET {n:Int}(h:EV X e Γ af n Γ1):EV X e Γ rV (.int n) Γ1:=EV.rep h λ_ _ q=>q
theorem yU (i:Nat){r:Rep α}{xs:List α}(hΓ:Γ[i]?=some (.ob (cN b r xs)))(hN:X.N[i]?=some x:=by rfl)(hv:autoParam (bZ X.env.scope x) NC)
 (hd:Nr x:=by decide) (Np:NA x:=by decide):EV X (.Name x p) Γ rV (.ref b) Γ:=λσ H0 R0 H R E Q q=>by
 obtain⟨ea,_⟩:=eX (E.ent i _ hΓ)
 exact eS (ba hN hv hd Np) ⟨.ref b,at_of ea,q _ H R E (ar.refl _) rfl⟩
def ux (P:Pu->Prop):RT:=λH0 v H' R'=>∃a b s,v= .ref a/\(H0 a=none/\H0 b=none)/\(R' a=none/\R' b=none)/\H' a=some (.lst [.ref b,.int s.2])/\H' b=some (.lst (s.1.map V.int))/\a≠b/\P s
theorem A1 (i:Nat){pos:Pos}{xs:Ib}{t:Int}{P:Pu->Prop}(he:aE X e Γ rV [.ref b,.int t] Γ1)(hΓ1:Γ1[i]?=some (.ob (cN b af xs)))(h:P (xs,t)):W1 X (.Return (some e) pos) Γ N (ux P):=λσ H0 R0 H R E D dn dr=>
 sS (fW aJ) (he σ H0 R0 H R E _ λa vs H1 R1 E1 s1 ha hR h0 off pp _=>by
  obtain⟨ea,⟨ws,hb,pb⟩,Og⟩:=eX (E1.ent i _ hΓ1)
  have:=o9 pp
  subst this
  have NO:a≠b:=λz=>off i _ hΓ1 (by rw[z];exact II.mpr rfl)
  exact dr _ H1 R1 E1.ext ⟨a,b,(xs,t),rfl,⟨h0,E1.nw i _ b hΓ1 (II.mpr rfl)⟩,⟨hR,Og⟩,ha,by rw[← eD pb];exact hb,NO,h⟩)
theorem yh (i:Nat){S:cf}{k:Nat}{es:Ii}{pos:Pos}{ps:List Pk}{Pd:Pu->Prop}(C:ax X.prog X.w X.K X.mg X.base x k (aG S X.K))(hr:bI k X.A)(ha:HA X (e::es) Γ ps Γ1)(hS:S X.K ps (ux Pd))(h:∀a b s,Pd s->N (Γ1.set i (.ob (bg.bx a b s))))
 (hg:Gl X x:=by rfl) (Nx:Nr x:=by decide) (he:K2 (e::es) X.env=(false,eval e X.env)::K2 es X.env:=by rfl) (Nw:(Lb p2 (K2 es X.env)).any (·.1)=false:=by rfl)
 (hN:X.N.Nodup:=by first | assumption | decide) (hi:X.N[i]?=some y:=by rfl) (hx:autoParam (Loc X.env.scope y) Oe)
 (hs:K9 (.Call (.Name x p) (e::es) [] p2) (some (.Name y p1)) pos.line X.env=pure false:=by rfl) (hf:autoParam (X.fn y=true∨X.env.scope.names.lookup y=some .local) Od):
 W1 X (.Assign [.Name y p1] (.Call (.Name x p) (e::es) [] p2) pos) Γ N T:=λσ H0 R0 H R E D dn dr=>
 sS (eT hN hi hx aJ hs hf) (dS C hr ha hS E (λH1 R1 v H' R' E1 s1 xx t=>by
  obtain⟨a,b,s,rfl,hn,hR,h1,h2,h3,h4⟩:=t
  have hm:∀c∈(bg.bx a b s).fp,c=a∨c=b:=λc hc=>by
   rcases IY.mp hc with rfl | hc
   ·exact .inl rfl
   ·exact .inr (II.mp hc)
  refine dn _ H' R' _ ((E1.grow xx).setG (en:=.ob (bg.bx a b s)) i (jn (B:=bg) ⟨rfl,h1,h2,h3⟩ hR.1 hR.2) (λc hc=>?_) λc hc j e _ qj w=>?_) (s1.trans xx.r) (h a b s h4)
  ·rcases hm c hc with rfl | rfl
   ·exact E1.ext.h.free hn.1
   ·exact E1.ext.h.free hn.2
  ·rcases hm c hc with rfl | rfl
   ·exact(Ent.dB (E1.ent j e qj) w).1 hn.1
   ·exact(Ent.dB (E1.ent j e qj) w).1 hn.2) hg Nx he Nw)
theorem As (i j m:Nat){z:Str}{k:Nat}{p3 pos:Pos}(hΓ:Γ[i]?=some (.ob (bg.bx a b s)))(h:N ((Γ.set j (.im rV (.ref b))).set m (.im af s.2)))
 (hNi:X.N[i]?=some x:=by rfl) (hv:autoParam (bZ X.env.scope x) NC) (hd:Nr x:=by decide) (Np:NA x:=by decide)
 (hc:X.calm=true:=by rfl) (hN:X.N.Nodup:=by first | assumption | decide) (hj:X.N[j]?=some y:=by rfl) (hy:autoParam (Loc X.env.scope y) Oe) (hf:autoParam (X.fn y=true∨X.env.scope.names.lookup y=some .local) Od)
 (hm:X.N[m]?=some z:=by rfl) (hz:autoParam (Loc X.env.scope z) Oe) (Tc:autoParam (X.fn z=true∨X.env.scope.names.lookup z=some .local) Od)
 (hs:Ls [.Tuple [.Name y p1,.Name z p2] k p3] (.Name x p) pos.line X.env=pure false:=by rfl) (hw:Lu [.Tuple [.Name y p1,.Name z p2] k p3] (.Name x p) X.env=pure none:=by rfl) (h1:(Lg [.Tuple [.Name y p1,.Name z p2] k p3] X.env).map (·.2)=[Lp (.Tuple [.Name y p1,.Name z p2] k p3) X.env]:=by rfl):
 W1 X (.Assign [.Tuple [.Name y p1,.Name z p2] k p3] (.Name x p) pos) Γ N T:=λσ H0 R0 H R E D dn dr=>by
 obtain⟨ea,⟨_,ha,hb,_⟩,_⟩:=e8 (E.ent i _ hΓ)
 refine sS (iw (ba hNi hv hd Np) (vt hc (eh (eu hN hj hy hf) (eh (eu hN hm hz Tc) lU))) hs hw h1) ⟨.ref a,at_of ea,a,_,rfl,bt.of ha,rfl,.ref b,[.int s.2],rfl,.int s.2,[],rfl,rfl,?_⟩
 exact dn _ H R _ ((E.set j (r:=rV) (x:=.ref b) rfl).set m (r:=af) (x:=s.2) rfl) (ar.refl _) h
theorem za (i j:Nat){pos:Pos}(hm:X.mg "len"=none)(hΓ:Γ[i]?=some (.ob (bg.bx a b s)))(hj:Γ[j]?=some (.im rV (.ref b)))
 (hN:X.N[j]?=some y:=by rfl) (hv:autoParam (bZ X.env.scope y) NC) (hd:Nr y:=by decide) (Np:NA y:=by decide)
 (hs:K2 [.Name y p1] X.env=[(false,eval (.Name y p1) X.env)]:=by rfl) (hg:Gl X "len":=by rfl):EV X (.Call (.Name "len" p) [.Name y p1] [] pos) Γ af (s.1.length:Int) Γ:=λσ H0 R0 H R E Q q=>by
 obtain⟨ea,⟨_,ha,hb,_⟩,_⟩:=e8 (E.ent i _ hΓ)
 obtain⟨v0,e0,SN⟩:=E.ent j _ hj
 cases SN
 refine eS (dq fB hg hm LJ (aH (ba hN hv hd Np) bJ hs) (by decide) (by decide) hs) ⟨.ref b,at_of e0,b,_,rfl,.inl (bt.of hb),?_⟩
 rw[IM]
 exact q _ H R E (ar.refl _) rfl
theorem Al (i j:Nat){pos:Pos}{k:Int}(he:EV X e Γ af k Γ)(hΓ:Γ[i]?=some (.ob (bg.bx a b s)))(hj:Γ[j]?=some (.im rV (.ref b)))(hk:cS s.1 k=some c)
 (hN:X.N[j]?=some y:=by rfl) (hv:autoParam (bZ X.env.scope y) NC) (hd:Nr y:=by decide) (Np:NA y:=by decide) (PV:fQ e:=by exact λ_ _=>rfl):EV X (.Subscript (.Name y p1) e pos) Γ af c Γ:=λσ H0 R0 H R E Q q=>by
 obtain⟨v0,e0,SN⟩:=E.ent j _ hj
 cases SN
 refine eS (jt h7 (ba hN hv hd Np) aJ PV) ⟨.ref b,at_of e0,he σ H0 R0 H R E _ λu H2 R2 E2 s2 e2=>?_⟩
 obtain⟨ea,⟨_,ha,hb,_⟩,_⟩:=e8 (E2.ent i _ hΓ)
 obtain⟨w,e3,e4⟩:=iM (paired_ints (K:=X.K) (R:=R2) s.1) hk
 exact⟨b,_,k,w,rfl,e2,bt.of hb,e3,q w H2 R2 E2 s2 e4⟩
theorem sk (xs:Ib)(j:Nat)(y:Int):(xs.map V.int).set j (.int y)=(xs.set j y).map V.int:=by rw[List.map_set]
theorem xh (i j:Nat){b0:Expr}{pos:Pos}{k:Int}{n:Nat}(he:EV X e Γ af c Γ)(Sg:EV X b0 Γ af k Γ)(hΓ:Γ[i]?=some (.ob (bg.bx a b s)))(hj:Γ[j]?=some (.im rV (.ref b)))(hk:eR s.1.length k=some n)(h:N (Γ.set i (.ob (bg.bx a b (s.1.set n c,s.2)))))
 (hN:X.N[j]?=some y:=by rfl) (hv:autoParam (bZ X.env.scope y) NC) (hd:Nr y:=by decide) (Np:NA y:=by decide)
 (ha:∀v,Lp (.Subscript (.Name y p1) b0 p2) X.env v=(do
  let ov ← Lk [v] (eval (.Name y p1) X.env)
  let iv ← Lk [v,ov] (eval b0 X.env)
  LL p2
  Lk [v,ov,iv] (LR ov iv v)
  L5 [v,ov,iv] []):=by intro _;rfl)
 (hs:Ls [.Subscript (.Name y p1) b0 p2] e pos.line X.env=pure false:=by rfl) (hw:Lu [.Subscript (.Name y p1) b0 p2] e X.env=pure none:=by rfl) (h1:(Lg [.Subscript (.Name y p1) b0 p2] X.env).map (·.2)=[Lp (.Subscript (.Name y p1) b0 p2) X.env]:=by rfl):
 W1 X (.Assign [.Subscript (.Name y p1) b0 p2] e pos) Γ N T:=λσ H0 R0 H R E D dn dr=>by
 refine sS (iw aJ (ng (ba hN hv hd Np) aJ set_list ha) hs hw h1) (he σ H0 R0 H R E _ λv H1 R1 E1 s1 e1=>?_)
 obtain⟨v0,e0,SN⟩:=E1.ent j _ hj
 cases SN
 refine⟨.ref b,at_of e0,Sg σ H0 R0 H1 R1 E1 _ λu H2 R2 E2 s2 e2=>?_⟩
 obtain⟨ea,⟨_,h2,h3,NO⟩,OQ,Og⟩:=e8 (E2.ent i _ hΓ)
 cases e1
 refine⟨b,_,k,n,rfl,e2,h3,by rw[IM];exact hk,?_⟩
 rw[sk]
 exact dn σ _ R2 _ (E2.mv (en:=.ob (bg.bx a b (s.1.set n c,s.2))) hΓ (show b∈[a,b] by simp) (by rw[ea];exact jn (B:=bg) ⟨rfl,by rw[aM NO];exact h2,aA,NO⟩ OQ Og) λc w=>.inl w) (s1.trans s2) h
theorem yx (i:Nat){p3 pos:Pos}{kk:Nat}(he:EV X e Γ af c Γ)(hΓ:Γ[i]?=some (.ob (bg.bx a b s)))(h:N (Γ.set i (.ob (bg.bx a b (s.1,c)))))
 (hN:X.N[i]?=some y:=by rfl) (hv:autoParam (bZ X.env.scope y) NC) (hd:Nr y:=by decide) (Np:NA y:=by decide)
 (ha:∀v,Lp (.Subscript (.Name y p1) (.Constant (.int 1) kk p3) p2) X.env v=(do
  let ov ← Lk [v] (eval (.Name y p1) X.env)
  let iv ← Lk [v,ov] (eval (.Constant (.int 1) kk p3) X.env)
  LL p2
  Lk [v,ov,iv] (LR ov iv v)
  L5 [v,ov,iv] []):=by intro _;rfl)
 (hs:Ls [.Subscript (.Name y p1) (.Constant (.int 1) kk p3) p2] e pos.line X.env=pure false:=by rfl) (hw:Lu [.Subscript (.Name y p1) (.Constant (.int 1) kk p3) p2] e X.env=pure none:=by rfl) (h1:(Lg [.Subscript (.Name y p1) (.Constant (.int 1) kk p3) p2] X.env).map (·.2)=[Lp (.Subscript (.Name y p1) (.Constant (.int 1) kk p3) p2) X.env]:=by rfl):
 W1 X (.Assign [.Subscript (.Name y p1) (.Constant (.int 1) kk p3) p2] e pos) Γ N T:=λσ H0 R0 H R E D dn dr=>by
 refine sS (iw aJ (ng (ba hN hv hd Np) eU set_list ha) hs hw h1) (he σ H0 R0 H R E _ λv H1 R1 E1 s1 e1=>?_)
 obtain⟨ea,⟨_,h2,h3,NO⟩,OQ,Og⟩:=e8 (E1.ent i _ hΓ)
 cases e1
 refine⟨.ref a,at_of ea,a,_,1,1,rfl,rfl,h2,rfl,?_⟩
 exact dn σ _ R1 _ (E1.mv (en:=.ob (bg.bx a b (s.1,c))) hΓ (show a∈[a,b] by simp) (by rw[ea];exact jn (B:=bg) ⟨rfl,aA,by rw[aM (KG NO)];exact h3,NO⟩ OQ Og) λc w=>.inl w) s1 h
end
def zV (i j:Int):Prop:=0 < j/\j < 1000000000000000000
theorem yd {X:Cx}:d7 X (LD .FloorDiv) (rI zV λi j=>.int (i / j)):=vX λi j _ _ _ _ _ hc q=>by
 have h1:(0:Int) < j:=hc.1
 have h2:j < 1000000000000000000:=hc.2
 exact floordiv_int (by omega) (by rw[Int.fdiv_eq_ediv_of_nonneg i (by omega)];exact q) (.inl (PyProof.noPylong_of_log2 (Kr ((Nat.log2_lt (by omega)).mpr (show j.natAbs < 2 ^ 60 by omega)) (by decide))))
theorem zc {X:Cx}{Γ Γ1 Γ2:Ga}{a b:Expr}{pos:Pos}{x y:Int}(ha:EV X a Γ af x Γ1)(hb:EV X b Γ1 af y Γ2)(h:zV x y):EV X (.BinOp a .FloorDiv b pos) Γ af (x / y) Γ2:=kH yd ha hb λR v u H Q e1 e2 q=>⟨x,y,e1,e2,h,q _ rfl⟩
theorem qS {α β:Type}{F:α->β->Prop}{v:α}{y:β}{vs:List α}{xs:List β}(k:Nat)(h:F v y)(p:PySem.Paired F vs xs):PySem.Paired F (cJ k v vs) (cJ k y xs):=by
 unfold cJ
 exact cY (fV k p) (.cons h (ib k p))
def tL (k:Int):Value->Bool
 | .int n _=>decide (n=k)
 | _=>false
section
variable {X:Cx}{Γ Γ1 Γ2 Γ3:Ga}{α β γ δ:Type}{N:Ga->Prop}{T:RT}
variable {x:Str}{p1 ap cp:Pos}{e:Expr}
theorem nG (i:Nat){e1 e2:Expr}{pos:Pos}{r:Rep α}{xs:List α}{y:α}{k:Int}(h1:EV X e1 Γ af k Γ1)(h2:EV X e2 Γ1 r y Γ2)(hΓ:Γ[i]?=some (.mu r xs))(hΓ2:Γ2[i]?=some (.mu r xs))
 (k0:0<=k) (k1:k<=(xs.length:Int)) (hz:xs.length < K4) (h:N (Γ2.set i (.mu r (cJ k.toNat y xs))))
 (hN:X.N[i]?=some x:=by rfl) (hv:autoParam (bZ X.env.scope x) NC)
 (hd:Nr x:=by decide) (Np:NA x:=by decide)
 (NU:K9 (.Call (.Attribute (.Name x p1) "insert" ap) [e1,e2] [] cp) none pos.line X.env=pure false:=by rfl)
 (Nv:Li (.Name x p1) "insert" X.env (eval (.Name x p1) X.env)=eval (.Name x p1) X.env:=by rfl)
 (NN:((Lb cp (K2 [e1,e2] X.env)).all (λx=> !x.1)&&(LH cp (Lq [] X.env)).all (λx=>x.1.isSome)
  &&decide ([e1,e2].length + ([]:List Ll).length + (if([]:List Ll).isEmpty then 0 else 1) < 30))=true:=by rfl)
 (hline:(ap.endLine==cp.line)=true:=by rfl) (hs:K2 [e1,e2] X.env=(false,eval e1 X.env)::K2 [e2] X.env:=by rfl) (Pc:K2 [e2] X.env=(false,eval e2 X.env)::K2 [] X.env:=by rfl) (Nw:(Lb cp (K2 [e2] X.env)).any (·.1)=false:=by rfl):
 W1 X (.Expr (.Call (.Attribute (.Name x p1) "insert" ap) [e1,e2] [] cp) pos) Γ N T:=λσ H0 R0 H R E D dn dr=>by
 obtain⟨a,vs,ea,ha,hR,pp⟩:=E.ent i _ hΓ
 refine sS (dY (iG Mr PySem.F.slot_list_insert PySem.F.type_list_insert vj (ba hN hv hd Np) (aH aJ (aH aJ bJ Pc) hs) Nv NN hline hs Nw) NU) ?_
 refine⟨.ref a,at_of ea,.inl ⟨rfl,_,bt.of ha⟩,h1 σ H0 R0 H R E _ λv1 H1 R1 E1 s1 q1=>h2 σ H0 R0 H1 R1 E1 _ λv2 H2 R2 E2 s2 q2=>?_⟩
 cases q1
 obtain⟨a',N3,NM,N8,NI,Ol⟩:=E2.ent i _ hΓ2
 rw[ea] at NM;cases NM
 refine⟨a,N3,k,v2,rfl,rfl,N8,k0,by rw[Ol.length];exact k1,by rw[Ol.length];exact hz,?_⟩
 exact dn σ _ R2 _ (E2.upd (en:=.mu r (cJ k.toNat y xs)) hΓ2 rfl ea NI ⟨a,_,rfl,aA,NI,qS _ q2 Ol⟩) (s1.trans s2) h
def C9:V->List V->Hp->VK->Prop:=λx vs H Q=>∃(l:Addr) (ns:Ib) (k:Int) (j:Nat),x= .ref l/\vs=[.int k]/\H l=some (.lst (ns.map V.int))/\ns[j]?=some k/\(∀m,m < j->ns[m]?≠some k)/\Q (.int (j:Nat)) H
theorem yu (hu:X.A.units + 1 < cLine):zl X "list.index" C9:=by
 intro Nh s σ H x vs v us Q I rx rv h
 obtain⟨l,ns,k,j,rfl,rfl,hH,hj,OZ,q⟩:=h
 cases rx
 obtain⟨u,rfl,t,rfl⟩:=rv.one
 obtain⟨hz,Nj,m,r1,hl,ho⟩:=I.jC hH
 have jl:j < ns.length:=(IG.mp hj).1
 have Ql:Nj.length=ns.length:=by rw[← hl,IM]
 have at_:∀(n:Nat) (h1:n < Nj.length) (h2:n < ns.length),∃t',Nj[n]= .int ns[n] t':=λn h1 h2=>by
  obtain⟨u,e1,t',e2⟩:=r1.get (show(ns.map V.int)[n]?=some (.int ns[n]) by rw[Je,IF h2];rfl)
  rw[IF h1] at e1
  exact⟨t',(Option.some.inj e1).trans e2⟩
 refine Lz Mu ⟨_,ho,rfl⟩ PySem.F.entry_list_index (PySem.F.args_list_index_2 _ _)
  (SeqAt.list_indexAt l Nj.toArray m _ _ (.int k t) (tL k) j (by simpa[Ql] using jl) ?_ ?_ ?_) ⟨ho,λw hw=>?_,?_⟩
 ·have:K4 < 2 ^ 63 - 1:=by decide
  rw[IM] at hz
  omega
 ·obtain⟨t',e⟩:=at_ j (by omega) jl
  show tL k Nj[j]=true
  rw[e]
  rw[IF jl] at hj
  exact decide_eq_true (Option.some.inj hj)
 ·intro n hn SY
  obtain⟨t',e⟩:=at_ n (by simpa using hn) (by omega)
  show tL k Nj[n]=false
  rw[e]
  refine decide_eq_false λz=>OZ n SY ?_
  rw[IF (by omega),z]
 ·have hw:w∈Nj:=by simpa using hw
  obtain⟨n,hn,rfl⟩:=JM.mp hw
  obtain⟨t',e⟩:=at_ n hn (by omega)
  rw[e]
  intro prog w E Q hq
  refine LQ ?_
  rw[Iq];exact hq
 ·exact⟨.int _,H,I.tok _,⟨_,rfl⟩,q⟩
theorem rC (i:Nat){ns:Ib}{k:Int}{j:Nat}(hu:X.A.units + 1 < cLine)(he:EV X e Γ af k Γ1)(hΓ:Γ[i]?=some (.mu af ns))(hΓ1:Γ1[i]?=some (.mu af ns))(hj:ns[j]?=some k)(OZ:∀m,m < j->ns[m]?≠some k)
 (hN:X.N[i]?=some x:=by rfl) (hv:autoParam (bZ X.env.scope x) NC)
 (hd:Nr x:=by decide) (Np:NA x:=by decide)
 (Nv:Li (.Name x p1) "index" X.env (eval (.Name x p1) X.env)=eval (.Name x p1) X.env:=by rfl)
 (NN:((Lb cp (K2 [e] X.env)).all (λx=> !x.1)&&(LH cp (Lq [] X.env)).all (λx=>x.1.isSome)
  &&decide ([e].length + ([]:List Ll).length + (if([]:List Ll).isEmpty then 0 else 1) < 30))=true:=by rfl)
 (hline:(ap.endLine==cp.line)=true:=by rfl) (hs:K2 [e] X.env=(false,eval e X.env)::K2 [] X.env:=by rfl):EV X (.Call (.Attribute (.Name x p1) "index" ap) [e] [] cp) Γ af (j:Nat) Γ1:=λσ H0 R0 H R E Q q=>by
 obtain⟨a,vs,ea,ha,hR,pp⟩:=E.ent i _ hΓ
 refine eS (iG Mr Mu PySem.F.type_list_index (yu hu) (ba hN hv hd Np) (aH aJ bJ hs) Nv NN hline hs rfl) ?_
 refine⟨.ref a,at_of ea,.inl ⟨rfl,vs,bt.of ha⟩,he σ H0 R0 H R E _ λv H1 R1 E1 s1 e1=>?_⟩
 obtain⟨a',N3,NM,N8,NI,Ol⟩:=E1.ent i _ hΓ1
 rw[ea] at NM;cases NM
 cases e1
 exact⟨a,ns,k,j,rfl,rfl,by rw[N8,eD Ol],hj,OZ,q _ _ _ E1 s1 rfl⟩
def AN:V->List V->Hp->VK->Prop:=λx vs H Q=>∃(l:Addr) (ns:Ib) (k:Int) (j:Nat),x= .ref l/\vs=[.int k]/\H l=some (.lst (ns.map V.int))/\ns[j]?=some k/\(∀m,m < j->ns[m]?≠some k)/\Q .Nu (upd H l (.lst ((ns.eraseIdx j).map V.int)))
theorem vS:wJ X "list.remove" AN:=by
 intro Nh s σ H x vs v us Q I rx rv h
 obtain⟨l,ns,k,j,rfl,rfl,hH,hj,OZ,q⟩:=h
 cases rx
 obtain⟨u,rfl,t,rfl⟩:=rv.one
 obtain⟨hz,Nj,m,r1,hl,ho⟩:=I.jC hH
 have jl:j < ns.length:=(IG.mp hj).1
 have Ql:Nj.length=ns.length:=by rw[← hl,IM]
 have at_:∀(n:Nat) (h1:n < Nj.length) (h2:n < ns.length),∃t',Nj[n]= .int ns[n] t':=λn h1 h2=>by
  obtain⟨u,e1,t',e2⟩:=r1.get (show(ns.map V.int)[n]?=some (.int ns[n]) by rw[Je,IF h2];rfl)
  rw[IF h1] at e1
  exact⟨t',(Option.some.inj e1).trans e2⟩
 refine Lz PySem.F.slot_list_remove ⟨_,ho,rfl⟩ PySem.F.entry_list_remove (PySem.F.args_list_remove_2 _ _)
  (MeetsSeq.list_remove l Nj.toArray m (.int k t) (tL k) (λw hw=>?_) j (by simpa[Ql] using jl) ?_ ?_ (by rw[Jc,Ql,← IM (f:=V.int)];exact hz)) ⟨ho,?_⟩
 ·have hw:w∈Nj:=by simpa using hw
  obtain⟨n,hn,rfl⟩:=JM.mp hw
  obtain⟨t',e⟩:=at_ n hn (by omega)
  rw[e]
  intro prog w A E s Q hq
  refine LQ ?_
  rw[Iq];exact hq
 ·obtain⟨t',e⟩:=at_ j (by omega) jl
  show tL k Nj[j]=true
  rw[e]
  rw[IF jl] at hj
  exact decide_eq_true (Option.some.inj hj)
 ·intro n hn SY
  obtain⟨t',e⟩:=at_ n (by simpa using hn) (by omega)
  show tL k Nj[n]=false
  rw[e]
  refine decide_eq_false λz=>OZ n SY ?_
  rw[IF (by omega),z]
 ·refine⟨.Nu,_,I.qF (its':=Nj.eraseIdx j) hH ho ?_ ?_ ?_,rfl,q⟩
  ·rw[JS]
  ·have key:∀(ns:Ib) (ws:Ih) (j:Nat),Vals (ns.map V.int) ws->Vals ((ns.eraseIdx j).map V.int) (ws.eraseIdx j):=by
    intro ns
    induction ns with
    | nil=>intro ws j h;cases h;exact .nil
    | cons a ns ih=>
      intro ws j h
      cases h with
      | cons h1 t=>
        cases j with
        | zero=>exact t
        | succ j=>exact .cons h1 (ih _ j t)
   exact key ns Nj j r1
  ·rw[IM]
   rw[IM] at hz
   exact Kq (List.length_eraseIdx_le ns j) hz
theorem yE (i:Nat){pos:Pos}{ns:Ib}{k:Int}{j:Nat}(he:EV X e Γ af k Γ1)(hΓ:Γ[i]?=some (.mu af ns))(hΓ1:Γ1[i]?=some (.mu af ns))(hj:ns[j]?=some k)(OZ:∀m,m < j->ns[m]?≠some k)(h:N (Γ1.set i (.mu af (ns.eraseIdx j))))
 (hN:X.N[i]?=some x:=by rfl) (hv:autoParam (bZ X.env.scope x) NC)
 (hd:Nr x:=by decide) (Np:NA x:=by decide)
 (NU:K9 (.Call (.Attribute (.Name x p1) "remove" ap) [e] [] cp) none pos.line X.env=pure false:=by rfl)
 (Nv:Li (.Name x p1) "remove" X.env (eval (.Name x p1) X.env)=eval (.Name x p1) X.env:=by rfl)
 (NN:((Lb cp (K2 [e] X.env)).all (λx=> !x.1)&&(LH cp (Lq [] X.env)).all (λx=>x.1.isSome)
  &&decide ([e].length + ([]:List Ll).length + (if([]:List Ll).isEmpty then 0 else 1) < 30))=true:=by rfl)
 (hline:(ap.endLine==cp.line)=true:=by rfl) (hs:K2 [e] X.env=(false,eval e X.env)::K2 [] X.env:=by rfl):W1 X (.Expr (.Call (.Attribute (.Name x p1) "remove" ap) [e] [] cp) pos) Γ N T:=λσ H0 R0 H R E D dn dr=>by
 obtain⟨a,vs,ea,ha,hR,pp⟩:=E.ent i _ hΓ
 refine sS (dY (iG Mr PySem.F.slot_list_remove PySem.F.type_list_remove vS (ba hN hv hd Np) (aH aJ bJ hs) Nv NN hline hs rfl) NU) ?_
 refine⟨.ref a,at_of ea,.inl ⟨rfl,vs,bt.of ha⟩,he σ H0 R0 H R E _ λv H1 R1 E1 s1 e1=>?_⟩
 obtain⟨a',N3,NM,N8,NI,Ol⟩:=E1.ent i _ hΓ1
 rw[ea] at NM;cases NM
 cases e1
 refine⟨a,ns,k,j,rfl,rfl,by rw[N8,eD Ol],hj,OZ,?_⟩
 exact dn σ _ R1 _ (E1.upd (en:=.mu af (ns.eraseIdx j)) hΓ1 rfl ea NI ⟨a,_,rfl,aA,NI,paired_ints _⟩) s1 h
theorem EV.two {r:Rep α}{x y:α}(h:EV X e Γ (ak r) [x,y] Γ1):EV X e Γ (gB r) (x,y) Γ1:=EV.rep h λ_ _ q=>q
end
section
variable {X:Cx}{Γ Γ1 Γ2 Γ3:Ga}{α β γ δ:Type}{N:Ga->Prop}{T:RT}
theorem An {a b:Expr}{rest:Ii}{pos:Pos}{y:Bool}(ha:TV X a Γ true Γ1)(hb:TW X (.BoolOp .And (b::rest) pos) Γ1 y Γ2):TW X (.BoolOp .And (a::b::rest) pos) Γ y Γ2:=λσ H0 R0 H R E Q q=>
 wS (xJ jH zt) (ha σ H0 R0 H R E _ λH1 R1 E1 s1=>ite_tt (hb σ H0 R0 H1 R1 E1 Q λH2 R2 E2 s2=>q H2 R2 E2 (s1.trans s2)))
theorem yJ {a:Expr}{pos:Pos}{x:Bool}(ha:TV X a Γ x Γ1):TW X (.BoolOp .And [a] pos) Γ x Γ1:=λσ H0 R0 H R E Q q=>wS (tJ jH) (ha σ H0 R0 H R E Q q)
end
def Gi:Ent->Prop
 | .no=>True
 | .im _ _=>True
 | _=>False
def kJ:Ga->Prop
 | []=>True
 | e::r=>Gi e/\kJ r
theorem kJ.fp:∀{Γ:Ga},kJ Γ->∀(i:Nat) (e:Ent),Γ[i]?=some e->∀o,e.fp o=[]
 | e::_,⟨h,_⟩,0,_,q,o=>by
   cases q
   cases e with
   | no=>rfl
   | im _ _=>rfl
   | mu _ _=>exact h.elim
   | di _=>exact h.elim
   | ob _=>exact h.elim
 | _::r,⟨_,h⟩,i + 1,e,q,o=>kJ.fp h i e (by simpa using q) o
 | [],_,i,e,q,o=>by simp at q
theorem aq.rebase {K:MP}{σ:St}{H0 R0 H R:Hp}{Γ:Ga}(E:aq K σ H0 R0 H R Γ)(fl:kJ Γ):aq K σ H R H R Γ:=
 ⟨⟨ar.refl _,ar.refl _,E.sub,λ_ _=>rfl⟩,E.ent,(λi e a q w=>by rw[fl.fp i e q] at w;cases w),(λi j e e' a q q' w w'=>by rw[fl.fp i e q] at w;cases w),E.len⟩
def pV (r:Row):Ib:=[r.1,r.2.1,r.2.2.1,r.2.2.2]
section
variable {X:Cx}{Γ Γ1 Γ2 Γ3:Ga}{α β γ δ:Type}{N:Ga->Prop}{T:RT}
variable {as:Ig}{rs:List Row}{H:Hp}
theorem cM.yk {H':Hp}(h:cM H as rs)(s:ar H H'):cM H' as rs:=⟨h.1,λi b r h1 h2=>s _ _ (h.2 i b r h1 h2)⟩
theorem cM.snoc (h:cM H as rs){b:Addr}{r:Row}(hb:H b=some (.lst (j9 r))):cM H (as++[b]) (rs++[r]):=by
 refine⟨by rw[IL,IL,h.1];rfl,λi c q h1 h2=>?_⟩
 rcases Kw i as.length with hl | hl
 ·rw[Jn hl] at h1
  rw[Jn (by rw[← h.1];exact hl)] at h2
  exact h.2 i c q h1 h2
 ·rw[Jg hl] at h1
  rw[Jg (by rw[← h.1];exact hl)] at h2
  have e:i - as.length=0:=by
   have:=(IG.mp h1).1
   simp at this;omega
  rw[e] at h1
  rw[← h.1,e] at h2
  simp at h1 h2
  rw[← h1,← h2];exact hb
theorem cM.app (h:cM H as rs):∀{bs:Ig} {qs:List Row},cM H bs qs->cM H (as++bs) (rs++qs):=by
 intro bs qs g
 refine⟨by rw[IL,IL,h.1,g.1],λi c q h1 h2=>?_⟩
 rcases Kw i as.length with hl | hl
 ·rw[Jn hl] at h1
  rw[Jn (by rw[← h.1];exact hl)] at h2
  exact h.2 i c q h1 h2
 ·rw[Jg hl] at h1
  rw[Jg (by rw[← h.1];exact hl),← h.1] at h2
  exact g.2 _ c q h1 h2
theorem tZ {tg elt:Expr}{scope:Scope}{cl:List (Str×Addr)}{own fr:Ic}{ix:List Nat}{ra:Rep α}{xs:List α}{f:α->Row}{bf:α->Ga->Ga}{J:It}{σ:St}{H0 R0 H1 R1:Hp}{Q:VK}(E1:aq X.K σ H0 R0 H1 R1 Γ1)(src:Src X.K J R1 ra xs)(hz:xs.length<=K4)
 (hb:∀(C:Addr) (s:K3) (H:Hp) (ex:Ig),BG (aL X scope cl C (own++fr) s H ex) tg ra bf) (hw:∀x,Wk (bf x (cE own ix Γ1)) (cE own ix Γ1)) (Ot:∀x,kJ (bf x (cE own ix Γ1)))
 (he:∀(C:Addr) (s:K3) (H:Hp) (ex:Ig) x,x∈xs->aE (aL X scope cl C (own++fr) s H ex) elt (bf x (cE own ix Γ1)) af (pV (f x)) (bf x (cE own ix Γ1)))
 (q:∀a bs H' R',Ext H1 R1 H' R'->H' a=none->cM H' bs (xs.map f)->bs.Nodup->(∀b∈bs,H1 b=none/\R' b=none)->Q (.ref a) (upd H' a (.lst (bs.map .ref)))):
 ∃W:Nat->Nat->List V->St->Hp->Prop,(∃m,W 0 m [] (fL own ix σ) H1)/\∀i m ys σ' H',W i m ys σ' H'->
  ys.length<=K4/\((J.stop i H'/\∀p,H' p=none->Q (.ref p) (upd H' p (.lst ys)))∨
  (J.go i H'/\∀x H2,J.Q8 i H' x H2->(λv σ H Q=>∀C s Hh ex,iC (aL X scope cl C (own++fr) s Hh ex) tg v σ H Q:TG) x σ' H2 λσ2 H3=>(λσ H Q=>∀C s Hh ex,jg (aL X scope cl C (own++fr) s Hh ex) [] σ H Q:TT) σ2 H3 λb H4=>
    if b=true then(λσ H Q=>∀C s Hh ex,eF (aL X scope cl C (own++fr) s Hh ex) elt σ H Q:TE) σ2 H4 λv H5=>∃m',m' < m/\W (i + 1) m' (ys++[v]) σ2 H5 else∃m',m' < m/\W (i + 1) m' ys σ2 H4)):=by
 refine⟨λi m ys σ' H'=>m=xs.length - i/\i<=xs.length/\∃R' bs,aq X.K σ' H1 R1 H' R' (cE own ix Γ1)/\ys=bs.map .ref/\cM H' bs ((xs.take i).map f)/\bs.Nodup/\∀b∈bs,H1 b=none/\R' b=none,⟨_,rfl,Ky _,R1,[],mq E1 own ix,rfl,⟨rfl,λi b r h1=>by simp at h1⟩,J8,λb hb=>by cases hb⟩,?_⟩
 rintro i m ys σ' H' ⟨rfl,hle,R',bs,E',rfl,Pm,OP,O5⟩
 have hbl:bs.length=i:=by rw[Pm.1,IM,Jm];omega
 have Rp:(bs.map V.ref).length<=K4:=by rw[IM,hbl];omega
 obtain⟨Qu,Oa⟩:=src H' R' E'.ext.r E'.sub i
 refine⟨Rp,?_⟩
 by_cases NJ:i < xs.length
 ·obtain⟨go,yl⟩:=Qu _ (IF NJ)
  have Pp:xs[i]∈xs:=Jb NJ
  have tk:(xs.take (i + 1))=xs.take i++[xs[i]]:=by rw[JD,IF NJ];rfl
  refine .inr ⟨go,λv H2 hy C s Hh ex=>?_⟩
  obtain⟨R2,x2,hr⟩:=yl v H2 hy
  refine hb C s Hh ex σ' H1 R1 H2 R2 _ v _ (E'.grow x2) hr _ λσ2 E2=>?_
  intro C s Hh ex
  refine(cg (X:=aL X scope cl C (own++fr) s Hh ex)) σ2 H2 R2 H2 R2 (E2.rebase (Ot _)) _ λH4 R4 E4 s4=>?_
  rw[if_pos rfl]
  intro C s Hh ex
  refine he C s Hh ex _ Pp σ2 H4 R4 H4 R4 (E4.rebase (Ot _)) _ λa vs H5 R5 E5 s5 ha hR h0 off pp hz'=>?_
  have hv:=eD pp
  subst hv
  have x5:Ext H' R' H5 R5:=x2.trans (E4.ext.trans E5.ext)
  have x25:Ext H2 R2 H5 R5:=E4.ext.trans E5.ext
  have Ow:∀b∈bs,H' b≠none:=λb hb=>by
   obtain⟨r,hr⟩:=Pm.row hb
   rw[hr];exact KH _
  have hold:∀b∈bs,b≠a:=λb hb e=>by
   have:H4 b≠none:=ar.some (x2.h.trans E4.ext.h) (Ow b hb)
   exact this (e▸h0)
  refine⟨xs.length - (i + 1),by omega,rfl,NJ,R5,bs++[a],(E2.grow x25).weak (hw _),by rw[Jq];rfl,?_,?_,λb hb=>?_⟩
  ·rw[tk,Jq]
   exact(Pm.yk x5.h).snoc ha
  ·exact gz OP λz=>hold a z rfl
  ·rcases IS.mp hb with z | z
   ·exact⟨(O5 b z).1,(x5.old b (Ow b z)).trans (O5 b z).2⟩
   ·rw[II.mp z]
    exact⟨(E'.ext.h.trans (x2.h.trans E4.ext.h)).free h0,hR⟩
 ·have e:i=xs.length:=by omega
  subst e
  rw[Jz] at Pm
  exact .inl ⟨Oa (Kp _),λa ha=>q a bs H' R' E'.ext ha Pm OP O5⟩
theorem vi (i:Nat){y:Str}{py p1 bp NK:Pos}{tg elt iter:Expr}{scope:Scope}{pos:Pos}{cl:List (Str×Addr)}{own fr:Ic}{ix:List Nat}{ra:Rep α}{xs:List α}{f:α->Row}{bf:α->Ga->Ga}{a:Addr}
 (S:dj X scope cl own fr ix) (hit:IV X tg iter Γ ra xs Γ)
 (hb:∀(C:Addr) (s:K3) (H:Hp) (ex:Ig),BG (aL X scope cl C (own++fr) s H ex) tg ra bf) (hw:∀x,Wk (bf x (cE own ix Γ)) (cE own ix Γ)) (Ot:∀x,kJ (bf x (cE own ix Γ)))
 (he:∀(C:Addr) (s:K3) (H:Hp) (ex:Ig) x,x∈xs->aE (aL X scope cl C (own++fr) s H ex) elt (bf x (cE own ix Γ)) af (pV (f x)) (bf x (cE own ix Γ)))
 (hΓ:Γ[i]?=some (.ob (cu a as rs))) (hz:rs.length + xs.length<=K4) (h:∀d bs,N (Γ.set i (.ob (cu d (as++bs) (rs++xs.map f)))))
 (hN:X.N.Nodup:=by first | assumption | decide) (Pg:X.N[i]?=some y:=by rfl) (hx:autoParam (Loc X.env.scope y) Oe) (hv:autoParam (bZ X.env.scope y) NC) (hd:Nr y:=by decide) (Np:NA y:=by decide)
 (NU:K9 (.BinOp (.Name y p1) .Add (.ListComp elt [⟨tg,iter,[],0⟩] scope pos) bp) (some (.Name y py)) NK.line X.env=pure false:=by rfl)
 (hc:X.calm=true:=by rfl) (hs:∀x,Lc iter X.env x=pure x:=by intro _;rfl) (hf:autoParam (X.fn y=true∨X.env.scope.names.lookup y=some .local) Od):
 W1 X (.Assign [.Name y py] (.BinOp (.Name y p1) .Add (.ListComp elt [⟨tg,iter,[],0⟩] scope pos) bp) NK) Γ N T:=λσ H0 R0 H R E D dn dr=>by
 obtain⟨wi,hi,hit⟩:=hit
 obtain⟨⟨v,ea,rfl,ha,hr,nd⟩,hR⟩:=E.ent i _ hΓ
 refine sS (eT hN Pg hx (pL vL (ba Pg hv hd Np) (sA (g:=λv σ H Q=>∀C s Hh ex,iC (aL X scope cl C (own++fr) s Hh ex) tg v σ H Q) (tc:=λσ H Q=>∀C s Hh ex,jg (aL X scope cl C (own++fr) s Hh ex) [] σ H Q) (te:=λσ H Q=>∀C s Hh ex,eF (aL X scope cl C (own++fr) s Hh ex) elt σ H Q) hc S hi
  (λC s H ex=>⟨λNh s1 σ H v u Q I r h=>h C s _ ex Nh s1 u I r,λNh s1 σ H Q I h=>h C s _ ex Nh s1 I,λNh s1 σ H Q I h=>h C s _ ex Nh s1 I⟩) hs)) NU hf) ⟨.ref a,at_of ea,?_⟩
 refine hit σ H0 R0 H R E _ λJ H1 R1 E1 s1 hz1 src=>tZ (Q:=λy H2=>Dw (V.ref a) y H2 λx H1=>pG i x σ H1 D.nx) E1 src hz1 hb hw Ot he λb bs H' R' xx Sg Pm OP O5=>?_
 have E2:=E1.grow xx
 have E3:=E2.grow (Ext.c7 E2.sub Sg (.lst (bs.map .ref)))
 obtain⟨⟨v3,ea3,rfl,ha3,hr3,nd3⟩,hR3⟩:=E3.ent i _ hΓ
 have Pb:ar H' (upd H' b (.lst (bs.map .ref))):=ar.fresh Sg _
 have hlen:as.length=rs.length:=hr3.1
 have S6:bs.length=xs.length:=by rw[Pm.1,IM]
 refine⟨a,b,as.map .ref,bs.map .ref,rfl,rfl,ha3,aA,by rw[IM,IM,hlen,S6];exact hz,λd O1=>?_⟩
 have E4:=E3.grow (Ext.c7 E3.sub O1 (.lst (as.map .ref++bs.map .ref)))
 have hsd:ar (upd H' b (.lst (bs.map .ref))) (upd (upd H' b (.lst (bs.map .ref))) d (.lst (as.map .ref++bs.map .ref))):=ar.fresh O1 _
 have inb:∀c∈bs,H' c≠none:=λc hc=>by
  obtain⟨r,hr⟩:=Pm.row hc
  rw[hr];exact KH _
 have ina:∀c∈as,H1 c≠none:=λc hc=>by
  obtain⟨⟨v,_,_,_,QV,_⟩,_⟩:=E1.ent i _ hΓ
  obtain⟨r,hr⟩:=QV.row hc
  rw[hr];exact KH _
 have nda:=Jh.mp nd3
 have dne:∀c,upd H' b (.lst (bs.map .ref)) c≠none->c≠d:=λc hc e=>hc (e▸O1)
 have hd1:H' d=none:=Pb.free O1
 have r4:∀c∈as++bs,upd H' b (.lst (bs.map .ref)) c≠none:=λc hc=>by
  rcases IS.mp hc with z | z
  ·exact ar.some Pb (ar.some xx.h (ina c z))
  ·exact ar.some Pb (inb c z)
 refine dn _ _ R' _ (E4.setG (v:=.ref d) (en:=.ob (cu d (as++bs) (rs++xs.map f))) i ⟨⟨.ref d,rfl,rfl,?_,?_,?_⟩,λc hc=>?_⟩ (λc hc=>?_) λc hc j e hj qj w=>?_) (s1.trans xx.r) (h d bs)
 ·rw[aA,Jq]
 ·exact(hr3.yk hsd).app (Pm.yk (Pb.trans hsd))
 ·refine Jh.mpr ⟨λz=>dne d (r4 d z) rfl,?_⟩
  rw[Ki]
  refine⟨nda.2,OP,λc hc c' Pw e=>?_⟩
  subst e
  exact ina c hc (O5 c Pw).1
 ·rcases IY.mp hc with rfl | hc
  ·exact E2.sub.free hd1
  ·rcases IS.mp hc with z | z
   ·exact hR3 c (IK _ z)
   ·exact(O5 c z).2
 ·have hc:c∈d::(as++bs):=hc
  rcases IY.mp hc with rfl | hc
  ·exact E2.ext.h.free hd1
  ·rcases IS.mp hc with z | z
   ·exact E3.nw i _ c hΓ (IK _ z)
   ·exact E1.ext.h.free (O5 c z).1
 ·have hc:c∈d::(as++bs):=hc
  rcases IY.mp hc with rfl | hc
  ·exact(Ent.dB (E3.ent j e qj) w).1 O1
  ·rcases IS.mp hc with z | z
   ·exact hj (E3.ds j i e _ c qj hΓ w (IK _ z))
   ·exact(Ent.dB (E1.ent j e qj) w).1 (O5 c z).1
end
section
variable {X:Cx}{Γ Γ1 Γ2 Γ3:Ga}{α β γ δ:Type}{N:Ga->Prop}{T:RT}
theorem aq.xj {K:MP}{σ:St}{H0 R0 H R H' R':Hp}{i j:Nat}{B C B' C':jv}(Ox:i≠j)(E:aq K σ H0 R0 H R Γ)(hΓ:Γ[i]?=some (.ob B))(hΓj:Γ[j]?=some (.ob C))(x:Ext (eO H (B.fp++C.fp)) R H' R')(ho:(Ent.ob B').ok K H' R' (σ[i]?).join)(hoj:(Ent.ob C').ok K H' R' (σ[j]?).join)(O4:∀b∈B'.fp,b∈B.fp)(Qb:∀b∈C'.fp,b∈C.fp):aq K σ H0 R0 H' R' ((Γ.set i (.ob B')).set j (.ob C')):=by
 have h0:∀b∈B.fp++C.fp,H0 b=none:=λb hb=>by
  rcases IS.mp hb with z | z
  ·exact E.nw i _ b hΓ z
  ·exact E.nw j _ b hΓj z
 have out:∀{b:Addr},H0 b≠none->b∉B.fp++C.fp:=λh e=>h (h0 _ e)
 have apart:∀(k:Nat) (e:Ent),k≠i->k≠j->Γ[k]?=some e->∀b∈e.fp (σ[k]?).join,b∉B.fp++C.fp:=λk e hi hj qk b hb w=>by
  rcases IS.mp w with z | z
  ·exact hi (E.ds k i e _ b qk hΓ hb z)
  ·exact hj (E.ds k j e _ b qk hΓj hb z)
 have key:∀(k:Nat) (e:Ent),((Γ.set i (.ob B')).set j (.ob C'))[k]?=some e->(k=j/\e= .ob C')∨(k=i/\e= .ob B')∨(k≠i/\k≠j/\Γ[k]?=some e):=λk e q=>by
  rcases set_at q with⟨rfl,rfl,_⟩ | ⟨hk,q1⟩
  ·exact .inl ⟨rfl,rfl⟩
  ·rcases set_at q1 with⟨rfl,rfl,_⟩ | ⟨hk2,q2⟩
   ·exact .inr (.inl ⟨rfl,rfl⟩)
   ·exact .inr (.inr ⟨hk2,hk,q2⟩)
 refine⟨⟨λb o q=>?_,E.ext.r.trans x.r,x.s,λb hb=>?_⟩,λk e q=>?_,λk e b q w=>?_,λk l e e' b q q' w w'=>?_,by rw[Jp,Jp];exact E.len⟩
 ·exact x.h b o (by rw[eN (out (by rw[q];exact KH _))];exact E.ext.h b o q)
 ·refine(x.old b ?_).trans (E.ext.old b hb)
  rw[eN (out hb)];exact ar.some E.ext.h hb
 ·rcases key k e q with⟨rfl,rfl⟩ | ⟨rfl,rfl⟩ | ⟨hi,hj,q1⟩
  ·exact hoj
  ·exact ho
  ·have h1:=E.ent k e q1
   refine h1.loc (λb hb=>?_) x.r λb hb=>?_
   ·cases e2:H b with
    | none=>exact absurd e2 (Ent.dB h1 hb).1
    | some u=>exact x.h b u (by rw[eN (apart k e hi hj q1 b hb)];exact e2)
   ·exact(x.old b (by rw[eN (apart k e hi hj q1 b hb)];exact(Ent.dB h1 hb).1)).trans (Ent.dB h1 hb).2
 ·rcases key k e q with⟨rfl,rfl⟩ | ⟨rfl,rfl⟩ | ⟨hi,hj,q1⟩
  ·exact h0 b (IU _ (Qb b w))
  ·exact h0 b (IX _ (O4 b w))
  ·exact E.nw k e b q1 w
 ·rcases key k e q with⟨rfl,rfl⟩ | ⟨rfl,rfl⟩ | ⟨hi,hj,q1⟩<;>rcases key l e' q' with⟨rfl,rfl⟩ | ⟨rfl,rfl⟩ | ⟨Pg,Qn,Of⟩
  ·rfl
  ·exact E.ds _ _ _ _ b hΓj hΓ (Qb b w) (O4 b w')
  ·exact absurd (IU _ (Qb b w)) (apart l e' Pg Qn Of b w')
  ·exact E.ds _ _ _ _ b hΓ hΓj (O4 b w) (Qb b w')
  ·rfl
  ·exact absurd (IX _ (O4 b w)) (apart l e' Pg Qn Of b w')
  ·exact absurd (IU _ (Qb b w')) (apart k e hi hj q1 b w)
  ·exact absurd (IX _ (O4 b w')) (apart k e hi hj q1 b w)
  ·exact E.ds _ _ _ _ b q1 Of w w'
abbrev uX:=MP->Pu->List Row->List Pk->(Pu->List Row->RT)->Prop
def uK (S:uX)(K:MP):Sp:=λvs H Q _=>∃R a b s c cs rs N3 ps T,vs= .ref a:: .ref c::N3/\ar R H/\(∀x∈[a,b]++(c::cs),R x=none)/\(zr a b s).R K H R (.ref a)/\(cu c cs rs).R K H R (.ref c)/\(∀x∈[a,b],x∉c::cs)/\gu K R N3 ps/\S K s rs ps T/\
 ∀v H' R' s' Oj,Ext (eO H ([a,b]++(c::cs))) R H' R'->(zr a b s').R K H' R' (.ref a)->(cu c cs Oj).R K H' R' (.ref c)->(∀x∈[a,b]++(c::cs),R' x=none)->T s' Oj (eO H ([a,b]++(c::cs))) v H' R'->Q v H'
theorem zd (i j:Nat){S:uX}{x y z:Str}{k:Nat}{es:Ii}{p p1 p2 p3 pos:Pos}{ps:List Pk}{a b c:Addr}{s:Pu}{cs:Ig}{rs:List Row}{Pd:Pu->List Row->Prop}(C:ax X.prog X.w X.K X.mg X.base x k (uK S X.K))(hr:bI k X.A)(Ox:i≠j)(ha:HA X es Γ ps Γ)(hΓ:Γ[i]?=some (.ob (bg.bx a b s)))(hΓj:Γ[j]?=some (.ob (cu c cs rs)))(hS:S X.K s rs ps (λs' Oj=>bL X.K fI λ_=>Pd s' Oj))(h:∀s' Oj,Pd s' Oj->N ((Γ.set i (.ob (bg.bx a b s'))).set j (.ob (cu c cs Oj))))
 (hg:Gl X x:=by rfl) (Nx:Nr x:=by decide) (he:K2 (.Name y p1:: .Name z p2::es) X.env=(false,eval (.Name y p1) X.env)::K2 (.Name z p2::es) X.env:=by rfl) (Te:K2 (.Name z p2::es) X.env=(false,eval (.Name z p2) X.env)::K2 es X.env:=by rfl) (Nw:(Lb p3 (K2 (.Name z p2::es) X.env)).any (·.1)=false:=by rfl)
 (hN:X.N[i]?=some y:=by rfl) (hv:autoParam (bZ X.env.scope y) NC) (hd:Nr y:=by decide) (Np:NA y:=by decide)
 (Tv:X.N[j]?=some z:=by rfl) (SM:autoParam (bZ X.env.scope z) NC) (Tg:Nr z:=by decide) (Qd:NA z:=by decide)
 (NU:K9 (.Call (.Name x p) (.Name y p1:: .Name z p2::es) [] p3) none pos.line X.env=pure false:=by rfl):W1 X (.Expr (.Call (.Name x p) (.Name y p1:: .Name z p2::es) [] p3) pos) Γ N T:=λσ H0 R0 H R E D dn dr=>by
 obtain⟨f,fd,pn,F,hm,hk,hb⟩:=C.ex
 obtain⟨ea,_,_⟩:=e8 (E.ent i _ hΓ)
 obtain⟨⟨vc,ec,rfl,_,_,_⟩,_⟩:=E.ent j _ hΓj
 refine sS (dY (hZ F hr hg hm hk hb .nil kC (aH (ba hN hv hd Np) (aH (ba Tv SM Tg Qd) js Te) he) Nx he Nw) NU) ⟨.ref a,at_of ea,.ref c,at_of ec,ha σ H0 R0 H R E _ λus H1 R1 E1 s1 p1=>?_⟩
 obtain⟨Q6,hB,OQ,Og⟩:=e8 (E1.ent i _ hΓ)
 obtain⟨⟨vc1,ec1,rfl,Sf,PD,hc3⟩,Tt⟩:=E1.ent j _ hΓj
 have Sj:∀x∈[a,b],x∉c::cs:=λx hx w=>Ox (E1.ds i j _ _ x hΓ hΓj hx w)
 refine⟨R1,a,b,s,c,cs,rs,us,ps,_,by rw[Jj],E1.sub,λx hx=>?_,hB,⟨rfl,Sf,PD,hc3⟩,Sj,p1,hS,λv H' R' s' Oj xx QK RL NI t=>?_⟩
 ·rcases IS.mp hx with w | w
  ·rcases IY.mp w with rfl | w
   ·exact OQ
   ·rw[II.mp w];exact Og
  ·exact Tt x w
 ·obtain⟨_,_,hP⟩:=t
  refine dn σ H' R' _ (E1.xj (B':=bg.bx a b s') (C':=cu c cs Oj) Ox hΓ hΓj xx ?_ ?_ (λc hc=>hc) λc hc=>hc) (s1.trans xx.r) (h s' Oj hP)
  ·rw[Q6];exact jn (B:=bg) QK (NI a (by simp)) (NI b (by simp))
  ·rw[ec1];exact⟨⟨.ref c,rfl,RL⟩,λx hx=>NI x (IU _ hx)⟩
variable {P:K7}{w:World}{K:MP}{mg:HZ}{base:Heap}
theorem sv {K:MP}{R H:Hp}{a b c:Addr}{st:Pu}{cs:Ig}{rs:List Row}{vs:List V}{ps:List Pk}{N:Ic}(s:ar R H)(hR:∀x∈[a,b]++(c::cs),R x=none)(hB:(zr a b st).R K H R (.ref a))(hC:(cu c cs rs).R K H R (.ref c))(Sj:∀x∈[a,b],x∉c::cs)(p:gu K R vs ps)(hl:ps.length + 2<=N.length):
 aq K (L2.start N (.ref a:: .ref c::vs)) (eO H ([a,b]++(c::cs))) R H R (.ob (bg.bx a b st):: .ob (cu c cs rs)::dP ps (N.length - 2)):=by
 obtain⟨n0,n1,N',rfl⟩:∃n0 n1 N',N=n0::n1::N':=by
  match N,hl with
  | [],h=>exact absurd h (by simp)
  | [_],h=>exact absurd h (by simp)
  | n0::n1::N',_=>exact⟨n0,n1,N',rfl⟩
 have Rz:ps.length<=N'.length:=by simpa using hl
 have E0:=d9 (N:=N') s p Rz
 have es:L2.start (n0::n1::N') (.ref a:: .ref c::vs)=some (.ref a)::some (.ref c)::L2.start N' vs:=by unfold L2.start;simp
 rw[es]
 have NB:∀(i:Nat) (e:Ent) (o:Option V),(dP ps N'.length)[i]?=some e->e.fp o=[]:=λi e o q=>by
  unfold dP at q
  rcases IS.mp (IQ q) with z | z
  ·obtain⟨p,_,rfl⟩:=Jf.mp z;rfl
  ·obtain⟨_,rfl⟩:=J3.mp z;rfl
 have ha:=hR a (by simp)
 have hb:=hR b (by simp)
 have key:∀(i:Nat) (e:Ent),(Ent.ob (bg.bx a b st)::Ent.ob (cu c cs rs)::dP ps (n0::n1::N').length.pred.pred)[i]?=some e->(i=0/\e= .ob (bg.bx a b st))∨(i=1/\e= .ob (cu c cs rs))∨∃i',i=i' + 2/\(dP ps N'.length)[i']?=some e:=by
  intro i e q
  match i,q with
  | 0,q=>simp at q;exact .inl ⟨rfl,q.symm⟩
  | 1,q=>simp at q;exact .inr (.inl ⟨rfl,q.symm⟩)
  | i + 2,q=>exact .inr (.inr ⟨i,rfl,by simpa using q⟩)
 refine⟨⟨mJ,ar.refl _,s,λ_ _=>rfl⟩,λi e q=>?_,λi e d q w=>?_,λi j e e' d q q' w w'=>?_,?_⟩
 ·rcases key i e q with⟨rfl,rfl⟩ | ⟨rfl,rfl⟩ | ⟨i',rfl,q1⟩
  ·exact jn (B:=bg) hB ha hb
  ·exact⟨⟨.ref c,rfl,hC⟩,λx hx=>hR x (IU _ hx)⟩
  ·simpa using E0.ent i' e q1
 ·rcases key i e q with⟨rfl,rfl⟩ | ⟨rfl,rfl⟩ | ⟨i',rfl,q1⟩
  ·exact iN (IX _ w)
  ·exact iN (IU _ w)
  ·rw[NB i' e _ q1] at w;cases w
 ·rcases key i e q with⟨rfl,rfl⟩ | ⟨rfl,rfl⟩ | ⟨i',rfl,q1⟩
  ·rcases key j e' q' with⟨rfl,rfl⟩ | ⟨rfl,rfl⟩ | ⟨j',rfl,Of⟩
   ·rfl
   ·exact absurd w' (Sj d w)
   ·rw[NB j' e' _ Of] at w';cases w'
  ·rcases key j e' q' with⟨rfl,rfl⟩ | ⟨rfl,rfl⟩ | ⟨j',rfl,Of⟩
   ·exact absurd w (Sj d w')
   ·rfl
   ·rw[NB j' e' _ Of] at w';cases w'
  ·rw[NB i' e _ q1] at w;cases w
 ·have:=E0.len
  simp[this]
theorem Ak {S:uX}{x qual:Str}{st:Stmt}{f:Addr}{fd:Ld}{N ps:Ic}{k:Nat}(F:bC K x qual st f fd)(Sc:aF N ps (ag st))(hm:mg x=some (.ref f))(hb:Binds K fd ps [])(len:∀s rs qs T,S K s rs qs T->qs.length + 2=ps.length)
 (NH:∀(Nl:Value) (A:La) (outer:List Env) (s:K3) (H:Hp) (E:XK) (a b c:Addr) (cs:Ig) (u:Pu) (rs:List Row) (qs:List Pk) (T:Pu->List Row->RT),bI k (A.deeper (KP qual (ag st) s.heap.objs.size f Nl))->S K u rs qs T->
  WS (bQ dW P w K mg base N qual (ag st) f Nl A outer s H E).cO (bG st) (.ob (bg.bx a b u):: .ob (cu c cs rs)::dP qs (N.length - 2)) (λΓ=>∃u' Oj,Γ[0]?=some (.ob (bg.bx a b u'))/\Γ[1]?=some (.ob (cu c cs Oj))/\∀H0 H' R',T u' Oj H0 .Nu H' R') (λ_ _ _ _=>False)):ax P w K mg base x (k + 1) (uK S K):=by
 refine⟨f,fd,ps,?_,hm,F.kp,hb⟩
 refine F.ok Sc (λvs H Q E h=>?_) (λNl A outer s H vs Q E hr h=>?_)
 ·obtain⟨R,a,b,u,c,cs,rs,N3,qs,T,rfl,_,_,_,_,_,p,hS,_⟩:=h
  rw[I0,I0,p.length];exact len u rs qs T hS
 ·obtain⟨R,a,b,u,c,cs,rs,N3,qs,T,rfl,sR,hR,hB,hC,Sj,p,hS,q⟩:=h
  have hl:qs.length + 2<=N.length:=by
   rw[len u rs qs T hS]
   have:=congrArg List.length Sc.pre
   rw[Jm] at this
   omega
  refine⟨_,dI,NH Nl A outer s H E a b c cs u rs qs T hr hS (L2.start N (.ref a:: .ref c::N3)) (eO H ([a,b]++(c::cs))) R H R (sv sR hR hB hC Sj p hl) {nx:=λ_ H'=>Q .Nu H',rt:=Q} (λσ' H' R' Γ' E' _ ⟨u',Oj,hΓ,hΓ1,t⟩=>?_) λv H' R' xx t=>t.elim⟩
  obtain⟨ea,QK,NI⟩:=e8 (E'.ent 0 _ hΓ)
  obtain⟨⟨vc,ec,e2,Pw⟩,Tt⟩:=E'.ent 1 _ hΓ1
  refine q .Nu H' R' u' Oj E'.ext QK ⟨rfl,Pw⟩ (λx hx=>?_) (t _ _ _)
  rcases IS.mp hx with w | w
  ·rcases IY.mp w with rfl | w
   ·exact NI.1
   ·rw[II.mp w];exact NI.2
  ·exact Tt x w
theorem kK (i:Nat){x:Str}{e:Expr}{p1 pos:Pos}{a:Addr}{as:Ig}{rs:List Row}{k:Int}{j:Nat}{b:Addr}(he:EV X e Γ af k Γ1)(hΓ:Γ[i]?=some (.ob (cu a as rs)))(hΓ1:Γ1[i]?=some (.ob (cu a as rs)))(hk:eR as.length k=some j)(hb:as[j]?=some b)
 (hN:X.N[i]?=some x:=by rfl) (hv:autoParam (bZ X.env.scope x) NC) (hd:Nr x:=by decide) (Np:NA x:=by decide) (PV:fQ e:=by exact λ_ _=>rfl):EV X (.Subscript (.Name x p1) e pos) Γ yS b Γ1:=λσ H0 R0 H R E Q q=>by
 obtain⟨⟨v,ea,rfl,ha,hr,_⟩,hR⟩:=E.ent i _ hΓ
 refine eS (jt h7 (ba hN hv hd Np) aJ PV) ⟨.ref a,at_of ea,he σ H0 R0 H R E _ λu H2 R2 E2 s2 e2=>?_⟩
 obtain⟨⟨v,Si,e3,Q2,Pe,nd⟩,RK⟩:=E2.ent i _ hΓ1
 refine⟨a,_,k,.ref b,rfl,e2,bt.of Q2,?_,q _ H2 R2 E2 s2 rfl⟩
 unfold cS
 rw[IM,hk]
 show(as.map V.ref)[j]?=_
 rw[Je,hb];rfl
theorem Fe {i j:Nat}{a:Addr}{as:Ig}{rs:List Row}{xs:Ib}(Ox:i≠j)(hΓ:Γ[i]?=some (.ob (cu a as rs)))(hj:Γ[j]?=some (.mu af xs))(hz:rs.length<=K4)(hzx:xs.length<=K4)(σ:St)(H0 R0 H R:Hp)(E:aq X.K σ H0 R0 H R Γ):aq X.K σ H H H H (((Γ.map nC).set i (.im (ak iK) rs)).set j (.im (ak af) xs)):=by
 obtain⟨⟨v,ea,rfl,ha,hr,nd⟩,hR⟩:=E.ent i _ hΓ
 obtain⟨b,vs,eb,hb,Og,pp⟩:=E.ent j _ hj
 have E1:=E.N6.j7 (i:=i) (e0:=.no) (en:=.im (ak iK) rs) (by rw[Je,hΓ];rfl) ⟨.ref a,ea,a,_,rfl,ha,jy hr,hz⟩ λb w=>by cases w
 exact E1.j7 (i:=j) (e0:=.no) (by rw[Jk Ox,Je,hj];rfl) ⟨.ref b,eb,b,vs,rfl,hb,Paired.map (λ_ _=>af.mono E.sub) pp,hzx⟩ λb w=>by cases w
theorem x9 {a:Expr}{j:Nat}{p1 pos:Pos}{r:Row}(ha:EV X a Γ iK r Γ1):EV X (.Subscript a (.Constant (.int 0) j p1) pos) Γ af r.1 Γ1:=λσ H0 R0 H R E Q q=>by
 refine eS (jt h7 aJ eU (λ_ _=>rfl)) (ha σ H0 R0 H R E _ λv H1 R1 E1 s1 e1=>?_)
 obtain⟨b,rfl,hb⟩:=e1
 exact⟨b,_,0,.int r.1,rfl,rfl,bt.of (E1.sub _ _ hb),rfl,q _ H1 R1 E1 s1 rfl⟩
end
theorem WS.tV {X:Cx}{Γ:Ga}{N:Ga->Prop}{T:RT}(i:Nat){Oq:List Stmt}{a:Addr}{as:Ig}{rs:List Row}(hΓ:Γ[i]?=some (.ob (cu a as rs)))(h:as.length=rs.length->WS X Oq Γ N T):WS X Oq Γ N T:=λσ H0 R0 H R E D dn dr=>by
 obtain⟨⟨v,ea,_,ha,hr,nd⟩,hR⟩:=E.ent i _ hΓ
 exact h hr.1 σ H0 R0 H R E D dn dr
section
variable {X:Cx}{Γ Γ1 Γ2 Γ3:Ga}{α β γ δ:Type}{N:Ga->Prop}{T:RT}
theorem sf {a:Expr}{p pos:Pos}{r:Row}(hm:X.mg "list"=none)(ha:EV X a Γ bA r Γ1)(hs:K2 [a] X.env=[(false,eval a X.env)]:=by rfl)(hg:Gl X "list":=by rfl):aE X (.Call (.Name "list" p) [a] [] pos) Γ af (pV r) Γ1:=λσ H0 R0 H R E Q q=>by
 refine eS (gx kP hg hm KQ (aH aJ bJ hs) (by decide) (by decide) hs) (ha σ H0 R0 H R E _ λv H1 R1 E1 s1 e1=>?_)
 obtain⟨b,rfl,hb⟩:=e1
 refine⟨b,_,rfl,.inr (ei.of (E1.sub _ _ hb)),λl hl=>?_⟩
 exact q l _ _ R1 (E1.grow (Ext.c7 E1.sub hl _)) s1 aA (E1.sub.free hl) (E1.ext.h.free hl) (E1.off hl) (paired_ints (pV r)) (by show 4<=K4;decide)
theorem EV.Hz {e:Expr}{r:Row}(h:EV X e Γ (ak af) (pV r) Γ1):EV X e Γ iK r Γ1:=EV.rep h λK R q=>by
 obtain⟨b,vs,e,hb,pp,_⟩:=q
 exact⟨b,e,by rw[hb,eD pp];rfl⟩
end
section
variable {X:Cx}{Γ Γ1 Γ2 Γ3:Ga}{α β γ δ:Type}{N:Ga->Prop}{T:RT}
theorem zj {S:cf}{x:Str}{k:Nat}{e:Expr}{es:Ii}{p pos:Pos}{ps:List Pk}{r:Rep α}{Pd:α->Prop}{r':Rep β}{y:β}(C:ax X.prog X.w X.K X.mg X.base x k (aG S X.K))(hr:bI k X.A)(ha:HA X (e::es) Γ ps Γ1)(hS:S X.K ps (bL X.K r Pd))(hc:∀(R:Hp) v z,Pd z->r.R X.K R v z->r'.R X.K R v y)
 (hg:Gl X x:=by rfl) (Nx:Nr x:=by decide) (he:K2 (e::es) X.env=(false,eval e X.env)::K2 es X.env:=by rfl) (Nw:(Lb pos (K2 es X.env)).any (·.1)=false:=by rfl):EV X (.Call (.Name x p) (e::es) [] pos) Γ r' y Γ1:=λσ H0 R0 H R E Q q=>
 dS C hr ha hS E (λH1 R1 v H' R' E1 s1 xx t=>by
  obtain⟨z,e1,hz⟩:=t
  exact q v H' R' (E1.grow xx) (s1.trans xx.r) (hc _ _ _ hz e1)) hg Nx he Nw
end
section
variable {X:Cx}{Γ Γ1 Γ2 Γ3:Ga}{α β γ δ:Type}{N:Ga->Prop}{T:RT}
theorem ze:Cd X (λx y H Q=>∃p xs i v,x= .ref p/\y= .int i/\0<=i/\bt X.K H p xs/\cS xs i=some v/\Q v H):=by
 intro Nh s σ H x y v u Q I rx ry h
 obtain⟨p,xs,i,z,rfl,rfl,h0,hq,he,q⟩:=h
 cases rx
 obtain⟨t,rfl⟩:=ry
 obtain⟨Nj,r,pl,hz⟩:=I.list hq
 obtain⟨j,h1,h2,h3,h4,h5⟩:=n4 he
 obtain⟨w,ew,O6⟩:=r.get h2
 have hl:=r.length
 have hn:=jI
 have hj:i.toNat=j:=by
  rw[LX h0 h5] at h1
  exact Option.some.inj h1
 exact wpAny_getItem_list pl.isList h0 (by omega) (by rw[hj];simpa using ew) ⟨z,H,I,O6,q⟩
theorem yo (i:Nat){x:Str}{b e:Expr}{p1 p2 pos:Pos}{c:Int}{xs:Ib}{y k:Int}{j:Nat}(hb:EV X b Γ af k Γ)(he:EV X e Γ af c Γ)(hΓ:Γ[i]?=some (.mu af xs))(k0:0<=k)(hj:eR xs.length k=some j)(hy:cS xs k=some y)(h:N (Γ.set i (.mu af (xs.set j (y + c)))))
 (hN:X.N[i]?=some x:=by rfl) (hv:autoParam (bZ X.env.scope x) NC)
 (hd:Nr x:=by decide) (Np:NA x:=by decide)
 (ha:∀ov iv new,augStore b ov iv new=(do Lk [new,ov,iv] (LR ov iv new);L5 [new,ov,iv] [];pure .next):=by intros;rfl):
 W1 X (.AugAssign (.Subscript (.Name x p1) b p2) .Add e pos) Γ N T:=λσ H0 R0 H R E D dn dr=>by
 obtain⟨a,vs,ea,hp,hR,pp⟩:=E.ent i _ hΓ
 refine sS (A6 (ba hN hv hd Np) aJ ze aJ xM set_list ha) ⟨.ref a,at_of ea,hb σ H0 R0 H R E _ λu H2 R2 E2 s2 e2=>?_⟩
 obtain⟨a',N3,NM,N8,NI,Ol⟩:=E2.ent i _ hΓ
 rw[ea] at NM;cases NM
 obtain⟨w,e3,e4⟩:=iM Ol hy
 cases (show w=V.int y from e4)
 refine⟨a,N3,k,.int y,rfl,e2,k0,bt.of N8,e3,he σ H0 R0 H2 R2 E2 _ λu3 H3 R3 E3 s3 e5=>?_⟩
 obtain⟨a',vs3,NM,ha3,hR3,pp3⟩:=E3.ent i _ hΓ
 rw[ea] at NM;cases NM
 cases (show u3=V.int c from e5)
 refine⟨y,c,rfl,rfl,a,vs3,k,j,rfl,e2,ha3,by rw[pp3.length];exact hj,?_⟩
 exact dn σ _ R3 _ (E3.upd (en:=.mu af (xs.set j (y + c))) hΓ rfl ea hR3 ⟨a,_,rfl,aA,hR3,ka (F:=af.R X.K R3) (v:=.int (y + c)) rfl j pp3⟩) (s2.trans s3) h
end
section
variable {X:Cx}{Γ Γ1 Γ2 Γ3:Ga}{α β γ δ:Type}{N:Ga->Prop}{T:RT}
variable {r:Rep α}{as:Ig}{Nz:List (List α)}{x:Str}{p1:Pos}{a:Addr}{H R:Hp}{j:Nat}{K:MP}{b:Addr}{xs:List α}{p2:Pos}{e:Expr}
def gR (K:MP)(r:Rep α)(H R:Hp)(as:Ig)(Nz:List (List α)):Prop:=as.length=Nz.length/\∀(i:Nat) (b:Addr) (xs:List α),as[i]?=some b->Nz[i]?=some xs->∃ws,H b=some (.lst ws)/\PySem.Paired (r.R K R) ws xs
theorem gR.one (h:gR K r H R as Nz)(hb:b∈as):∃ws,H b=some (.lst ws):=by
 obtain⟨i,hi,rfl⟩:=JM.mp hb
 obtain⟨ws,h1,_⟩:=h.2 i _ _ (IF hi) (IF (by rw[← h.1];exact hi))
 exact⟨ws,h1⟩
theorem gR.loc {H' R':Hp}(h:gR K r H R as Nz)(e:∀a∈as,H' a=H a)(s:ar R R'):gR K r H' R' as Nz:=
 ⟨h.1,λi b xs h1 h2=>by
   obtain⟨ws,q1,q2⟩:=h.2 i b xs h1 h2
   exact⟨ws,(e b (IQ h1)).trans q1,Paired.map (λ_ _=>r.mono s) q2⟩⟩
theorem gR.put (h:gR K r H R as Nz)(nd:as.Nodup){ws:List V}(hb:as[j]?=some b)(hp:PySem.Paired (r.R K R) ws xs):gR K r (upd H b (.lst ws)) R as (Nz.set j xs):=by
 refine⟨by rw[Jp];exact h.1,λi c q h1 h2=>?_⟩
 by_cases Ox:i=j
 ·subst Ox
  rw[hb] at h1;cases h1
  have hl:i < Nz.length:=by rw[← h.1];exact(IG.mp hb).1
  rw[Ji hl] at h2;cases h2
  exact⟨ws,aA,hp⟩
 ·rw[Jk (KG Ox)] at h2
  have:c≠b:=λz=>by
   subst z
   have l1:=(IG.mp h1)
   have l2:=(IG.mp hb)
   exact Ox ((JI (h₀:=l1.1) (h₁:=l2.1) nd).mp (l1.2.trans l2.2.symm))
  rw[aM this];exact h.2 i c q h1 h2
theorem gR.snoc (h:gR K r H R as Nz){ws:List V}(hb:H b=some (.lst ws))(hp:PySem.Paired (r.R K R) ws xs):gR K r H R (as++[b]) (Nz++[xs]):=by
 refine⟨by rw[IL,IL,h.1];rfl,λi c q h1 h2=>?_⟩
 rcases Kw i as.length with hl | hl
 ·rw[Jn hl] at h1
  rw[Jn (by rw[← h.1];exact hl)] at h2
  exact h.2 i c q h1 h2
 ·rw[Jg hl] at h1
  rw[Jg (by rw[← h.1];exact hl)] at h2
  have e:i - as.length=0:=by
   have:=(IG.mp h1).1
   simp at this;omega
  rw[e] at h1
  rw[← h.1,e] at h2
  simp at h1 h2
  rw[← h1,← h2];exact⟨ws,hb,hp⟩
def eK (r:Rep α)(a:Addr)(as:Ig)(Nz:List (List α)):jv where
 fp:=a::as
 R:=λK H R v=>v= .ref a/\H a=some (.lst (as.map .ref))/\gR K r H R as Nz/\(a::as).Nodup
 loc:=λhH hR ⟨e,h1,h2,h3⟩=>⟨e,(hH a IT).trans h1,h2.loc (λb hb=>hH b (IK _ hb)) hR,h3⟩
 has:=λ⟨e,h1,h2,h3⟩ b hb=>by
  rcases IY.mp hb with rfl | hb
  ·rw[h1];exact KH _
  ·obtain⟨r,hr⟩:=h2.one hb
   rw[hr];exact KH _
theorem Dy {k:Int}(hk:eR as.length k=some j)(hb:as[j]?=some b):cS (as.map V.ref) k=some (.ref b):=by
 unfold cS
 rw[IM,hk]
 show(as.map V.ref)[j]?=_
 rw[Je,hb];rfl
theorem p9 (i:Nat){b:Expr}{k:Int}{σ:St}{H0 R0:Hp}{Q:VK}(hb:EV X b Γ af k Γ)(hΓ:Γ[i]?=some (.ob (eK r a as Nz)))(hk:eR Nz.length k=some j)(E:aq X.K σ H0 R0 H R Γ)
 (q:∀c H' R',aq X.K σ H0 R0 H' R' Γ->ar R R'->as[j]?=some c->Q (.ref c) H')
 (hN:X.N[i]?=some x) (hv:bZ X.env.scope x) (hd:(x==("__debug__":Str))=false) (Np:(x==("__classdict__":Str))=false) (PV:fQ b):eF X (.Subscript (.Name x p1) b p2) σ H Q:=by
 obtain⟨⟨v,ea,rfl,ha,hr,_⟩,hR⟩:=E.ent i _ hΓ
 refine eS (jt h7 (ba hN hv hd Np) aJ PV) ⟨.ref a,at_of ea,hb σ H0 R0 H R E _ λu H2 R2 E2 s2 e2=>?_⟩
 obtain⟨⟨v,Si,e3,Q2,Pe,nd⟩,RK⟩:=E2.ent i _ hΓ
 have hl:j < as.length:=by rw[Pe.1];exact(nW hk).2.1
 exact⟨a,_,k,.ref as[j],rfl,e2,bt.of Q2,Dy (by rw[Pe.1];exact hk) (IF hl),q _ H2 R2 E2 s2 (IF hl)⟩
theorem gH (i:Nat){b:Expr}{ap cp pos:Pos}{k:Int}{y:α}(hb:EV X b Γ af k Γ)(he:EV X e Γ r y Γ)(hΓ:Γ[i]?=some (.ob (eK r a as Nz)))(hk:eR Nz.length k=some j)(hx:Nz[j]?=some xs)(hz:xs.length < K4)(h:N (Γ.set i (.ob (eK r a as (Nz.set j (xs++[y]))))))
 (hN:X.N[i]?=some x:=by rfl) (hv:autoParam (bZ X.env.scope x) NC)
 (hd:Nr x:=by decide) (Np:NA x:=by decide) (PV:fQ b:=by exact λ_ _=>rfl)
 (NU:K9 (.Call (.Attribute (.Subscript (.Name x p1) b p2) "append" ap) [e] [] cp) none pos.line X.env=pure false:=by rfl)
 (Nv:Li (.Subscript (.Name x p1) b p2) "append" X.env (eval (.Subscript (.Name x p1) b p2) X.env)=eval (.Subscript (.Name x p1) b p2) X.env:=by rfl)
 (NN:((Lb cp (K2 [e] X.env)).all (λx=> !x.1)&&(LH cp (Lq [] X.env)).all (λx=>x.1.isSome)
  &&decide ([e].length + ([]:List Ll).length + (if([]:List Ll).isEmpty then 0 else 1) < 30))=true:=by rfl)
 (hline:(ap.endLine==cp.line)=true:=by rfl) (hs:K2 [e] X.env=(false,eval e X.env)::K2 [] X.env:=by rfl):W1 X (.Expr (.Call (.Attribute (.Subscript (.Name x p1) b p2) "append" ap) [e] [] cp) pos) Γ N T:=λσ H0 R0 H R E D dn dr=>by
 refine sS (dY (iG Mr Ms Mt jq aJ (aH aJ bJ hs) Nv NN hline hs rfl) NU) ?_
 refine p9 i hb hΓ hk E (λc H1 R1 E1 s1 hc=>?_) hN hv hd Np PV
 obtain⟨⟨v,Q6,rfl,ha1,QV,OO⟩,hR1⟩:=E1.ent i _ hΓ
 obtain⟨Pz,q1,q2⟩:=QV.2 j c xs hc hx
 refine⟨.inl ⟨rfl,_,bt.of q1⟩,he σ H0 R0 H1 R1 E1 _ λu H2 R2 E2 s2 e2=>?_⟩
 obtain⟨⟨v,Si,rfl,Q2,Pe,Pj⟩,RK⟩:=E2.ent i _ hΓ
 obtain⟨ws2,q1,q2⟩:=Pe.2 j c xs hc hx
 obtain⟨n1,n2⟩:=Jh.mp Pj
 have cm:c∈as:=IQ hc
 refine⟨c,ws2,u,rfl,rfl,q1,by rw[q2.length];exact hz,?_⟩
 refine dn σ _ R2 _ (E2.mv (en:=.ob (eK r a as (Nz.set j (xs++[y])))) hΓ (IK _ cm) ⟨⟨.ref a,Si,rfl,?_,Pe.put n2 hc (cY q2 (.cons e2 .nil)),Pj⟩,RK⟩ λc w=>.inl w) (s1.trans s2) h
 rw[aM (show a≠c from λz=>n1 (z▸cm))];exact Q2
theorem Fl (i:Nat){b:Expr}{k:Int}(hb:EV X b Γ af k Γ)(hΓ:Γ[i]?=some (.ob (eK r a as Nz)))(hk:eR Nz.length k=some j)(hx:Nz[j]?=some xs)
 (hN:X.N[i]?=some x:=by rfl) (hv:autoParam (bZ X.env.scope x) NC)
 (hd:Nr x:=by decide) (Np:NA x:=by decide) (PV:fQ b:=by exact λ_ _=>rfl)
 (ht:∀whole,LK (.Subscript (.Name x p1) b p2) X.env whole=(do let v ← whole;LL (Expr.Subscript (.Name x p1) b p2).pos;Lk [v] (Mb v)):=by intro _;rfl):TV X (.Subscript (.Name x p1) b p2) Γ (!xs.isEmpty) Γ:=λσ H0 R0 H R E Q q=>by
 refine tS (mn aJ ht) ?_
 refine p9 i hb hΓ hk E (λc H1 R1 E1 s1 hc=>?_) hN hv hd Np PV
 obtain⟨⟨v,Si,rfl,Q2,Pe,Pj⟩,RK⟩:=E1.ent i _ hΓ
 obtain⟨ws,q1,q2⟩:=Pe.2 j c _ hc hx
 refine⟨!xs.isEmpty,.inl ⟨ws,bt.of q1,?_⟩,q H1 R1 E1 s1⟩
 cases q2<;>rfl
theorem mU (i:Nat){ap cp pos:Pos}{ys:List α}(he:aE X e Γ r ys Γ1)(hΓ:Γ[i]?=some (.ob (eK r a as Nz)))(hΓ1:Γ1[i]?=some (.ob (eK r a as Nz)))(hz:Nz.length < K4)(h:∀b,N (Γ1.set i (.ob (eK r a (as++[b]) (Nz++[ys])))))
 (hN:X.N[i]?=some x:=by rfl) (hv:autoParam (bZ X.env.scope x) NC)
 (hd:Nr x:=by decide) (Np:NA x:=by decide)
 (NU:K9 (.Call (.Attribute (.Name x p1) "append" ap) [e] [] cp) none pos.line X.env=pure false:=by rfl)
 (Nv:Li (.Name x p1) "append" X.env (eval (.Name x p1) X.env)=eval (.Name x p1) X.env:=by rfl)
 (NN:((Lb cp (K2 [e] X.env)).all (λx=> !x.1)&&(LH cp (Lq [] X.env)).all (λx=>x.1.isSome)
  &&decide ([e].length + ([]:List Ll).length + (if([]:List Ll).isEmpty then 0 else 1) < 30))=true:=by rfl)
 (hline:(ap.endLine==cp.line)=true:=by rfl) (hs:K2 [e] X.env=(false,eval e X.env)::K2 [] X.env:=by rfl):W1 X (.Expr (.Call (.Attribute (.Name x p1) "append" ap) [e] [] cp) pos) Γ N T:=λσ H0 R0 H R E D dn dr=>by
 obtain⟨⟨v,ea,rfl,ha,hr,_⟩,hR⟩:=E.ent i _ hΓ
 refine sS (dY (iG Mr Ms Mt jq (ba hN hv hd Np) (aH aJ bJ hs) Nv NN hline hs rfl) NU) ?_
 refine⟨.ref a,at_of ea,.inl ⟨rfl,_,bt.of ha⟩,he σ H0 R0 H R E _ λb vs H2 R2 E2 s2 hb Og h0b Qv pp _=>?_⟩
 obtain⟨⟨v,Si,rfl,Q2,Pe,Pj⟩,RK⟩:=E2.ent i _ hΓ1
 obtain⟨n1,n2⟩:=Jh.mp Pj
 have hl:as.length=Nz.length:=Pe.1
 have bne:b∉a::as:=λz=>Qv i _ hΓ1 z
 have bna:b≠a:=λz=>bne (z▸IT)
 refine⟨a,_,.ref b,rfl,rfl,Q2,by rw[IM,hl];exact hz,?_⟩
 refine dn σ _ R2 _ (E2.mv (en:=.ob (eK r a (as++[b]) (Nz++[ys]))) hΓ1 IT ⟨⟨.ref a,Si,rfl,?_,?_,?_⟩,λc hc=>?_⟩ λc w=>?_) s2 (h b)
 ·rw[aA,Jq];rfl
 ·refine(Pe.snoc hb pp).loc (λc hc=>aM λz=>?_) (ar.refl _)
  rw[z] at hc
  rcases IS.mp hc with q | q
  ·exact n1 q
  ·exact bna (II.mp q).symm
 ·refine Jh.mpr ⟨λz=>?_,gz n2 λz=>bne (IK _ z)⟩
  rcases IS.mp z with q | q
  ·exact n1 q
  ·exact bna (II.mp q).symm
 ·rcases IY.mp hc with rfl | hc
  ·exact RK _ IT
  ·rcases IS.mp hc with q | q
   ·exact RK _ (IK _ q)
   ·rw[II.mp q];exact Og
 ·rcases IY.mp w with rfl | w
  ·exact .inl IT
  ·rcases IS.mp w with q | q
   ·exact .inl (IK _ q)
   ·rw[II.mp q];exact .inr ⟨h0b,Qv⟩
def C8 (K:MP)(r:Rep α)(P:List (List α)->Prop):RT:=λH0 v H' R'=>∃a as Nz,v= .ref a/\(∀b∈a::as,H0 b=none/\R' b=none)/\H' a=some (.lst (as.map .ref))/\gR K r H' R' as Nz/\(a::as).Nodup/\P Nz
theorem Bq (i:Nat){pos:Pos}{P:List (List α)->Prop}(hΓ:Γ[i]?=some (.ob (eK r a as Nz)))(h:P Nz)(hN:X.N[i]?=some x:=by rfl)(hv:autoParam (bZ X.env.scope x) NC)
 (hd:Nr x:=by decide) (Np:NA x:=by decide):W1 X (.Return (some (.Name x p1)) pos) Γ N (C8 X.K r P):=λσ H0 R0 H R E D dn dr=>by
 obtain⟨⟨v,ea,rfl,ha,hr,nd⟩,hR⟩:=E.ent i _ hΓ
 exact sS (fW (ba hN hv hd Np)) ⟨.ref a,at_of ea,dr _ H R E.ext ⟨a,as,Nz,rfl,λb hb=>⟨E.nw i _ b hΓ hb,hR b hb⟩,ha,hr,nd,h⟩⟩
theorem A3 (i:Nat){S:cf}{y:Str}{k:Nat}{es:Ii}{p pos:Pos}{ps:List Pk}{Pd:List (List α)->Prop}(C:ax X.prog X.w X.K X.mg X.base x k (aG S X.K))(hr:bI k X.A)(ha:HA X (e::es) Γ ps Γ1)(hS:S X.K ps (C8 X.K r Pd))(h:∀a as Nz,Pd Nz->N (Γ1.set i (.ob (eK r a as Nz))))
 (hg:Gl X x:=by rfl) (Nx:Nr x:=by decide) (he:K2 (e::es) X.env=(false,eval e X.env)::K2 es X.env:=by rfl) (Nw:(Lb p2 (K2 es X.env)).any (·.1)=false:=by rfl)
 (hN:X.N.Nodup:=by first | assumption | decide) (hi:X.N[i]?=some y:=by rfl) (hx:autoParam (Loc X.env.scope y) Oe)
 (hs:K9 (.Call (.Name x p) (e::es) [] p2) (some (.Name y p1)) pos.line X.env=pure false:=by rfl) (hf:autoParam (X.fn y=true∨X.env.scope.names.lookup y=some .local) Od):
 W1 X (.Assign [.Name y p1] (.Call (.Name x p) (e::es) [] p2) pos) Γ N T:=λσ H0 R0 H R E D dn dr=>
 sS (eT hN hi hx aJ hs hf) (dS C hr ha hS E (λH1 R1 v H' R' E1 s1 xx t=>by
  obtain⟨a,as,Nz,rfl,hn,h1,h2,h3,h4⟩:=t
  refine dn _ H' R' _ ((E1.grow xx).setG (en:=.ob (eK r a as Nz)) i ⟨⟨.ref a,rfl,rfl,h1,h2,h3⟩,λb hb=>(hn b hb).2⟩ (λb hb=>E1.ext.h.free (hn b hb).1) λb hb j e _ qj w=>?_) (s1.trans xx.r) (h a as Nz h4)
  exact(Ent.dB (E1.ent j e qj) w).1 (hn b hb).1) hg Nx he Nw)
def jz (R H:Hp)(l:Ig):Hp:=λb=>if b∈l then H b else R b
theorem nV (i:Nat){pos:Pos}{P:List (List α)->Prop}(hΓ:Γ[i]?=some (.ob (eK r a as Nz)))(hz:Nz.length<=K4)(hzi:∀xs∈Nz,xs.length<=K4)(h:P Nz)(hN:X.N[i]?=some x:=by rfl)(hv:autoParam (bZ X.env.scope x) NC)
 (hd:Nr x:=by decide) (Np:NA x:=by decide):W1 X (.Return (some (.Name x p1)) pos) Γ N (iF X.K (ak r) P):=λσ H0 R0 H R E D dn dr=>by
 obtain⟨⟨v,ea,rfl,ha,hr,nd⟩,hR⟩:=E.ent i _ hΓ
 obtain⟨n1,n2⟩:=Jh.mp nd
 have sR:ar R (jz R H as):=λb o q=>by
  unfold jz
  split
  ·rename_i hb
   rw[hR b (IK _ hb)] at q;cases q
  ·exact q
 have sH:ar (jz R H as) H:=λb o q=>by
  unfold jz at q
  split at q
  ·exact q
  ·exact E.sub b o q
 have pr:PySem.Paired ((ak r).R X.K (jz R H as)) (as.map .ref) Nz:=by
  have key:∀(bs:Ig) (N2:List (List α)),(∀b∈bs,b∈as)->gR X.K r H R bs N2->(∀xs∈N2,xs.length<=K4)->PySem.Paired ((ak r).R X.K (jz R H as)) (bs.map .ref) N2:=by
   intro bs
   induction bs with
   | nil=>intro N2 _ h _;cases N2 with
     | nil=>exact .nil
     | cons _ _=>exact absurd h.1 (by simp)
   | cons b bs ih=>intro N2 hm h hz;cases N2 with
     | nil=>exact absurd h.1 (by simp)
     | cons ys N2=>
       obtain⟨ws,q1,q2⟩:=h.2 0 b ys rfl rfl
       refine .cons ⟨b,ws,rfl,?_,Paired.map (λ_ _=>r.mono sR) q2,hz ys IT⟩ (ih N2 (λc hc=>hm c (IK _ hc)) ⟨by simpa using h.1,λi c xs h1 h2=>h.2 (i + 1) c xs (by simpa using h1) (by simpa using h2)⟩ λxs hx=>hz xs (IK _ hx))
       unfold jz
       rw[if_pos (hm b IT)];exact q1
  exact key as Nz (λ_ h=>h) hr hzi
 refine sS (fW (ba hN hv hd Np)) ⟨.ref a,at_of ea,dr _ H (jz R H as) ⟨E.ext.h,E.ext.r.trans sR,sH,λb hb=>?_⟩ ⟨a,_,Nz,rfl,E.nw i _ a hΓ IT,ha,?_,pr,hz,h⟩⟩
 ·unfold jz
  rw[if_neg λz=>hb (E.nw i _ b hΓ (IK _ z))]
  exact E.ext.old b hb
 ·unfold jz
  rw[if_neg n1];exact hR a IT
end
def FlE:Ent->Prop
 | .no=>True
 | .im _ _=>True
 | _=>False
def qG:Ga->Prop
 | []=>True
 | e::r=>FlE e/\qG r
theorem qG.fp:∀{Γ:Ga},qG Γ->∀(i:Nat) (e:Ent),Γ[i]?=some e->∀o,e.fp o=[]
 | e::_,⟨h,_⟩,0,_,q,o=>by
   cases q
   cases e with
   | no=>rfl
   | im _ _=>rfl
   | mu _ _=>exact h.elim
   | di _=>exact h.elim
   | ob _=>exact h.elim
 | _::r,⟨_,h⟩,i + 1,e,q,o=>qG.fp h i e (by simpa using q) o
 | [],_,i,e,q,o=>by simp at q
theorem aq.zT {K:MP}{σ:St}{H0 R0 H R:Hp}{Γ:Ga}(E:aq K σ H0 R0 H R Γ)(fl:qG Γ):aq K σ H R H R Γ:=
 ⟨⟨ar.refl _,ar.refl _,E.sub,λ_ _=>rfl⟩,E.ent,(λi e a q w=>by rw[fl.fp i e q] at w;cases w),(λi j e e' a q q' w w'=>by rw[fl.fp i e q] at w;cases w),E.len⟩
section
variable {X:Cx}{Γ Γ1 Γ2 Γ3:Ga}{α β γ δ:Type}{N:Ga->Prop}{T:RT}
def BB (X:Cx)(e:Expr)(Γ:Ga){α:Type}(r:Rep α)(P:List α->Prop)(Γ':Ga):Prop:=
 ∀(σ:St) (H0 R0 H R:Hp),aq X.K σ H0 R0 H R Γ->∀Q:VK,(∀a vs ys H' R',aq X.K σ H0 R0 H' R' Γ'->ar R R'->H' a=some (.lst vs)->R' a=none->H0 a=none->Off a σ Γ'->PySem.Paired (r.R X.K R') vs ys->ys.length<=K4->P ys->Q (.ref a) H')->eF X e σ H Q
theorem aE.evr {e:Expr}{r:Rep α}{ys:List α}{P:List α->Prop}(h:aE X e Γ r ys Γ1)(hp:P ys):BB X e Γ r P Γ1:=λσ H0 R0 H R E Q q=>h σ H0 R0 H R E Q λa vs H' R' E' s' h1 h2 h3 h4 h5 h6=>q a vs ys H' R' E' s' h1 h2 h3 h4 h5 h6 hp
theorem uj {tg elt:Expr}{scope:Scope}{cl:List (Str×Addr)}{own fr:Ic}{ix:List Nat}{ra:Rep α}{rb:Rep β}{xs:List α}{P:α->List β->Prop}{bf:α->Ga->Ga}{J:It}{σ:St}{H0 R0 H1 R1:Hp}{Q:VK}(E1:aq X.K σ H0 R0 H1 R1 Γ1)(src:Src X.K J R1 ra xs)(hz:xs.length<=K4)
 (hb:∀(C:Addr) (s:K3) (H:Hp) (ex:Ig),BG (aL X scope cl C (own++fr) s H ex) tg ra bf) (hw:∀x,Wk (bf x (cE own ix Γ1)) (cE own ix Γ1)) (Ot:∀x,qG (bf x (cE own ix Γ1)))
 (he:∀(C:Addr) (s:K3) (H:Hp) (ex:Ig) x,x∈xs->BB (aL X scope cl C (own++fr) s H ex) elt (bf x (cE own ix Γ1)) rb (P x) (bf x (cE own ix Γ1)))
 (q:∀a bs N2 H' R',Ext H1 R1 H' R'->H' a=none->gR X.K rb H' R' bs N2->bs.Nodup->(∀b∈bs,H1 b=none/\R' b=none)->PySem.Paired P xs N2->(∀ys∈N2,ys.length<=K4)->Q (.ref a) (upd H' a (.lst (bs.map .ref)))):
 ∃W:Nat->Nat->List V->St->Hp->Prop,(∃m,W 0 m [] (fL own ix σ) H1)/\∀i m ys σ' H',W i m ys σ' H'->
  ys.length<=K4/\((J.stop i H'/\∀p,H' p=none->Q (.ref p) (upd H' p (.lst ys)))∨
  (J.go i H'/\∀x H2,J.Q8 i H' x H2->(λv σ H Q=>∀C s Hh ex,iC (aL X scope cl C (own++fr) s Hh ex) tg v σ H Q:TG) x σ' H2 λσ2 H3=>(λσ H Q=>∀C s Hh ex,jg (aL X scope cl C (own++fr) s Hh ex) [] σ H Q:TT) σ2 H3 λb H4=>
    if b=true then(λσ H Q=>∀C s Hh ex,eF (aL X scope cl C (own++fr) s Hh ex) elt σ H Q:TE) σ2 H4 λv H5=>∃m',m' < m/\W (i + 1) m' (ys++[v]) σ2 H5 else∃m',m' < m/\W (i + 1) m' ys σ2 H4)):=by
 refine⟨λi m ys σ' H'=>m=xs.length - i/\i<=xs.length/\∃R' bs N2,aq X.K σ' H1 R1 H' R' (cE own ix Γ1)/\ys=bs.map .ref/\gR X.K rb H' R' bs N2/\bs.Nodup/\(∀b∈bs,H1 b=none/\R' b=none)/\PySem.Paired P (xs.take i) N2/\∀ys∈N2,ys.length<=K4,⟨_,rfl,Ky _,R1,[],[],mq E1 own ix,rfl,⟨rfl,λi b r h1=>by simp at h1⟩,J8,(λb hb=>by cases hb),(.nil:PySem.Paired P [] []),(λys hy=>by cases hy)⟩,?_⟩
 rintro i m ys σ' H' ⟨rfl,hle,R',bs,N2,E',rfl,Pm,OP,O5,pq,hsz⟩
 have hbl:bs.length=i:=by rw[Pm.1,← pq.length,Jm];omega
 have Rp:(bs.map V.ref).length<=K4:=by rw[IM,hbl];omega
 obtain⟨Qu,Oa⟩:=src H' R' E'.ext.r E'.sub i
 refine⟨Rp,?_⟩
 by_cases NJ:i < xs.length
 ·obtain⟨go,yl⟩:=Qu _ (IF NJ)
  have Pp:xs[i]∈xs:=Jb NJ
  have tk:(xs.take (i + 1))=xs.take i++[xs[i]]:=by rw[JD,IF NJ];rfl
  refine .inr ⟨go,λv H2 hy C s Hh ex=>?_⟩
  obtain⟨R2,x2,hr⟩:=yl v H2 hy
  refine hb C s Hh ex σ' H1 R1 H2 R2 _ v _ (E'.grow x2) hr _ λσ2 E2=>?_
  intro C s Hh ex
  refine(cg (X:=aL X scope cl C (own++fr) s Hh ex)) σ2 H2 R2 H2 R2 (E2.zT (Ot _)) _ λH4 R4 E4 s4=>?_
  rw[if_pos rfl]
  intro C s Hh ex
  refine he C s Hh ex _ Pp σ2 H4 R4 H4 R4 (E4.zT (Ot _)) _ λa vs zs H5 R5 E5 s5 ha hR h0 off pp hz' hP=>?_
  have x5:Ext H' R' H5 R5:=x2.trans (E4.ext.trans E5.ext)
  have x25:Ext H2 R2 H5 R5:=E4.ext.trans E5.ext
  have Ow:∀b∈bs,H' b≠none:=λb hb=>by
   obtain⟨r,hr⟩:=Pm.one hb
   rw[hr];exact KH _
  have hold:∀b∈bs,b≠a:=λb hb e=>by
   have:H4 b≠none:=ar.some (x2.h.trans E4.ext.h) (Ow b hb)
   exact this (e▸h0)
  refine⟨xs.length - (i + 1),by omega,rfl,NJ,R5,bs++[a],N2++[zs],(E2.grow x25).weak (hw _),by rw[Jq];rfl,?_,?_,λb hb=>?_,?_,λys hy=>?_⟩
  ·refine gR.snoc (gR.loc Pm (λc hc=>?_) x5.r) ha pp
   cases e:H' c with
   | none=>exact absurd e (Ow c hc)
   | some u=>exact x5.h c u e
  ·exact gz OP λz=>hold a z rfl
  ·rcases IS.mp hb with z | z
   ·exact⟨(O5 b z).1,(x5.old b (Ow b z)).trans (O5 b z).2⟩
   ·rw[II.mp z]
    exact⟨(E'.ext.h.trans (x2.h.trans E4.ext.h)).free h0,hR⟩
  ·rw[tk]
   exact cY pq (.cons hP .nil)
  ·rcases IS.mp hy with z | z
   ·exact hsz ys z
   ·rw[II.mp z];exact hz'
 ·have e:i=xs.length:=by omega
  subst e
  rw[Jz] at pq
  exact .inl ⟨Oa (Kp _),λa ha=>q a bs N2 H' R' E'.ext ha Pm OP O5 pq hsz⟩
theorem Az (i:Nat){y:Str}{py NK:Pos}{tg elt iter:Expr}{scope:Scope}{pos:Pos}{cl:List (Str×Addr)}{own fr:Ic}{ix:List Nat}{ra:Rep α}{rb:Rep β}{xs:List α}{P:α->List β->Prop}{bf:α->Ga->Ga}
 (S:dj X scope cl own fr ix) (hit:IV X tg iter Γ ra xs Γ1)
 (hb:∀(C:Addr) (s:K3) (H:Hp) (ex:Ig),BG (aL X scope cl C (own++fr) s H ex) tg ra bf) (hw:∀x,Wk (bf x (cE own ix Γ1)) (cE own ix Γ1)) (Ot:∀x,qG (bf x (cE own ix Γ1)))
 (he:∀(C:Addr) (s:K3) (H:Hp) (ex:Ig) x,x∈xs->BB (aL X scope cl C (own++fr) s H ex) elt (bf x (cE own ix Γ1)) rb (P x) (bf x (cE own ix Γ1)))
 (h:∀a bs N2,PySem.Paired P xs N2->(∀ys∈N2,ys.length<=K4)->N (Γ1.set i (.ob (eK rb a bs N2))))
 (NU:K9 (.ListComp elt [⟨tg,iter,[],0⟩] scope pos) (some (.Name y py)) NK.line X.env=pure true:=by rfl)
 (hN:X.N.Nodup:=by first | assumption | decide) (Pg:X.N[i]?=some y:=by rfl) (hx:autoParam (Loc X.env.scope y) Oe)
 (hc:X.calm=true:=by rfl) (hs:∀x,Lc iter X.env x=pure x:=by intro _;rfl) (hf:autoParam (X.fn y=true∨X.env.scope.names.lookup y=some .local) Od):
 W1 X (.Assign [.Name y py] (.ListComp elt [⟨tg,iter,[],0⟩] scope pos) NK) Γ N T:=λσ H0 R0 H R E D dn dr=>by
 obtain⟨wi,hi,hit⟩:=hit
 refine sS (iI (i:=i) (g:=λv σ H Q=>∀C s Hh ex,iC (aL X scope cl C (own++fr) s Hh ex) tg v σ H Q) (tc:=λσ H Q=>∀C s Hh ex,jg (aL X scope cl C (own++fr) s Hh ex) [] σ H Q) (te:=λσ H Q=>∀C s Hh ex,eF (aL X scope cl C (own++fr) s Hh ex) elt σ H Q) NU hN Pg hx hc S hi
  (λC s H ex=>⟨λNh s1 σ H v u Q I r h=>h C s _ ex Nh s1 u I r,λNh s1 σ H Q I h=>h C s _ ex Nh s1 I,λNh s1 σ H Q I h=>h C s _ ex Nh s1 I⟩) hs hf) ?_
 refine hit σ H0 R0 H R E _ λJ H1 R1 E1 s1 hz src=>uj (Q:=λv H'=>D.nx (σ.set i (some v)) H') E1 src hz hb hw Ot he λa bs N2 H' R' xx ha hg OP O5 pq hsz=>?_
 have E2:=E1.grow xx
 have E3:=E2.grow (Ext.c7 E2.sub ha (.lst (bs.map .ref)))
 have inb:∀c∈bs,H' c≠none:=λc hc=>by
  obtain⟨r,hr⟩:=hg.one hc
  rw[hr];exact KH _
 have Qw:a∉bs:=λz=>inb a z ha
 refine dn _ _ R' _ (E3.setG (en:=.ob (eK rb a bs N2)) i ⟨⟨.ref a,rfl,rfl,aA,hg.loc (λc hc=>aM λz=>Qw (z▸hc)) (ar.refl _),Jh.mpr ⟨Qw,OP⟩⟩,λb hb=>?_⟩ (λb hb=>?_) λb hb j e _ qj w=>?_) (s1.trans xx.r) (h a bs N2 pq hsz)
 ·rcases IY.mp hb with rfl | hb
  ·exact E2.sub.free ha
  ·exact(O5 b hb).2
 ·rcases IY.mp hb with rfl | hb
  ·exact E2.ext.h.free ha
  ·exact E1.ext.h.free (O5 b hb).1
 ·rcases IY.mp hb with rfl | hb
  ·exact E2.off ha j e qj w
  ·exact(Ent.dB (E1.ent j e qj) w).1 (O5 b hb).1
end
section
variable {X:Cx}{Γ Γ1 Γ2 Γ3:Ga}{α β γ δ:Type}{N:Ga->Prop}{T:RT}
end
section
variable {X:Cx}{Γ Γ1 Γ2 Γ3:Ga}{α β γ δ:Type}{N:Ga->Prop}{T:RT}
variable {F:Ij}
theorem sO {a b:Expr}{pos:Pos}{k:Int}(hu:X.A.units + 1 < cLine)(ha:EV X a Γ af k Γ1)(hb:EV X b Γ1 iB F Γ2)(hm:Lr .In b=false:=by first | exact rY _ | with_unfolding_all rfl):EV X (.Compare a [.In] [b] pos) Γ aX (aV F k).isSome Γ2:=by
 intro σ H0 R0 H R E Q q
 refine eS (C7 (xF hu aJ aJ) hm) (ha σ H0 R0 H R E _ λv H1 R1 E1 s1 e1=>hb σ H0 R0 H1 R1 E1 _ λu H2 R2 E2 s2 e2=>?_)
 cases e1
 obtain⟨p,rfl,hp⟩:=e2
 refine⟨p,_,rfl,eY.k (k:=Sum.inl k) (E2.sub _ _ hp),?_⟩
 rw[kT,eW]
 exact q _ H2 R2 E2 (s1.trans s2) rfl
theorem mx {a:Expr}{p pos:Pos}(hm:X.mg "len"=none)(ha:EV X a Γ iB F Γ1)(hs:K2 [a] X.env=[(false,eval a X.env)]:=by rfl)(hg:Gl X "len":=by rfl):EV X (.Call (.Name "len" p) [a] [] pos) Γ af (F.length:Int) Γ1:=
 EV.cast (nZ (kvs:=cW F) hm (EV.rep ha λ_ _ q=>q) hs hg) (by unfold cW;rw[IM])
theorem kD {i:Nat}(hΓ:Γ[i]?=some (.di (cW F)))(σ:St)(H0 R0 H R:Hp)(E:aq X.K σ H0 R0 H R Γ):aq X.K σ H H H H ((Γ.map nC).set i (.im iB F)):=by
 obtain⟨a,ea,ha,hR⟩:=E.ent i _ hΓ
 exact E.N6.j7 (i:=i) (e0:=.no) (by rw[Je,hΓ];rfl) ⟨.ref a,ea,a,rfl,ha⟩ λb w=>by cases w
end
section
variable {X:Cx}{Γ Γ1 Γ2 Γ3:Ga}{α β γ δ:Type}{N:Ga->Prop}{T:RT}
theorem Dj (i:Nat){x:Str}{e:Expr}{p1 pos:Pos}{a c:Int}(he:EV X e Γ af c Γ)(hΓ:Γ[i]?=some (.im af a))(h:N (Γ.set i (.im af (a + c))))
 (hN:X.N.Nodup:=by first | assumption | decide) (hi:X.N[i]?=some x:=by rfl) (hx:autoParam (Loc X.env.scope x) Oe)
 (hf:autoParam (X.fn x=true∨X.env.scope.names.lookup x=some .local) Od):
 W1 X (.AugAssign (.Name x p1) .Add e pos) Γ N T:=λσ H0 R0 H R E D dn dr=>by
 obtain⟨v,ea,hr⟩:=E.ent i _ hΓ
 cases (show v=V.int a from hr)
 refine sS (vH hN hi hx aJ xM hf) ⟨.int a,at_of ea,he σ H0 R0 H R E _ λu H2 R2 E2 s2 e2=>?_⟩
 cases (show u=V.int c from e2)
 exact⟨a,c,rfl,rfl,dn _ H2 R2 _ (E2.set i (r:=af) (x:=a + c) rfl) s2 h⟩
theorem w_subN (i:Nat){x:Str}{e:Expr}{p1 pos:Pos}{a c:Int}(he:EV X e Γ af c Γ)(hΓ:Γ[i]?=some (.im af a))(h:N (Γ.set i (.im af (a - c))))
 (hN:X.N.Nodup:=by first | assumption | decide) (hi:X.N[i]?=some x:=by rfl) (hx:autoParam (Loc X.env.scope x) Oe)
 (hf:autoParam (X.fn x=true∨X.env.scope.names.lookup x=some .local) Od):
 W1 X (.AugAssign (.Name x p1) .Sub e pos) Γ N T:=λσ H0 R0 H R E D dn dr=>by
 obtain⟨v,ea,hr⟩:=E.ent i _ hΓ
 cases (show v=V.int a from hr)
 refine sS (vH hN hi hx aJ Ck hf) ⟨.int a,at_of ea,he σ H0 R0 H R E _ λu H2 R2 E2 s2 e2=>?_⟩
 cases (show u=V.int c from e2)
 exact⟨a,c,rfl,rfl,dn _ H2 R2 _ (E2.set i (r:=af) (x:=a - c) rfl) s2 h⟩
end
section
variable {X:Cx}{Γ Γ1 Γ2 Γ3:Ga}{α β γ δ:Type}{N:Ga->Prop}{T:RT}
theorem uc {x:Str}{pos:Pos}{n:Int}{t:Tok}(hm:X.mg x=some (.int n t))(hg:Gl X x:=by rfl)(hd:Nr x:=by decide):pN X (.Name x pos) Γ n:=λσ H0 R0 H R E H' Q q=>eS (iS (v:=.int n) hg hm ⟨t,rfl⟩ hd) q
end
section
variable {prog:K7}{w:World}{A:La}{E:Value->K3->Prop}{s:K3}
end
section
variable {X:Cx}{Γ Γ1 Γ2 Γ3:Ga}{α β γ δ:Type}{N:Ga->Prop}{T:RT}
end
section
variable {X:Cx}{Γ Γ1 Γ2 Γ3:Ga}{α β γ δ:Type}{N:Ga->Prop}{T:RT}
theorem rP {e:Expr}{pos:Pos}{r:Rep α}{y:α}(he:EV X e Γ r y Γ1)(h:N Γ1)(NU:K9 e none pos.line X.env=pure false:=by rfl):W1 X (.Expr e pos) Γ N T:=λσ H0 R0 H R E D dn dr=>
 sS (dY aJ NU) (he σ H0 R0 H R E _ λv H1 R1 E1 s1 e1=>dn σ H1 R1 _ E1 s1 h)
theorem wq (i:Nat){x:Str}{b:Expr}{p1 p2 p3 ap cp:Pos}{c0:Nat}{r:Rep α}{a:Addr}{as:Ig}{Nz:List (List α)}{xs:List α}{k:Int}{j:Nat}{z:α}(hb:EV X b Γ af k Γ)(hΓ:Γ[i]?=some (.ob (eK r a as Nz)))(hk:eR Nz.length k=some j)(hx:Nz[j]?=some (z::xs))
 (hN:X.N[i]?=some x:=by rfl) (hv:autoParam (bZ X.env.scope x) NC)
 (hd:Nr x:=by decide) (Np:NA x:=by decide) (PV:fQ b:=by exact λ_ _=>rfl)
 (Nv:Li (.Subscript (.Name x p1) b p2) "pop" X.env (eval (.Subscript (.Name x p1) b p2) X.env)=eval (.Subscript (.Name x p1) b p2) X.env:=by rfl)
 (NN:((Lb cp (K2 [.Constant (.int 0) c0 p3] X.env)).all (λx=> !x.1)&&(LH cp (Lq [] X.env)).all (λx=>x.1.isSome)
  &&decide ([Expr.Constant (.int 0) c0 p3].length + ([]:List Ll).length + (if([]:List Ll).isEmpty then 0 else 1) < 30))=true:=by rfl)
 (hline:(ap.endLine==cp.line)=true:=by rfl) (hs:K2 [.Constant (.int 0) c0 p3] X.env=(false,eval (.Constant (.int 0) c0 p3) X.env)::K2 [] X.env:=by rfl):EV X (.Call (.Attribute (.Subscript (.Name x p1) b p2) "pop" ap) [.Constant (.int 0) c0 p3] [] cp) Γ r z (Γ.set i (.ob (eK r a as (Nz.set j xs)))):=λσ H0 R0 H R E Q q=>by
 refine eS (iG Mr PySem.F.slot_list_pop PySem.F.type_list_pop yW aJ (aH eU bJ hs) Nv NN hline hs rfl) ?_
 refine p9 i hb hΓ hk E (λc H1 R1 E1 s1 hc=>?_) hN hv hd Np PV
 obtain⟨⟨v,Q6,rfl,ha1,QV,OO⟩,hR1⟩:=E1.ent i _ hΓ
 obtain⟨ws,q1,q2⟩:=QV.2 j c _ hc hx
 obtain⟨n1,n2⟩:=Jh.mp OO
 have cm:c∈as:=IQ hc
 cases q2 with
 | cons hw ht=>
   rename_i w Q9
   refine⟨.inl ⟨rfl,_,bt.of q1⟩,c,_,0,0,w,rfl,rfl,q1,by decide,by decide,LX (by decide) (by simp),rfl,?_⟩
   refine q w _ R1 (E1.mv (en:=.ob (eK r a as (Nz.set j xs))) hΓ (IK _ cm) ⟨⟨.ref a,Q6,rfl,?_,QV.put n2 hc ht,OO⟩,hR1⟩ λc w=>.inl w) s1 hw
   rw[aM (show a≠c from λz=>n1 (z▸cm))];exact ha1
def z4 (X:Cx)(Oq:List Stmt)(Γ:Ga)(N:Ga->Prop)(T:RT):Prop:=
 ∀(σ:St) (H0 R0 H R:Hp),aq X.K σ H0 R0 H R Γ->∀D:Ends,(∀σ' H' R' Γ',aq X.K σ' H0 R0 H' R' Γ'->ar R R'->N Γ'->D.nx σ' H')->(∀σ' H' R' Γ',aq X.K σ' H0 R0 H' R' Γ'->ar R R'->N Γ'->D.ct σ' H')->(∀v H' R',Ext H0 R0 H' R'->T H0 v H' R'->D.rt v H')->ie X Oq D σ H
theorem z4.ifc {c:Expr}{s1:Stmt}{p2 pos:Pos}{rest:List Stmt}{k:Bool}(hc:TV X c Γ k Γ1)(h1:k=true->W1 X s1 Γ1 N T)(h2:k=false->WS X rest Γ1 N T):z4 X (.If c [s1,.Continue p2] [] pos::rest) Γ N T:=λσ H0 R0 H R E D dn dc dr=>by
 refine oI (gh rK dI) (sS (Ab jH (gh rK (sX rZ)) dI) (hc σ H0 R0 H R E _ λH1 R1 E1 s1'=>?_))
 cases k with
 | true=>exact jB (h1 rfl σ H0 R0 H1 R1 E1 _ (λσ2 H2 R2 Γ2 E2 s2 n2=>dc σ2 H2 R2 Γ2 E2 (s1'.trans s2) n2) dr)
 | false=>exact jD (aW (X:=X) (Γ:=Γ1) (N:=λΓ'=>Γ'=Γ1) (T:=T) rfl σ H0 R0 H1 R1 E1 _ (λσ2 H2 R2 Γ2 E2 s2 n2=>by
  subst n2
  exact h2 rfl σ2 H0 R0 H2 R2 E2 D (λσ3 H3 R3 Γ3 E3 s3 n3=>dn σ3 H3 R3 Γ3 E3 (s1'.trans (s2.trans s3)) n3) dr) dr)
theorem yn {c:Expr}{body:List Stmt}{pos:Pos}(I:Nat->Ga->Prop){m0:Nat}(h0:I m0 Γ)
 (Ov:∀(m:Nat) (Γ:Ga),I m Γ->∃(k:Bool) (Γ':Ga),TV X c Γ k Γ'/\(k=true->z4 X body Γ' (λΓ''=>∃m',m' < m/\I m' Γ'') T)/\(k=false->N Γ'))
 (hp:LU (model X.prog X.w) X.A X.env X.xe:=by exact LU.never):W1 X (.While c body [] pos) Γ N T:=λσ H0 R0 H R E D dn dr=>by
 refine sS (p7 hp jH dI) ?_
 refine⟨λm σ' H'=>∃R' Γ',aq X.K σ' H0 R0 H' R' Γ'/\ar R R'/\I m Γ',⟨m0,R,Γ,E,ar.refl _,h0⟩,?_⟩
 rintro m σ' H' ⟨R',Γ',E',s',hI⟩
 obtain⟨k,Γ2,ht,h1,h2⟩:=Ov m Γ' hI
 refine ht σ' H0 R0 H' R' E' _ λH1 R1 E1 s1=>?_
 cases k with
 | true=>
   refine jB ⟨_,λσ2 H2 h=>h,h1 rfl σ' H0 R0 H1 R1 E1 _ (λσ3 H3 R3 Γ3 E3 s3 h3=>?_) (λσ3 H3 R3 Γ3 E3 s3 h3=>?_) dr⟩
   ·obtain⟨m',hm,Tw⟩:=h3
    exact⟨m',hm,R3,Γ3,E3,s'.trans (s1.trans s3),Tw⟩
   ·obtain⟨m',hm,Tw⟩:=h3
    exact⟨m',hm,R3,Γ3,E3,s'.trans (s1.trans s3),Tw⟩
 | false=>exact jD (dn σ' H1 R1 Γ2 E1 (s'.trans s1) (h2 rfl))
end
section
variable {X:Cx}{Γ Γ1 Γ2 Γ3:Ga}{α β γ δ:Type}{N:Ga->Prop}{T:RT}
def Gr (l:Ig):jv where
 fp:=l
 R:=λ_ H _ _=>∀a∈l,H a≠none
 loc:=λhH _ h a ha=>by rw[hH a ha];exact h a ha
 has:=λh=>h
abbrev rn (α:Type):=MP->List Pk->List α->List α->(List α->List α->RT)->Prop
def rG (r:Rep α)(S:rn α)(K:MP):Sp:=λvs H Q _=>∃R us a b xs ys ws zs ps T,vs=us++[.ref a,.ref b]/\ar R H/\gu K R us ps/\a≠b/\R a=none/\R b=none/\H a=some (.lst ws)/\H b=some (.lst zs)/\PySem.Paired (r.R K R) ws xs/\PySem.Paired (r.R K R) zs ys/\S K ps xs ys T/\
 ∀v H' R' Q9 RU N7 Ou,Ext (eO H [a,b]) R H' R'->H' a=some (.lst Q9)->H' b=some (.lst RU)->R' a=none->R' b=none->PySem.Paired (r.R K R') Q9 N7->PySem.Paired (r.R K R') RU Ou->T N7 Ou (eO H [a,b]) v H' R'->Q v H'
theorem yV (i j:Nat){r:Rep α}{S:rn α}{x y z:Str}{k:Nat}{e0 e1 e2:Expr}{p p1 p2 p3 pos:Pos}{r0:Rep β}{x0:β}{r1:Rep γ}{x1:γ}{r2:Rep δ}{x2:δ}{a b:Addr}{xs ys:List α}{Pd:List α->List α->Prop}(C:ax X.prog X.w X.K X.mg X.base x k (rG r S X.K))(hr:bI k X.A)(Ox:i≠j)(h0:EV X e0 Γ r0 x0 Γ)(h1:EV X e1 Γ r1 x1 Γ)(h2:EV X e2 Γ r2 x2 Γ)(hΓ:Γ[i]?=some (.ob (cN a r xs)))(hΓj:Γ[j]?=some (.ob (cN b r ys)))
 (hS:S X.K [⟨r0,x0⟩,⟨r1,x1⟩,⟨r2,x2⟩] xs ys (λN7 Ou=>bL X.K fI λ_=>Pd N7 Ou)) (h:∀N7 Ou,Pd N7 Ou->N ((Γ.set i (.ob (cN a r N7))).set j (.ob (cN b r Ou))))
 (hg:Gl X x:=by rfl) (Nx:Nr x:=by decide) (s0:K2 (e0::e1::e2:: .Name y p1::[.Name z p2]) X.env=(false,eval e0 X.env)::K2 (e1::e2:: .Name y p1::[.Name z p2]) X.env:=by rfl) (s1:K2 (e1::e2:: .Name y p1::[.Name z p2]) X.env=(false,eval e1 X.env)::K2 (e2:: .Name y p1::[.Name z p2]) X.env:=by rfl)
 (s2:K2 (e2:: .Name y p1::[.Name z p2]) X.env=(false,eval e2 X.env)::K2 (.Name y p1::[.Name z p2]) X.env:=by rfl) (s3:K2 (.Name y p1::[.Name z p2]) X.env=(false,eval (.Name y p1) X.env)::K2 [.Name z p2] X.env:=by rfl) (s4:K2 [.Name z p2] X.env=(false,eval (.Name z p2) X.env)::K2 [] X.env:=by rfl) (Nw:(Lb p3 (K2 (e1::e2:: .Name y p1::[.Name z p2]) X.env)).any (·.1)=false:=by rfl)
 (hN:X.N[i]?=some y:=by rfl) (hv:autoParam (bZ X.env.scope y) NC) (hd:Nr y:=by decide) (Np:NA y:=by decide)
 (Tv:X.N[j]?=some z:=by rfl) (SM:autoParam (bZ X.env.scope z) NC) (Tg:Nr z:=by decide) (Qd:NA z:=by decide)
 (NU:K9 (.Call (.Name x p) (e0::e1::e2:: .Name y p1::[.Name z p2]) [] p3) none pos.line X.env=pure false:=by rfl):W1 X (.Expr (.Call (.Name x p) (e0::e1::e2:: .Name y p1::[.Name z p2]) [] p3) pos) Γ N T:=λσ H0 R0 H R E D dn dr=>by
 obtain⟨f,fd,pn,F,hm,hk,hb⟩:=C.ex
 refine sS (dY (hZ F hr hg hm hk hb .nil kC (aH aJ (aH aJ (aH aJ (aH (ba hN hv hd Np) (aH (ba Tv SM Tg Qd) bJ s4) s3) s2) s1) s0) Nx s0 Nw) NU) ?_
 refine h0 σ H0 R0 H R E _ λv0 H1 R1 E1 q1 g0=>h1 σ H0 R0 H1 R1 E1 _ λv1 H2 R2 E2 q2 g1=>h2 σ H0 R0 H2 R2 E2 _ λv2 H3 R3 E3 q3 g2=>?_
 obtain⟨ea,⟨ws,ha,pa⟩,OQ⟩:=eX (E3.ent i _ hΓ)
 obtain⟨eb,⟨zs,Oc,pb⟩,Og⟩:=eX (E3.ent j _ hΓj)
 refine⟨.ref a,at_of ea,.ref b,at_of eb,?_⟩
 refine⟨R3,[v0,v1,v2],a,b,xs,ys,ws,zs,_,_,rfl,E3.sub,.cons (r0.mono (q2.trans q3) g0) (.cons (r1.mono q3 g1) (.cons g2 .nil)),λe=>Ox (E3.ds i j _ _ a hΓ hΓj (II.mpr rfl) (by rw[e];exact II.mpr rfl)),OQ,Og,ha,Oc,pa,pb,hS,λv H' R' Q9 RU N7 Ou xx N8 Qe QG Qg pa' Sv t=>?_⟩
 obtain⟨_,_,hP⟩:=t
 refine dn σ H' R' _ (E3.xj (B':=cN a r N7) (C':=cN b r Ou) Ox hΓ hΓj xx ?_ ?_ (λc hc=>hc) λc hc=>hc) (q1.trans (q2.trans (q3.trans xx.r))) (h N7 Ou hP)
 ·rw[ea];exact gj N8 QG pa'
 ·rw[eb];exact gj Qe Qg Sv
theorem vF (j:Nat){r:Rep α}{S:rn α}{x z:Str}{k:Nat}{e0 e1 e2 e3:Expr}{p p2 p3 pos:Pos}{r0:Rep β}{x0:β}{r1:Rep γ}{x1:γ}{r2:Rep δ}{x2:δ}{b:Addr}{xs ys:List α}{Pd:List α->List α->Prop}(C:ax X.prog X.w X.K X.mg X.base x k (rG r S X.K))(hr:bI k X.A)(h0:EV X e0 Γ r0 x0 Γ)(h1:EV X e1 Γ r1 x1 Γ)(h2:EV X e2 Γ r2 x2 Γ)(h3:aE X e3 Γ r xs Γ)(hΓj:Γ[j]?=some (.ob (cN b r ys)))
 (hS:S X.K [⟨r0,x0⟩,⟨r1,x1⟩,⟨r2,x2⟩] xs ys (λN7 Ou=>bL X.K fI λ_=>Pd N7 Ou)) (h:∀N7 Ou,Pd N7 Ou->N (Γ.set j (.ob (cN b r Ou))))
 (hg:Gl X x:=by rfl) (Nx:Nr x:=by decide) (s0:K2 (e0::e1::e2::e3::[.Name z p2]) X.env=(false,eval e0 X.env)::K2 (e1::e2::e3::[.Name z p2]) X.env:=by rfl) (s1:K2 (e1::e2::e3::[.Name z p2]) X.env=(false,eval e1 X.env)::K2 (e2::e3::[.Name z p2]) X.env:=by rfl)
 (s2:K2 (e2::e3::[.Name z p2]) X.env=(false,eval e2 X.env)::K2 (e3::[.Name z p2]) X.env:=by rfl) (s3:K2 (e3::[.Name z p2]) X.env=(false,eval e3 X.env)::K2 [.Name z p2] X.env:=by rfl) (s4:K2 [.Name z p2] X.env=(false,eval (.Name z p2) X.env)::K2 [] X.env:=by rfl) (Nw:(Lb p3 (K2 (e1::e2::e3::[.Name z p2]) X.env)).any (·.1)=false:=by rfl)
 (Tv:X.N[j]?=some z:=by rfl) (SM:autoParam (bZ X.env.scope z) NC) (Tg:Nr z:=by decide) (Qd:NA z:=by decide)
 (NU:K9 (.Call (.Name x p) (e0::e1::e2::e3::[.Name z p2]) [] p3) none pos.line X.env=pure false:=by rfl):W1 X (.Expr (.Call (.Name x p) (e0::e1::e2::e3::[.Name z p2]) [] p3) pos) Γ N T:=λσ H0 R0 H R E D dn dr=>by
 obtain⟨f,fd,pn,F,hm,hk,hb⟩:=C.ex
 refine sS (dY (hZ F hr hg hm hk hb .nil kC (aH aJ (aH aJ (aH aJ (aH aJ (aH (ba Tv SM Tg Qd) bJ s4) s3) s2) s1) s0) Nx s0 Nw) NU) ?_
 refine h0 σ H0 R0 H R E _ λv0 H1 R1 E1 q1 g0=>h1 σ H0 R0 H1 R1 E1 _ λv1 H2 R2 E2 q2 g1=>h2 σ H0 R0 H2 R2 E2 _ λv2 H3 R3 E3 q3 g2=>h3 σ H0 R0 H3 R3 E3 _ λa ws H4 R4 E4 q4 ha OQ ha0 off pa _=>?_
 obtain⟨eb,⟨zs,Oc,pb⟩,Og⟩:=eX (E4.ent j _ hΓj)
 refine⟨.ref b,at_of eb,?_⟩
 have Qw:a≠b:=λe=>off j _ hΓj (by rw[e];exact II.mpr rfl)
 refine⟨R4,[v0,v1,v2],a,b,xs,ys,ws,zs,_,_,rfl,E4.sub,.cons (r0.mono (q2.trans (q3.trans q4)) g0) (.cons (r1.mono (q3.trans q4) g1) (.cons (r2.mono q4 g2) .nil)),Qw,OQ,Og,ha,Oc,pa,pb,hS,λv H' R' Q9 RU N7 Ou xx N8 Qe QG Qg pa' Sv t=>?_⟩
 obtain⟨_,_,hP⟩:=t
 have hjl:j < Γ.length:=(IG.mp hΓj).1
 have E5:=E4.j7 (i:=j) (en:=.ob (Gr [a,b])) hΓj ⟨⟨.ref b,eb,λc hc=>by
  rcases IY.mp hc with rfl | hc
  ·rw[ha];exact KH _
  ·rw[II.mp hc,Oc];exact KH _⟩,λc hc=>by
  rcases IY.mp hc with rfl | hc
  ·exact OQ
  ·rw[II.mp hc];exact Og⟩ λc hc=>by
  rcases IY.mp (show c∈[a,b] from hc) with rfl | hc
  ·exact⟨ha0,λk e _ qk w=>off k e qk w⟩
  ·rw[II.mp hc]
   exact⟨E4.nw j _ b hΓj (II.mpr rfl),λk e hk qk w=>hk (E4.ds k j e _ b qk hΓj w (II.mpr rfl))⟩
 have E6:=E5.uA (i:=j) (B:=Gr [a,b]) (B':=cN b r Ou) (Ji hjl) xx (by rw[eb];exact gj Qe Qg Sv) λc hc=>by
  rw[II.mp (show c∈[b] from hc)];exact IK _ (II.mpr rfl)
 rw[set_set] at E6
 exact dn σ H' R' _ E6 (q1.trans (q2.trans (q3.trans (q4.trans xx.r)))) (h N7 Ou hP)
end
section
variable {P:K7}{w:World}{K:MP}{mg:HZ}{base:Heap}{α:Type}
theorem sd {K:MP}{R H:Hp}{a b:Addr}{r:Rep α}{xs ys:List α}{ws zs:List V}{u0 u1 u2:V}{p0 p1 p2:Pk}{N:Ic}(s:ar R H)(Qw:a≠b)(OQ:R a=none)(Og:R b=none)(ha:H a=some (.lst ws))(hb:H b=some (.lst zs))(pa:PySem.Paired (r.R K R) ws xs)(pb:PySem.Paired (r.R K R) zs ys)(g0:p0.r.R K R u0 p0.x)(g1:p1.r.R K R u1 p1.x)(g2:p2.r.R K R u2 p2.x)(hl:5<=N.length):
 aq K (L2.start N [u0,u1,u2,.ref a,.ref b]) (eO H [a,b]) R H R ([.im p0.r p0.x,.im p1.r p1.x,.im p2.r p2.x,.ob (cN a r xs),.ob (cN b r ys)]++Jd (N.length - 5) .no):=by
 have es:L2.start N [u0,u1,u2,.ref a,.ref b]=[some u0,some u1,some u2,some (.ref a),some (.ref b)]++Jd (N.length - 5) none:=by unfold L2.start;simp
 rw[es]
 have key:∀(i:Nat) (e:Ent),([Ent.im p0.r p0.x,.im p1.r p1.x,.im p2.r p2.x,.ob (cN a r xs),.ob (cN b r ys)]++Jd (N.length - 5) Ent.no)[i]?=some e->(i=0/\e= .im p0.r p0.x)∨(i=1/\e= .im p1.r p1.x)∨(i=2/\e= .im p2.r p2.x)∨(i=3/\e= .ob (cN a r xs))∨(i=4/\e= .ob (cN b r ys))∨e= .no:=by
  intro i e q
  match i,q with
  | 0,q=>simp at q;exact .inl ⟨rfl,q.symm⟩
  | 1,q=>simp at q;exact .inr (.inl ⟨rfl,q.symm⟩)
  | 2,q=>simp at q;exact .inr (.inr (.inl ⟨rfl,q.symm⟩))
  | 3,q=>simp at q;exact .inr (.inr (.inr (.inl ⟨rfl,q.symm⟩)))
  | 4,q=>simp at q;exact .inr (.inr (.inr (.inr (.inl ⟨rfl,q.symm⟩))))
  | i + 5,q=>
    rw[Jg (by simp)] at q
    exact .inr (.inr (.inr (.inr (.inr (J3.mp (IQ q)).2))))
 refine⟨⟨mJ,ar.refl _,s,λ_ _=>rfl⟩,λi e q=>?_,λi e d q w=>?_,λi j e e' d q q' w w'=>?_,by simp⟩
 ·rcases key i e q with⟨rfl,rfl⟩ | ⟨rfl,rfl⟩ | ⟨rfl,rfl⟩ | ⟨rfl,rfl⟩ | ⟨rfl,rfl⟩ | rfl
  ·exact⟨u0,rfl,g0⟩
  ·exact⟨u1,rfl,g1⟩
  ·exact⟨u2,rfl,g2⟩
  ·exact gj ha OQ pa
  ·exact gj hb Og pb
  ·trivial
 ·rcases key i e q with⟨rfl,rfl⟩ | ⟨rfl,rfl⟩ | ⟨rfl,rfl⟩ | ⟨rfl,rfl⟩ | ⟨rfl,rfl⟩ | rfl
  ·cases w
  ·cases w
  ·cases w
  ·rw[II.mp (show d∈[a] from w)];exact iN (by simp)
  ·rw[II.mp (show d∈[b] from w)];exact iN (by simp)
  ·cases w
 ·rcases key i e q with⟨rfl,rfl⟩ | ⟨rfl,rfl⟩ | ⟨rfl,rfl⟩ | ⟨rfl,rfl⟩ | ⟨rfl,rfl⟩ | rfl
  ·cases w
  ·cases w
  ·cases w
  ·rcases key j e' q' with⟨rfl,rfl⟩ | ⟨rfl,rfl⟩ | ⟨rfl,rfl⟩ | ⟨rfl,rfl⟩ | ⟨rfl,rfl⟩ | rfl
   ·cases w'
   ·cases w'
   ·cases w'
   ·rfl
   ·exact absurd ((II.mp (show d∈[a] from w)).symm.trans (II.mp (show d∈[b] from w'))) Qw
   ·cases w'
  ·rcases key j e' q' with⟨rfl,rfl⟩ | ⟨rfl,rfl⟩ | ⟨rfl,rfl⟩ | ⟨rfl,rfl⟩ | ⟨rfl,rfl⟩ | rfl
   ·cases w'
   ·cases w'
   ·cases w'
   ·exact absurd ((II.mp (show d∈[a] from w')).symm.trans (II.mp (show d∈[b] from w))) Qw
   ·rfl
   ·cases w'
  ·cases w
theorem sC {r:Rep α}{S:rn α}{x qual:Str}{st:Stmt}{f:Addr}{fd:Ld}{N ps:Ic}{k:Nat}(F:bC K x qual st f fd)(Sc:aF N ps (ag st))(hm:mg x=some (.ref f))(hb:Binds K fd ps [])(hps:ps.length=5)(len:∀xs ys qs T,S K qs xs ys T->∃q0 q1 q2,qs=[q0,q1,q2])
 (NH:∀(Nl:Value) (A:La) (outer:List Env) (s:K3) (H:Hp) (E:XK) (a b:Addr) (xs ys:List α) (q0 q1 q2:Pk) (T:List α->List α->RT),bI k (A.deeper (KP qual (ag st) s.heap.objs.size f Nl))->S K [q0,q1,q2] xs ys T->
  WS (bQ dW P w K mg base N qual (ag st) f Nl A outer s H E).cO (bG st) ([.im q0.r q0.x,.im q1.r q1.x,.im q2.r q2.x,.ob (cN a r xs),.ob (cN b r ys)]++Jd (N.length - 5) .no) (λΓ=>∃N7 Ou,Γ[3]?=some (.ob (cN a r N7))/\Γ[4]?=some (.ob (cN b r Ou))/\∀H0 H' R',T N7 Ou H0 .Nu H' R') (λ_ _ _ _=>False)):ax P w K mg base x (k + 1) (rG r S K):=by
 refine⟨f,fd,ps,?_,hm,F.kp,hb⟩
 refine F.ok Sc (λvs H Q E h=>?_) (λNl A outer s H vs Q E hr h=>?_)
 ·obtain⟨R,us,a,b,xs,ys,ws,zs,qs,T,rfl,_,p,_,_,_,_,_,_,_,hS,_⟩:=h
  obtain⟨q0,q1,q2,rfl⟩:=len xs ys qs T hS
  rw[IL,p.length,hps];rfl
 ·obtain⟨R,us,a,b,xs,ys,ws,zs,qs,T,rfl,sR,p,Qw,OQ,Og,ha,Oc,pa,pb,hS,q⟩:=h
  obtain⟨q0,q1,q2,rfl⟩:=len xs ys qs T hS
  cases p with
  | cons g0 p=>cases p with
    | cons g1 p=>cases p with
      | cons g2 p=>
        cases p
        have hl:5<=N.length:=by
         have:=congrArg List.length Sc.pre
         rw[Jm] at this
         omega
        refine⟨_,dI,NH Nl A outer s H E a b xs ys q0 q1 q2 T hr hS (L2.start N _) (eO H [a,b]) R H R (sd sR Qw OQ Og ha Oc pa pb g0 g1 g2 hl) {nx:=λ_ H'=>Q .Nu H',rt:=Q} (λσ' H' R' Γ' E' _ ⟨N7,Ou,h3,h4,t⟩=>?_) λv H' R' xx t=>t.elim⟩
        obtain⟨_,⟨Q9,N8,pa'⟩,QG⟩:=eX (E'.ent 3 _ h3)
        obtain⟨_,⟨RU,Qe,Sv⟩,Qg⟩:=eX (E'.ent 4 _ h4)
        exact q .Nu H' R' Q9 RU N7 Ou E'.ext N8 Qe QG Qg pa' Sv (t _ _ _)
end
theorem WS.unbox {X:Cx}{Γ:Ga}{α:Type}{N:Ga->Prop}{T:RT}(i:Nat){Oq:List Stmt}{a:Addr}{r:Rep α}{xs:List α}(hΓ:Γ[i]?=some (.ob (cN a r xs)))(h:WS X Oq (Γ.set i (.mu r xs)) N T):WS X Oq Γ N T:=λσ H0 R0 H R E D dn dr=>by
 obtain⟨ea,⟨vs,ha,pp⟩,hR⟩:=eX (E.ent i _ hΓ)
 refine h σ H0 R0 H R (E.tell hΓ ⟨a,vs,ea,ha,hR,pp⟩ λb w=>?_) D dn dr
 have:=cy.mp (show b∈refOf (σ[i]?).join from w)
 rw[ea] at this
 cases this
 exact II.mpr rfl
abbrev Lay:=Int×Int×Int×Bool
def gW:Rep Lay:=⟨λ_ H v x=>∃a,v= .ref a/\H a=some (.tup [.int x.1,.int x.2.1,.int x.2.2.1,.bl x.2.2.2]),λs ⟨a,e,q⟩=>⟨a,e,s _ _ q⟩⟩
theorem uP {X:Cx}{scope:Scope}{cl:List (Str×Addr)}{own fr:Ic}{ix:List Nat}(S:dj X scope cl own fr ix){C:Addr}{N':Ic}{s:K3}{H:Hp}{ex:Ig}(x:Str)(hx:(aL X scope cl C N' s H ex).env.scope.names.lookup x=some .cell):∃c,(aL X scope cl C N' s H ex).env.cells.lookup x=some c:=by
 have hx:(relabel scope X.env).names.lookup x=some .cell:=hx
 obtain⟨k',e,z⟩:=fM hx
 rcases z with rfl | ⟨rfl,_⟩
 ·have:∀(l:List (Str×LF)),l.lookup x=some .cell->∃y∈l,y.2= .cell:=by
   intro l
   induction l with
   | nil=>intro h;cases h
   | cons a l ih=>
     intro h
     rw[JJ] at h
     split at h
     ·exact⟨a,IT,Option.some.inj h⟩
     ·obtain⟨y,hy,e⟩:=ih h
      exact⟨y,IK _ hy,e⟩
  obtain⟨y,hy,e2⟩:=this _ e
  exact absurd e2 (S.PN y hy)
 ·exact S.has x e
section
variable {X:Cx}{Γ Γ1 Γ2 Γ3:Ga}{α β γ δ:Type}{N:Ga->Prop}{T:RT}
theorem mV {a b c d:Expr}{k:Nat}{pos:Pos}{x y z:Int}{w:Bool}(h:HA X [a,b,c,d] Γ [⟨af,x⟩,⟨af,y⟩,⟨af,z⟩,⟨aX,w⟩] Γ1):EV X (.Tuple [a,b,c,d] k pos) Γ gW (x,y,z,w) Γ1:=by
 intro σ H0 R0 H R E Q q
 refine eS (lD js) (h σ H0 R0 H R E _ λvs H1 R1 E1 s1 p1=>?_)
 cases p1 with
 | cons a1 t=>cases t with
   | cons a2 t=>cases t with
     | cons a3 t=>cases t with
       | cons a4 t=>
         cases t
         cases a1;cases a2;cases a3;cases a4
         refine⟨by show 4<=K4;decide,λp hp=>?_⟩
         have s2:ar R1 (upd R1 p (.tup [V.int x,V.int y,V.int z,V.bl w])):=ar.fresh (E1.sub.free hp) _
         exact q _ _ (upd R1 p (.tup [V.int x,V.int y,V.int z,V.bl w])) (E1.grow (Ext.fresh E1.sub hp _)) (s1.trans s2) ⟨p,rfl,aA⟩
theorem CH (i1 i2 i3 i4:Nat){x1 x2 x3 x4:Str}{k:Nat}{p1 p2 p3 p4 pos:Pos}(hc:X.calm=true:=by rfl)(hN:X.N.Nodup:=by first | assumption | decide)
 (h1:X.N[i1]?=some x1:=by rfl) (l1:autoParam (Loc X.env.scope x1) Oe) (f1:autoParam (X.fn x1=true∨X.env.scope.names.lookup x1=some .local) Od)
 (h2:X.N[i2]?=some x2:=by rfl) (l2:autoParam (Loc X.env.scope x2) Oe) (f2:autoParam (X.fn x2=true∨X.env.scope.names.lookup x2=some .local) Od)
 (h3:X.N[i3]?=some x3:=by rfl) (l3:autoParam (Loc X.env.scope x3) Oe) (f3:autoParam (X.fn x3=true∨X.env.scope.names.lookup x3=some .local) Od)
 (h4:X.N[i4]?=some x4:=by rfl) (l4:autoParam (Loc X.env.scope x4) Oe) (f4:autoParam (X.fn x4=true∨X.env.scope.names.lookup x4=some .local) Od):
 BG X (.Tuple [.Name x1 p1,.Name x2 p2,.Name x3 p3,.Name x4 p4] k pos) gW (λw Γ=>(((Γ.set i1 (.im af w.1)).set i2 (.im af w.2.1)).set i3 (.im af w.2.2.1)).set i4 (.im aX w.2.2.2)):=λσ H0 R0 H R Γ v w E h Q q=>by
 obtain⟨a,rfl,ha⟩:=h
 exact gS (xI hc (eh (eu hN h1 l1 f1) (eh (eu hN h2 l2 f2) (eh (eu hN h3 l3 f3) (eh (eu hN h4 l4 f4) lU))))) ⟨a,_,rfl,ei.of (E.sub _ _ ha),rfl,_,_,rfl,_,_,rfl,_,_,rfl,_,_,rfl,rfl,q _ ((((E.set i1 rfl).set i2 rfl).set i3 rfl).set i4 rfl)⟩
def bTL (a b c:Addr)(xs:Ib)(rs:List Row):jv where
 fp:=[a,b,c]
 R:=λK H R v=>v= .ref a/\(a≠b/\a≠c/\b≠c)/\H a=some (.tup [.ref b,.ref c])/\(∃ws,H b=some (.lst ws)/\PySem.Paired (af.R K R) ws xs)/\∃zs,H c=some (.lst zs)/\PySem.Paired (bA.R K R) zs rs
 loc:=λhH hR ⟨e,n,ha,⟨ws,hb,pb⟩,zs,hc,pc⟩=>⟨e,n,(hH _ (by simp)).trans ha,⟨ws,(hH _ (by simp)).trans hb,Paired.map (λ_ _=>af.mono hR) pb⟩,zs,(hH _ (by simp)).trans hc,Paired.map (λ_ _=>bA.mono hR) pc⟩
 has:=λ⟨_,_,ha,⟨ws,hb,_⟩,zs,hc,_⟩ x hx=>by
  simp only[IY,Jy,or_false] at hx
  rcases hx with rfl | rfl | rfl
  ·rw[ha];exact KH _
  ·rw[hb];exact KH _
  ·rw[hc];exact KH _
def B6 (K:MP)(P:Ib->List Row->Prop):RT:=λH0 v H' R'=>∃a b c xs rs,(bTL a b c xs rs).R K H' R' v/\(∀x∈[a,b,c],H0 x=none/\R' x=none)/\P xs rs
theorem Bb (i:Nat){e0:Expr}{y:Str}{k:Nat}{p1 p2 pos:Pos}{xs:Ib}{rs:List Row}{P:Ib->List Row->Prop}(h0:aE X e0 Γ af xs Γ)(hΓ:Γ[i]?=some (.mu bA rs))(h:P xs rs)
 (hN:X.N[i]?=some y:=by rfl) (hv:autoParam (bZ X.env.scope y) NC) (hd:Nr y:=by decide) (Np:NA y:=by decide)
 (s0:K2 [e0,.Name y p1] X.env=(false,eval e0 X.env)::K2 [.Name y p1] X.env:=by rfl) (s1:K2 [.Name y p1] X.env=(false,eval (.Name y p1) X.env)::K2 [] X.env:=by rfl):
 W1 X (.Return (some (.Tuple [e0,.Name y p1] k p2)) pos) Γ N (B6 X.K P):=λσ H0 R0 H R E D dn dr=>by
 refine sS (fW (lD (aH aJ (aH (ba hN hv hd Np) bJ s1) s0))) ?_
 refine h0 σ H0 R0 H R E _ λb ws H1 R1 E1 s1 hb Og Sg off pb _=>?_
 obtain⟨c,zs,ec,hc,Tt,pc⟩:=E1.ent i _ hΓ
 refine⟨.ref c,at_of ec,by show 2<=K4;decide,λp hp=>?_⟩
 have hc0:H0 c=none:=E1.nw i _ c hΓ (cy.mpr ec)
 have npb:p≠b:=λe=>by rw[e,hb] at hp;cases hp
 have npc:p≠c:=λe=>by rw[e,hc] at hp;cases hp
 have nbc:b≠c:=λe=>off i _ hΓ (by rw[e];exact cy.mpr ec)
 refine dr _ _ R1 (E1.grow (Ext.c7 E1.sub hp (.tup [.ref b,.ref c]))).ext ⟨p,b,c,xs,rs,⟨rfl,⟨npb,npc,nbc⟩,aA,⟨ws,by rw[aM (KG npb)];exact hb,pb⟩,zs,by rw[aM (KG npc)];exact hc,pc⟩,λx hx=>?_,h⟩
 simp only[IY,Jy,or_false] at hx
 rcases hx with rfl | rfl | rfl
 ·exact⟨E1.ext.h.free hp,E1.sub.free hp⟩
 ·exact⟨Sg,Og⟩
 ·exact⟨hc0,Tt⟩
end
section
variable {X:Cx}{Γ Γ1 Γ2 Γ3:Ga}{α β γ δ:Type}{N:Ga->Prop}{T:RT}
theorem la {S:cf}{x:Str}{k:Nat}{e:Expr}{es:Ii}{p pos:Pos}{ps:List Pk}{r:Rep α}{Pd:List α->Prop}{ys:List α}(C:ax X.prog X.w X.K X.mg X.base x k (aG S X.K))(hr:bI k X.A)(ha:HA X (e::es) Γ ps Γ1)(hS:S X.K ps (iF X.K r Pd))(hq:∀zs,Pd zs->zs=ys)
 (hg:Gl X x:=by rfl) (Nx:Nr x:=by decide) (he:K2 (e::es) X.env=(false,eval e X.env)::K2 es X.env:=by rfl) (Nw:(Lb pos (K2 es X.env)).any (·.1)=false:=by rfl):aE X (.Call (.Name x p) (e::es) [] pos) Γ r ys Γ1:=λσ H0 R0 H R E Q q=>
 dS C hr ha hS E (λH1 R1 v H' R' E1 s1 xx t=>by
  obtain⟨a,vs,zs,rfl,h0,h1,h2,p,z,hz⟩:=t
  have:=hq zs hz
  subst this
  exact q a vs H' R' (E1.grow xx) (s1.trans xx.r) h1 h2 (E1.ext.h.free h0) (E1.off h0) p z) hg Nx he Nw
end
theorem sq {P:K7}{w:World}{K:MP}{mg:HZ}{base:Heap}{N:Ic}{qual:Str}{scope:Scope}{f:Addr}{cd:Value}{A:La}{outer:List Env}{s:K3}{H:Hp}{E:XK}
 {Nh:Ia} {σ:St} {H1 H':Hp} {s1 s':K3} {e T:Addr} {cls:Value} (I1:Inv (bQ (fJ P w) P w K mg base N qual scope f cd A outer s H E) Nh σ H1 s1)
 (ho:s'.os=s1.os) (bare:KW s'.gens) (un:Un (cG (bQ (fJ P w) P w K mg base N qual scope f cd A outer s H E).stack) [] H1 H' s1.heap s'.heap) (Nm:cQ P w H' s'.heap) (Oo:vq s1.heap s'.heap H' e T cls) (q:E cls none H'):
 (bQ (fJ P w) P w K mg base N qual scope f cd A outer s H E).xe (.ref e) s':=by
 have OA:s1.heap.FunFrames base (KP qual scope s.heap.objs.size f cd::outer):=I1.stack
 have Oy:∀b∈cG (KP qual scope s.heap.objs.size f cd::outer),H1 b=none:=I1.gT
 have un:Un (cG (KP qual scope s.heap.objs.size f cd::outer)) [] H1 H' s1.heap s'.heap:=un
 have hfs:∀b∈cG (KP qual scope s.heap.objs.size f cd::outer),H' b=none:=λb hb=>by
  obtain⟨_,o,r,_⟩:=OA.mem hb
  exact un.free b o r (Oy b hb) Jy
 have Rr:∀b∈cG (KP qual scope s.heap.objs.size f cd::outer),∀o,s1.heap.get? b=some o->∃sl,s'.heap.get? b=some {o with slots:=sl}:=λb hb o r=>un.slot b o r (Oy b hb) hb Jy
 have Sa:s'.heap.FunFrames (MV s'.heap (e::T::cG (KP qual scope s.heap.objs.size f cd::outer))) (KP qual scope s.heap.objs.size f cd::outer):=
  gC (h0:=s'.heap) (fs:=e::T::cG (KP qual scope s.heap.objs.size f cd::outer)) OA Rr λb hb=>IK _ (IK _ hb)
 obtain⟨oe,vs,oT,ts,a0,he,hc,hd,h1,Tq,hT,Sd,h3⟩:=Oo.ex
 have Ot:Heap.FlyingW (MV s'.heap (e::T::cG (KP qual scope s.heap.objs.size f cd::outer))) (KP qual scope s.heap.objs.size f cd::outer) e cls a0 s'.heap:=
  ⟨λb o z=>M3 _ z,MW _ IT,Sa,oe,vs,T,oT,ts,he,hc,hd,h1,MW _ (IK _ IT),Tq,hT,Sd,h3⟩
 show wpAny (model P w) (A.deeper (KP qual scope s.heap.objs.size f cd)) (leaving (KP qual scope s.heap.objs.size f cd) (.ref e)) _ _ _
 refine wpAny_leaves_onW I1.ok.frames rfl Ot λh' fl up=>?_
 obtain⟨st,hen,Qa,oe2,vs2,T2,oT2,ts2,Te,PD,hd2,h12,S0,Tp,hT2,Tj,h32⟩:=fl
 have So:∀b o,s'.heap.get? b=some o->b∈cG (KP qual scope s.heap.objs.size f cd::outer)->∃sl,h'.get? b=some {o with slots:=sl}:=λb o r hb=>by
  obtain⟨_,o2,r2,nf⟩:=Sa.mem hb
  rw[r] at r2;cases r2
  exact up b o r nf
 obtain⟨u2,ok2⟩:=qJ un Nm Oo hfs st So
 have Oi:Un (cG outer) [] H H1 s.heap s1.heap:=I1.base
 have un2:Un (cG outer) [] H H' s.heap h':=by
  refine Un.shrink ((Oi.mono (fs':=cG (KP qual scope s.heap.objs.size f cd::outer)) (λb z=>?_) λ_ z=>z).trans u2) λb o r z=>?_
  ·show b∈(KP qual scope s.heap.objs.size f cd::outer).filterMap (·.frame)
   rw[Jw]
   exact IK _ z
  ·have z':b∈(KP qual scope s.heap.objs.size f cd::outer).filterMap (·.frame):=z
   rw[Jw] at z'
   rcases IY.mp z' with y | y
   ·have:=Mw r
    rw[y] at this
    exact absurd this (Ku _)
   ·exact y
 -- PB new trace was not there
 have tc:T2=T∨s'.heap.get? T2=none:=by
  cases r:s'.heap.get? T2 with
  | none=>exact .inr rfl
  | some o=>
    left
    by_cases z:T2∈e::T::cG (KP qual scope s.heap.objs.size f cd::outer)
    ·rcases IY.mp z with z | z
     ·exact absurd z Tp
     ·rcases IY.mp z with z | z
      ·exact z
      ·exfalso
       obtain⟨_,o2,r2,nf⟩:=Sa.mem z
       rw[r] at r2;cases r2
       obtain⟨sl,r3⟩:=So T2 o r z
       rw[hT2] at r3;cases r3
       exact nf ts2 Tj
    ·rw[M0 _ r z] at S0;cases S0
 have nT2:s.heap.get? T2=none:=by
  rcases tc with z | z
  ·rw[z];exact fP Oi Oo.nT
  ·exact fP Oi (fP un z)
 have fT2:H' T2=none:=by
  rcases tc with z | z
  ·rw[z];exact Oo.fT
  ·exact cQ.none_of Nm z
 exact⟨e,T2,cls,H',rfl,ho.trans I1.os,bare,un2,ok2,⟨⟨oe2,vs2,oT2,ts2,a0,Te,PD,hd2,h12,Tp,hT2,Tj,h32⟩,fP Oi Oo.ne,nT2,Oo.fe,fT2⟩,q⟩
section
variable {X:Cx}{Γ Γ1:Ga}{H0 R0:Hp}
variable {rest:List Stmt}
def RX (X:Cx)(H0 R0:Hp)(e:Expr)(Γ:Ga):Prop:=∀(σ:St) (H R:Hp),aq X.K σ H0 R0 H R Γ->∀Q:VK,eF X e σ H Q
theorem fN {e:Expr}{pos:Pos}(h:RX X H0 R0 e Γ)(NU:K9 e none pos.line X.env=pure false:=by rfl):RS X H0 R0 (.Expr e pos::rest) Γ:=λσ H R E D=>
 oI (gh rK dI) (sS (dY aJ NU) (h σ H R E _))
theorem w9 (i:Nat){x:Str}{p1 pos:Pos}{e:Expr}(h:RX X H0 R0 e Γ)(hN:X.N.Nodup:=by first | assumption | decide)(hi:X.N[i]?=some x:=by rfl)(hx:autoParam (Loc X.env.scope x) Oe)
 (hs:K9 e (some (.Name x p1)) pos.line X.env=pure false:=by rfl) (hf:autoParam (X.fn x=true∨X.env.scope.names.lookup x=some .local) Od):RS X H0 R0 (.Assign [.Name x p1] e pos::rest) Γ:=λσ H R E D=>
 oI (gh rK dI) (sS (eT hN hi hx aJ hs hf) (h σ H R E _))
theorem fg {c:Expr}{a:List Stmt}{pos:Pos}{k:Bool}(hc:TV X.cO c Γ k Γ1)(h1:k=true->RS X H0 R0 a Γ1)(h2:k=false->RS X H0 R0 rest Γ1):RS X H0 R0 (.If c a [] pos::rest) Γ:=by
 cases k with
 | true=>exact nB hc (h1 rfl)
 | false=>exact gY (N1:=λΓ'=>Γ'=Γ1) (bF hc (λh=>absurd h (by decide)) (λ_=>aW rfl)) λΓ' e=>by subst e;exact h2 rfl
theorem Aw (i:Nat){y:Str}{py NK:Pos}{tg elt iter:Expr}{ifs:Ii}{scope:Scope}{pos:Pos}{cl:List (Str×Addr)}{own fr:Ic}{ix:List Nat}(S:dj X scope cl own fr ix)(h:RX X H0 R0 iter Γ)
 (NU:K9 (.ListComp elt [⟨tg,iter,ifs,0⟩] scope pos) (some (.Name y py)) NK.line X.env=pure true:=by rfl)
 (hN:X.N.Nodup:=by first | assumption | decide) (Pg:X.N[i]?=some y:=by rfl) (hx:autoParam (Loc X.env.scope y) Oe)
 (hc:X.calm=true:=by rfl) (hs:∀x,Lc iter X.env x=pure x:=by intro _;rfl) (hf:autoParam (X.fn y=true∨X.env.scope.names.lookup y=some .local) Od):
 RS X H0 R0 (.Assign [.Name y py] (.ListComp elt [⟨tg,iter,ifs,0⟩] scope pos) NK::rest) Γ:=λσ H R E D=>by
 refine oI (gh rK dI) (sS (iI (i:=i) (g:=λv σ H Q=>∀C s Hh ex,iC (aL X scope cl C (own++fr) s Hh ex) tg v σ H Q) (tc:=λσ H Q=>∀C s Hh ex,jg (aL X scope cl C (own++fr) s Hh ex) ifs σ H Q) (te:=λσ H Q=>∀C s Hh ex,eF (aL X scope cl C (own++fr) s Hh ex) elt σ H Q) NU hN Pg hx hc S (lM aJ)
  (λC s H ex=>⟨λNh s1 σ H v u Q I r h=>h C s _ ex Nh s1 u I r,λNh s1 σ H Q I h=>h C s _ ex Nh s1 I,λNh s1 σ H Q I h=>h C s _ ex Nh s1 I⟩) hs hf) ?_)
 exact h σ H R E _
end
section
variable {P:K7}{w:World}{K:MP}{mg:HZ}{base:Heap}{N:Ic}{qual:Str}{scope:Scope}{f:Addr}{cd:Value}{A:La}{outer:List Env}{s:K3}{H R:Hp}{E:XK}{Γ Γ1:Ga}
theorem dM {S:iE}{x:Str}{k:Nat}{e:Expr}{es:Ii}{p pos:Pos}{ps:List Pk}{cls:Value}(C:cn P w K mg base x k (de S K))(hr:bI k (A.deeper (KP qual scope s.heap.objs.size f cd)))(ha:HA (bQ (fJ P w) P w K mg base N qual scope f cd A outer s H E).cO (e::es) Γ ps Γ1)(hS:S K ps (.exc cls))(q:∀H' R',Ext H R H' R'->E cls none H')
 (hg:Gl (bQ (fJ P w) P w K mg base N qual scope f cd A outer s H E) x:=by rfl) (Nx:Nr x:=by decide) (he:K2 (e::es) (bQ (fJ P w) P w K mg base N qual scope f cd A outer s H E).env=(false,eval e (bQ (fJ P w) P w K mg base N qual scope f cd A outer s H E).env)::K2 es (bQ (fJ P w) P w K mg base N qual scope f cd A outer s H E).env:=by rfl)
 (Nw:(Lb pos (K2 es (bQ (fJ P w) P w K mg base N qual scope f cd A outer s H E).env)).any (·.1)=false:=by rfl):RX (bQ (fJ P w) P w K mg base N qual scope f cd A outer s H E) H R (.Call (.Name x p) (e::es) [] pos) Γ:=λσ H1 R1 EO Q Nh s1 I=>by
 exact pY (X:=bQ (fJ P w) P w K mg base N qual scope f cd A outer s H E) C hr ha hS EO I (λs2 H2 ea T H' R' s' I2 ho bare un Nm Oo E' sR=>sq I2 ho bare un Nm Oo (q H' R' E'.ext)) hg Nx he Nw
theorem d8 {S:iE}{x qual:Str}{st:Stmt}{f:Addr}{fd:Ld}{N ps:Ic}{k:Nat}(F:bC K x qual st f fd)(Sc:aF N ps (ag st))(hm:mg x=some (.ref f))(hb:Binds K fd ps [])(len:∀qs o,S K qs o->qs.length=ps.length)(OZ:∀qs T,¬S K qs (.ret T))
 (Qc:∀(Nl:Value) (A:La) (outer:List Env) (s:K3) (H R:Hp) (E:XK) (qs:List Pk) (c:Value),bI k (A.deeper (KP qual (ag st) s.heap.objs.size f Nl))->S K qs (.exc c)->(∀H' R',Ext H R H' R'->E c none H')->
  RS (bQ (fJ P w) P w K mg base N qual (ag st) f Nl A outer s H E) H R (bG st) (dP qs N.length)):cn P w K mg base x (k + 1) (de S K):=
 DC F Sc hm hb len (λ_ _ _ _ _ _ qs T _ hS=>absurd hS (OZ qs T)) Qc
end
def jT (h base:Heap)(ea:Addr):Heap:=hideAll h ((JH h.objs.size).filter λb=>(base.get? b).isNone&&(b != ea))
structure j8 (P:K7) (w:World) (K:MP) (mg:HZ) (ok:Heap->Prop) (x:Str) (k:Nat) (sp:Sp):Prop where
 ex:∃f fd ps,(∀base,ok base->fH P w K mg base dW k f fd ps sp)/\mg x=some (.ref f)/\MZ K (.ref f)=true/\Binds K fd ps []
theorem j8.mono {P:K7}{w:World}{K:MP}{mg:HZ}{ok:Heap->Prop}{x:Str}{j k:Nat}{sp:Sp}(c:j8 P w K mg ok x j sp)(h:j<=k):j8 P w K mg ok x k sp:=by
 obtain⟨f,fd,ps,F,a,b,c⟩:=c.ex
 exact⟨f,fd,ps,λbase hb=>(F base hb).mono h,a,b,c⟩
section
variable {X:Cx}{Γ Γ1:Ga}{ea D:Addr}{oe:Obj}{Nh:Ia}{σ:St}{H:Hp}{s:K3}
variable {x:Str}{p:Pos}{i:Nat}{p1 p2:Pos}{b:Bool}
theorem ue {I:Inv X Nh σ H s}(hp:(ea,oe)∈X.pn):(jT s.heap X.base ea).get? ea=some oe:=
 hideAll_get _ (I.pin _ (IX _ hp)).1 λz=>by simp at z
theorem Inv.FJ (I:Inv X Nh σ H s)(hp:(ea,oe)∈X.pn):rO X.prog X.w X.K X.mg (jT s.heap X.base ea) X.A X.stack s H:=by
 have pin:=I.pin _ (IX _ hp)
 have sub:∀b o,X.base.get? b=some o->(jT s.heap X.base ea).get? b=some o:=λb o e=>hideAll_get _ (I.bk b o e) λz=>by
  have:=(IZ.mp z).2
  rw[e] at this;simp at this
 have fne:∀b∈cG X.stack,b≠ea:=λb hb=>by
  rintro rfl
  rcases IY.mp (I.nc b hb) with e | hb
  ·exact pin.2.2.1 e
  ·exact pin.2.2.2.1 hb
 refine⟨I.ok.frames,?_,λb o e=>⟨of_hideAll _ e,?_⟩,Nat.le_of_eq (hideAll_size _ _),?_,I.gT,I.Nm,I.bare⟩
 ·have M:=I.ok.mod
  obtain⟨mb,R7,hb⟩:=M.blt
  exact⟨M.Qx.keeps sub,M.glob.at λo e=>sub _ o e,⟨mb,R7.at λo e=>sub _ o e,hb⟩,M.nolimit.keeps sub⟩
 ·cases h:X.base.get? b with
  | some o'=>exact(I.bs b o' h).2
  | none=>
    by_cases z:b=ea
    ·rw[z];exact pin.2.1
    ·have hs:s.heap.get? b=some o:=of_hideAll _ e
     have:(jT s.heap X.base ea).get? b=none:=hideAll_none _ (IZ.mpr ⟨JG.mpr (Mw hs),by rw[h];simpa using z⟩)
     rw[this] at e;cases e
 ·refine gC (h:=s.heap) (h0:=s.heap) I.stack (λb hb o e=>⟨o.slots,e⟩) λb hb=>?_
  obtain⟨hn,o,ho,_⟩:=I.stack.mem hb
  exact IZ.mpr ⟨JG.mpr (Mw ho),by rw[hn];simpa using fne b hb⟩
theorem yR {α:Type}{S:cf}{ok:Heap->Prop}{k:Nat}{e:Expr}{es:Ii}{pos:Pos}{ps:List Pk}{r:Rep α}{y:α}(C:j8 X.prog X.w X.K X.mg ok x k (aG S X.K))(hp:(ea,oe)∈X.pn)(Nm:∀base:Heap,base.get? ea=some oe->ok base)(hr:bI k X.A)(ha:HA X (e::es) Γ ps Γ1)(hS:S X.K ps (bL X.K r (· =y)))
 (hg:Gl X x:=by rfl) (Nx:Nr x:=by decide) (he:K2 (e::es) X.env=(false,eval e X.env)::K2 es X.env:=by rfl) (Nw:(Lb pos (K2 es X.env)).any (·.1)=false:=by rfl):EV X (.Call (.Name x p) (e::es) [] pos) Γ r y Γ1:=λσ H0 R0 H R E Q q Nh s I=>by
 obtain⟨f,fd,pn,F,hm,hk,hb⟩:=C.ex
 refine Lw (h8 I hg hm ?_ Nx)
 refine M4 (h₀:=X.base) I.ok.mod.Qx hk (aQ (ha σ H0 R0 H R E (λvs H1=>∃R1,aq X.K σ H0 R0 H1 R1 Γ1/\ar R R1/\gu X.K R1 vs ps) (λvs H1 R1 E1 s1 p1=>⟨R1,E1,s1,p1⟩) pos Nh s I) λus s1 ⟨vs,H1,I1,r1,R1,E1,s1',p1⟩=>⟨I1.eJ,?_⟩) he Nw
 have F':=F (jT s1.heap X.base ea) (Nm _ (ue (I:=I1) hp))
 have h:aG S X.K vs H1 Q (λ_ _ _=>False):=⟨R1,ps,_,E1.sub,p1,hS,λv H' R' xx t=>by
  obtain⟨z,e1,rfl⟩:=t
  exact q v H' R' (E1.grow xx) (s1'.trans xx.r) e1⟩
 have hl:us.length=pn.length:=by rw[← r1.length];exact F'.len _ _ _ _ h
 have Oc:=hb s1 us I1.eJ (by rw[Jj];exact hl)
 rw[Jj] at Oc
 refine L4 (LN (F'.run X.A X.stack s1 H1 ⟨us,[]⟩ us vs Q (λ_ _ _=>False) hr (Inv.FJ I1 hp) Oc r1 h) λr s' hq=>?_)
 cases r with
 | error e=>exact Iy hq
 | ok fl=>
   cases fl with
   | ret u=>exact I1.after hq
   | next=>exact Iy hq
   | brk=>exact Iy hq
   | cont=>exact Iy hq
def jf (X:Cx)(ea D:Addr):Prop:=∃oe,X.base.get? ea=some oe/\oe.cls= .ref D
theorem jf.at (z:jf X ea D)(I:Inv X Nh σ H s):lG ea D s.heap:=by
 obtain⟨oe,h,hc⟩:=z
 exact⟨oe,I.bk _ _ h,hc⟩
theorem mP (hz:jf X ea D)(el:dZ X.K D=true):dH X (.builtin "isinstance") (λxs H Q=>∃c cv b,xs=[.ref ea,c]/\RelV c cv/\(∀u,RelV c u->u=cv)/\M9 X.K (.ref D) cv=some b/\Q (.bl b) H):=by
 intro Nh s σ H xs us Q I r h
 obtain⟨c,cv,b,rfl,_,hu,e,q⟩:=h
 obtain⟨u,u2,rfl,r1,r2⟩:=vals2 r
 cases (show u=MI ea from r1)
 cases hu u2 r2
 exact kia_one (rj el) I.eJ (hz.at I) e (λz=>nomatch z) λtk=>⟨.bl b,H,I.tok tk,rfl,q⟩
theorem va (hz:jf X ea D)(el:dZ X.K D=true):dH X (.builtin "isinstance") (λxs H Q=>∃(a:Addr) (cs:Ig) (b:Bool),xs=[.ref ea,.ref a]/\H a=some (.tup (cs.map V.ref))/\kitAny X.K (.ref D) (cs.map MI)=some b/\Q (.bl b) H):=by
 intro Nh s σ H xs us Q I r h
 obtain⟨a,cs,b,rfl,ha,e,q⟩:=h
 obtain⟨u,u2,rfl,r1,r2⟩:=vals2 r
 cases (show u=MI ea from r1)
 cases (show u2=MI a from r2)
 obtain⟨_,Nj,vs,tp⟩:=(show cj X.prog X.w H s.heap a (.tup (cs.map V.ref)) from I.Nm a _ ha)
 have hi:Nj=cs.map MI:=by
  have key:∀{cs:Ig} {Nj:Ih},Vals (cs.map V.ref) Nj->Nj=cs.map MI:=by
   intro cs
   induction cs with
   | nil=>intro Nj v;cases v;rfl
   | cons c cs ih=>
     intro Nj v
     cases v with
     | cons h t=>rw[ih t];cases (show _=MI c from h);rfl
  exact key vs
 subst hi
 obtain⟨o,h1,h2,n,h3⟩:=tp
 obtain⟨oc,od,odt,O7⟩:=o
 dsimp only at h2 h3
 subst h2 h3
 exact kia_tup (rj el) I.eJ (hz.at I) h1 e (λz=>nomatch z) λtk=>⟨.bl b,H,I.tok tk,rfl,q⟩
theorem je {y:Str}{pos:Pos}{C:Addr}(hz:jf X ea D)(el:dZ X.K D=true)(hm:X.mg "isinstance"=none)(hΓ:Γ[i]?=some (.im (gO ea) ()))(S2:X.mg y=some (.ref C))(ht:M9 X.K (.ref D) (.ref C)=some b)
 (hN:X.N[i]?=some x:=by rfl) (hv:autoParam (bZ X.env.scope x) NC) (hd:Nr x:=by decide) (Np:NA x:=by decide)
 (hs:K2 [.Name x p1,.Name y p2] X.env=(false,eval (.Name x p1) X.env)::K2 [.Name y p2] X.env:=by rfl) (hg:Gl X "isinstance":=by rfl) (S9:Gl X y:=by rfl) (Tf:Nr y:=by decide):
 EV X (.Call (.Name "isinstance" p) [.Name x p1,.Name y p2] [] pos) Γ aX b Γ:=by
 intro σ H0 R0 H R E Q q
 refine eS (dq (mP hz el) hg hm KR (aH aJ (aH (iS (v:=.ref C) S9 S2 rfl Tf) bJ rfl) hs) (by decide) (by decide) hs rfl) (aa i hΓ hN hv hd Np σ H0 R0 H R E _ λv H1 R1 E1 s1 e1=>?_)
 cases (show v=V.ref ea from e1)
 exact⟨.ref C,.ref C,b,rfl,rfl,λu h=>h,ht,q _ H1 R1 E1 s1 rfl⟩
theorem yZ {y:Str}{pos:Pos}{c:String}(hz:jf X ea D)(el:dZ X.K D=true)(hm:X.mg "isinstance"=none)(hΓ:Γ[i]?=some (.im (gO ea) ()))(S2:X.mg y=none)(hvy:Lo y=some (.type c))(ht:M9 X.K (.ref D) (.type c)=some b)
 (hN:X.N[i]?=some x:=by rfl) (hv:autoParam (bZ X.env.scope x) NC) (hd:Nr x:=by decide) (Np:NA x:=by decide)
 (hs:K2 [.Name x p1,.Name y p2] X.env=(false,eval (.Name x p1) X.env)::K2 [.Name y p2] X.env:=by rfl) (hg:Gl X "isinstance":=by rfl) (S9:Gl X y:=by rfl) (hny:y≠"__name__":=by decide) (Tf:Nr y:=by decide):
 EV X (.Call (.Name "isinstance" p) [.Name x p1,.Name y p2] [] pos) Γ aX b Γ:=by
 intro σ H0 R0 H R E Q q
 refine eS (dq (mP hz el) hg hm KR (aH aJ (aH (tE (v:=.ty c) S9 S2 hvy rfl hny Tf) bJ rfl) hs) (by decide) (by decide) hs rfl) (aa i hΓ hN hv hd Np σ H0 R0 H R E _ λv H1 R1 E1 s1 e1=>?_)
 cases (show v=V.ref ea from e1)
 exact⟨.ty c,.type c,b,rfl,rfl,λu h=>h,ht,q _ H1 R1 E1 s1 rfl⟩
theorem kF {y1 y2 y3:Str}{p3 p4 pos tp:Pos}{k:Nat}{C1 C2 C3:Addr}(hz:jf X ea D)(el:dZ X.K D=true)(hm:X.mg "isinstance"=none)(hΓ:Γ[i]?=some (.im (gO ea) ()))
 (h1:X.mg y1=some (.ref C1)) (h2:X.mg y2=some (.ref C2)) (h3:X.mg y3=some (.ref C3)) (ht:kitAny X.K (.ref D) [.ref C1,.ref C2,.ref C3]=some b)
 (hN:X.N[i]?=some x:=by rfl) (hv:autoParam (bZ X.env.scope x) NC) (hd:Nr x:=by decide) (Np:NA x:=by decide)
 (hs:K2 [.Name x p1,.Tuple [.Name y1 p2,.Name y2 p3,.Name y3 p4] k tp] X.env=(false,eval (.Name x p1) X.env)::K2 [.Tuple [.Name y1 p2,.Name y2 p3,.Name y3 p4] k tp] X.env:=by rfl) (hg:Gl X "isinstance":=by rfl)
 (g1:Gl X y1:=by rfl) (g2:Gl X y2:=by rfl) (g3:Gl X y3:=by rfl) (d1:Nr y1:=by decide) (d2:Nr y2:=by decide) (d3:Nr y3:=by decide):
 EV X (.Call (.Name "isinstance" p) [.Name x p1,.Tuple [.Name y1 p2,.Name y2 p3,.Name y3 p4] k tp] [] pos) Γ aX b Γ:=by
 intro σ H0 R0 H R E Q q
 refine eS (dq (va hz el) hg hm KR (aH aJ (aH (lD (aH (iS (v:=.ref C1) g1 h1 rfl d1) (aH (iS (v:=.ref C2) g2 h2 rfl d2) (aH (iS (v:=.ref C3) g3 h3 rfl d3) bJ rfl) rfl) rfl)) bJ rfl) hs) (by decide) (by decide) hs rfl) (aa i hΓ hN hv hd Np σ H0 R0 H R E _ λv H1 R1 E1 s1 e1=>?_)
 cases (show v=V.ref ea from e1)
 refine⟨by show 3<=K4;decide,λa ha=>⟨a,[C1,C2,C3],b,rfl,aA,ht,?_⟩⟩
 exact q _ _ (upd R1 a (.tup [.ref C1,.ref C2,.ref C3])) (E1.grow (Ext.fresh E1.sub ha _)) (s1.trans (ar.fresh (E1.sub.free ha) _)) rfl
end
def cD:Rep Str:=⟨λ_ _ v x=>v= .str x,λ_ h=>h⟩
theorem dU {X:Cx}{Γ:Ga}{x:Str}{j:Nat}{pos:Pos}:EV X (.Constant (.str x) j pos) Γ cD x Γ:=λ_ _ _ _ _ E _ q=>eS BD (q _ _ _ E (ar.refl _) rfl)
theorem eq_str:da cD 0:=by
 refine⟨by rintro K R v x y h1 h2;cases h1;cases h2;rfl,?_⟩
 intro X Nh σ H s R A I sub v u vv uu x y rv ru h1 h2 hu
 cases h1
 cases h2
 obtain⟨t,rfl⟩:=rv
 obtain⟨t',rfl⟩:=ru
 intro prog w E Q hq
 exact wpAny_eqBool_str hq
section
variable {X:Cx}{Γ Γ1 Γ2 Γ3:Ga}{α β γ δ:Type}{N:Ga->Prop}{T:RT}
open Classical in
noncomputable def mQ (r:Rep α)(r':Rep β)(K:MP)(R:Hp)(x:α×β)(w:Value):Bool:=decide (∃a,w= .ref a/\(aP r r').R K R (.ref a) x)
open Classical in
theorem jE {r:Rep α}{r':Rep β} [DecidableEq α] [DecidableEq β]{n:Nat}(e:da (aP r r') n){K:MP}{R:Hp}{x y:α×β}{v:V}{w:Value}(hv:RelV v w)(hy:(aP r r').R K R v y):mQ r r' K R x w=decide (y=x):=by
 have hy2:=hy
 obtain⟨a,v1,v2,rfl,_⟩:=hy2
 cases hv
 unfold mQ
 by_cases h:y=x
 ·subst h
  rw[decide_eq_true rfl]
  exact decide_eq_true ⟨a,rfl,hy⟩
 ·rw[decide_eq_false h]
  refine decide_eq_false ?_
  rintro⟨a',ea,hx⟩
  cases ea
  exact h (e.inj hy hx)
variable {r:Rep α}{r':Rep β}{n:Nat}{xs:List (α×β)}
theorem Aa [DecidableEq α] [DecidableEq β](e:da (aP r r') n)(hu:X.A.units + (n + 1) < cLine){x:α×β}:gN X .In (aP r r') (ak (aP r r')) x xs (decide (x∈xs)):=
 ⟨λv u H Q=>∃R,ar R H/\(aP r r').R X.K R v x/\(ak (aP r r')).R X.K R u xs/\Q (.bl (decide (x∈xs))) H,λNh s σ H v1 u1 v u Q I rx ry ⟨R,sub,h1,h2,q⟩=>by
  obtain⟨b,ws,rfl,hb,py,_⟩:=h2
  cases ry
  obtain⟨Nj,rr,pl,hz⟩:=I.list (bt.of (sub _ _ hb))
  have at_:∀(m:Nat) (w:Value),Nj[m]?=some w->∃v y,xs[m]?=some y/\RelV v w/\(aP r r').R X.K R v y:=λm w hm=>by
   have ml:=(IG.mp hm).1
   have l1:=rr.length
   have l2:=py.length
   obtain⟨y,hy⟩:∃y,xs[m]?=some y:=⟨_,IF (by omega)⟩
   obtain⟨v,hv,OY⟩:=eM py hy
   obtain⟨w',SK,rv⟩:=rr.get hv
   rw[hm] at SK
   cases SK
   exact⟨v,y,hy,rv,OY⟩
  refine SeqAt.in_listAt (mQ r r' X.K R x) pl.isList (λw hw=>?_) ⟨.bl _,H,I,rfl,?_⟩
  ·obtain⟨m,hm⟩:=Ja.mp (show w∈Nj by simpa using hw)
   obtain⟨v',y,hy,rv,OY⟩:=at_ m w hm
   rw[jE e rv OY]
   exact e.eq (A:=X.A.in1) I sub rv rx OY h1 (by show X.A.units + 1 + n < cLine;omega)
  ·have:Nj.toArray.any (mQ r r' X.K R x)=decide (x∈xs):=by
    rw[show Nj.toArray.any (mQ r r' X.K R x)=Nj.any (mQ r r' X.K R x) by simp]
    by_cases hx:x∈xs
    ·rw[decide_eq_true hx,JT]
     obtain⟨m,hm⟩:=Ja.mp hx
     have ml:=(IG.mp hm).1
     have l1:=rr.length
     have l2:=py.length
     obtain⟨w,hw⟩:∃w,Nj[m]?=some w:=⟨_,IF (by omega)⟩
     obtain⟨v',y,hy,rv,OY⟩:=at_ m w hw
     rw[hm] at hy;cases hy
     exact⟨w,IQ hw,by rw[jE e rv OY,decide_eq_true rfl]⟩
    ·rw[decide_eq_false hx]
     refine Iu.mpr λh=>hx ?_
     obtain⟨w,hw,he⟩:=JT.mp h
     obtain⟨m,hm⟩:=Ja.mp hw
     obtain⟨v',y,hy,rv,OY⟩:=at_ m w hm
     rw[jE e rv OY] at he
     rw[← of_decide_eq_true he]
     exact IQ hy
   rw[this];exact q,λR H v u Q s h1 h2 q=>⟨R,s,h1,h2,q⟩⟩
def AE (X:Cx)(r:Rep α)(r':Rep β)(x:α×β)(xs:List (α×β))(j:Nat):V->List V->Hp->VK->Prop:=λz vs H Q=>∃(R:Hp) (v:V),ar R H/\vs=[v]/\(aP r r').R X.K R v x/\(ak (aP r r')).R X.K R z xs/\xs[j]?=some x/\(∀m,m < j->xs[m]?≠some x)/\Q (.int (j:Nat)) H
theorem vO [DecidableEq α] [DecidableEq β](e:da (aP r r') n)(hu:X.A.units + (n + 1) < cLine){x:α×β}{j:Nat}:zl X "list.index" (AE X r r' x xs j):=by
 intro Nh s σ H z vs v us Q I rx rv h
 obtain⟨R,v1,sub,rfl,h1,h2,hj,OZ,q⟩:=h
 obtain⟨b,ws,rfl,hb,py,hz0⟩:=h2
 cases rx
 obtain⟨u,rfl,ru⟩:=rv.one
 obtain⟨hz,Nj,m,rr,hl,ho⟩:=I.jC (sub _ _ hb)
 have l1:=rr.length
 have l2:=py.length
 have jl:j < xs.length:=(IG.mp hj).1
 have at_:∀(m:Nat) (w:Value),Nj[m]?=some w->∃v y,xs[m]?=some y/\RelV v w/\(aP r r').R X.K R v y:=λm w hm=>by
  have ml:=(IG.mp hm).1
  obtain⟨y,hy⟩:∃y,xs[m]?=some y:=⟨_,IF (by omega)⟩
  obtain⟨v,hv,OY⟩:=eM py hy
  obtain⟨w',SK,rv⟩:=rr.get hv
  rw[hm] at SK
  cases SK
  exact⟨v,y,hy,rv,OY⟩
 refine Lz Mu ⟨_,ho,rfl⟩ PySem.F.entry_list_index (PySem.F.args_list_index_2 _ _)
  (SeqAt.list_indexAt b Nj.toArray m _ _ u (mQ r r' X.K R x) j (by simp;omega) ?_ ?_ ?_) ⟨ho,λw hw=>?_,?_⟩
 ·have:K4 < 2 ^ 63 - 1:=by decide
  omega
 ·obtain⟨v',y,hy,rv,OY⟩:=at_ j Nj[j] (IF (by omega))
  rw[hj] at hy;cases hy
  show mQ r r' X.K R x Nj[j]=true
  rw[jE e rv OY,decide_eq_true rfl]
 ·intro n' hn SY
  have hn:n' < Nj.length:=by simpa using hn
  obtain⟨v',y,hy,rv,OY⟩:=at_ n' Nj[n'] (IF hn)
  show mQ r r' X.K R x Nj[n']=false
  rw[jE e rv OY]
  exact decide_eq_false λz=>OZ n' SY (by rw[hy,z])
 ·obtain⟨k,hk⟩:=Ja.mp (show w∈Nj by simpa using hw)
  obtain⟨v',y,hy,rv,OY⟩:=at_ k w hk
  rw[jE e rv OY]
  exact e.eq (A:=X.A.in1) I sub rv ru OY h1 (by show X.A.units + 1 + n < cLine;omega)
 ·exact⟨.int _,H,I.tok _,⟨_,rfl⟩,q⟩
theorem kR (i:Nat){x:Str}{e:Expr}{p1 ap cp:Pos} [DecidableEq α] [DecidableEq β](eq:da (aP r r') n)(hu:X.A.units + (n + 1) < cLine){y:α×β}{j:Nat}(he:EV X e Γ (aP r r') y Γ1)(hΓ:Γ[i]?=some (.im (ak (aP r r')) xs))(hΓ1:Γ1[i]?=some (.im (ak (aP r r')) xs))(hj:xs[j]?=some y)(OZ:∀m,m < j->xs[m]?≠some y)
 (hN:X.N[i]?=some x:=by rfl) (hv:autoParam (bZ X.env.scope x) NC)
 (hd:Nr x:=by decide) (Np:NA x:=by decide)
 (Nv:Li (.Name x p1) "index" X.env (eval (.Name x p1) X.env)=eval (.Name x p1) X.env:=by rfl)
 (NN:((Lb cp (K2 [e] X.env)).all (λx=> !x.1)&&(LH cp (Lq [] X.env)).all (λx=>x.1.isSome)
  &&decide ([e].length + ([]:List Ll).length + (if([]:List Ll).isEmpty then 0 else 1) < 30))=true:=by rfl)
 (hline:(ap.endLine==cp.line)=true:=by rfl) (hs:K2 [e] X.env=(false,eval e X.env)::K2 [] X.env:=by rfl):EV X (.Call (.Attribute (.Name x p1) "index" ap) [e] [] cp) Γ af (j:Nat) Γ1:=λσ H0 R0 H R E Q q=>by
 obtain⟨v,ev,hxv⟩:=E.ent i _ hΓ
 have hxv2:=hxv
 obtain⟨a,vs,rfl,ha,pp,_⟩:=hxv2
 refine eS (iG Mr Mu PySem.F.type_list_index (vO (x:=y) (xs:=xs) (j:=j) eq hu) (ba hN hv hd Np) (aH aJ bJ hs) Nv NN hline hs rfl) ?_
 refine⟨.ref a,at_of ev,.inl ⟨rfl,vs,bt.of (E.sub _ _ ha)⟩,he σ H0 R0 H R E _ λv1 H1 R1 E1 s1 e1=>?_⟩
 obtain⟨v',ev',hxv'⟩:=E1.ent i _ hΓ1
 rw[ev] at ev';cases ev'
 exact⟨R1,v1,E1.sub,rfl,e1,hxv',hj,OZ,q _ _ _ E1 s1 rfl⟩
end
section
variable {X:Cx}{Γ Γ1 Γ2 Γ3:Ga}{α β γ δ:Type}{N:Ga->Prop}{T:RT}
theorem rF (i:Nat){y:Str}{py SG NK:Pos}{e:Expr}{r:Rep α}{ys:List α}(he:aE X e Γ r ys Γ1)(h:∀a b,N (Γ1.set i (.ob (eK r a [b] [ys]))))
 (Rt:K2 [e] X.env=(false,eval e X.env)::K2 [] X.env:=by rfl) (hN:X.N.Nodup:=by first | assumption | decide) (hi:X.N[i]?=some y:=by rfl) (hx:autoParam (Loc X.env.scope y) Oe)
 (hs:K9 (.List [e] SG) (some (.Name y py)) NK.line X.env=pure false:=by rfl) (hf:autoParam (X.fn y=true∨X.env.scope.names.lookup y=some .local) Od):W1 X (.Assign [.Name y py] (.List [e] SG) NK) Γ N T:=λσ H0 R0 H R E D dn dr=>by
 refine sS (eT hN hi hx (vA (aH aJ bJ Rt)) hs hf) (he σ H0 R0 H R E _ λb vs H1 R1 E1 s1 hb Og h0b Qv pp hz=>⟨by show 1<=K4;decide,λa ha=>?_⟩)
 have E2:=E1.grow (Ext.c7 E1.sub ha (.lst [.ref b]))
 have ab:b≠a:=λz=>by rw[z,ha] at hb;cases hb
 refine dn _ _ R1 _ (E2.setG (v:=.ref a) (en:=.ob (eK r a [b] [ys])) i ⟨⟨.ref a,rfl,rfl,aA,⟨rfl,λj c zs h1 h2=>?_⟩,?_⟩,λc hc=>?_⟩ (λc hc=>?_) λc hc j e _ qj w=>?_) s1 (h a b)
 ·match j,h1,h2 with
  | 0,h1,h2=>
    have h1:b=c:=Option.some.inj h1
    have h2:ys=zs:=Option.some.inj h2
    subst h1;subst h2
    exact⟨vs,(aM ab).trans hb,pp⟩
  | j + 1,h1,h2=>simp at h1
 ·refine Jh.mpr ⟨λz=>ab (II.mp z).symm,by simp⟩
 ·rcases IY.mp hc with rfl | hc
  ·exact E1.sub.free ha
  ·rw[II.mp hc];exact Og
 ·rcases IY.mp hc with rfl | hc
  ·exact E1.ext.h.free ha
  ·rw[II.mp hc];exact h0b
 ·rcases IY.mp hc with rfl | hc
  ·exact E1.off ha j e qj w
  ·rw[II.mp hc] at w;exact Qv j e qj w
theorem Di {c a b:Expr}{pos:Pos}{k:Bool}{r:Rep α}{xs:List α}(hc:TV X c Γ k Γ1)(ha:k=true->aE X a Γ1 r xs Γ2)(hb:k=false->aE X b Γ1 r xs Γ2):aE X (.IfExp c a b pos) Γ r xs Γ2:=λσ H0 R0 H R E Q q=>by
 refine eS (yf jH aJ aJ) (hc σ H0 R0 H R E _ λH1 R1 E1 s1=>?_)
 cases k with
 | true=>exact ha rfl σ H0 R0 H1 R1 E1 Q λa vs H' R' E' s'=>q a vs H' R' E' (s1.trans s')
 | false=>exact hb rfl σ H0 R0 H1 R1 E1 Q λa vs H' R' E' s'=>q a vs H' R' E' (s1.trans s')
end
section
variable {X:Cx}{Γ Γ1 Γ2 Γ3:Ga}{α β γ δ:Type}{N:Ga->Prop}{T:RT}
variable {p1:Pos}
theorem tQ (i:Nat){x:Str}{p2 pos:Pos}(h:N (Γ.set i (.di [])))
 (hN:X.N.Nodup:=by first | assumption | decide) (hi:X.N[i]?=some x:=by rfl) (hx:autoParam (Loc X.env.scope x) Oe)
 (hs:K9 (.Dict [] [] p2) (some (.Name x p1)) pos.line X.env=pure false:=by rfl) (hf:autoParam (X.fn x=true∨X.env.scope.names.lookup x=some .local) Od):
 W1 X (.Assign [.Name x p1] (.Dict [] [] p2) pos) Γ N T:=λσ H0 R0 H R E D dn dr=>by
 refine sS (eT hN hi hx yO hs hf) λp hp=>?_
 have E1:=E.grow (Ext.c7 E.sub hp (.dK (dh [])))
 exact dn _ _ R _ (E1.rm (u:=.dK (dh [])) (en:=.di []) i ⟨p,rfl,aA,E.sub.free hp⟩ (E.ext.h.free hp) λj e _ q w=>E.off hp j e q w) (ar.refl _) h
theorem oi {a:Expr}{j:Nat}{pos:Pos}{x:Lay}(ha:EV X a Γ gW x Γ1):EV X (.Subscript a (.Constant (.int 2) j p1) pos) Γ af x.2.2.1 Γ1:=ik ha λR v ⟨p,e,h⟩=>⟨p,_,_,e,h,rfl,rfl⟩
theorem sY {a:Expr}{j:Nat}{pos:Pos}{x:Lay}(ha:EV X a Γ gW x Γ1):EV X (.Subscript a (.Constant (.int 3) j p1) pos) Γ aX x.2.2.2 Γ1:=ik ha λR v ⟨p,e,h⟩=>⟨p,_,_,e,h,rfl,rfl⟩
end
section
variable {X:Cx}{Γ Γ1 Γ2 Γ3:Ga}{α β γ δ:Type}{N:Ga->Prop}{T:RT}
def Hf (X:Cx)(e:Expr)(Γ:Ga){α:Type}(r:Rep α)(P:List α->Ga->Prop):Prop:=
 ∀(σ:St) (H0 R0 H R:Hp),aq X.K σ H0 R0 H R Γ->∀Q:VK,(∀a vs ys Γ' H' R',P ys Γ'->aq X.K σ H0 R0 H' R' Γ'->ar R R'->H' a=some (.lst vs)->R' a=none->H0 a=none->Off a σ Γ'->PySem.Paired (r.R X.K R') vs ys->ys.length<=K4->Q (.ref a) H')->eF X e σ H Q
def GD (X:Cx)(tg iter:Expr)(Γ:Ga){α:Type}(r:Rep α)(P:List α->Ga->Prop):Prop:=
 ∃wi,PI X tg iter wi/\∀(σ:St) (H0 R0 H R:Hp),aq X.K σ H0 R0 H R Γ->∀Rq:It->Hp->Prop,(∀J H1 R1 xs Γ1,P xs Γ1->aq X.K σ H0 R0 H1 R1 Γ1->ar R R1->xs.length<=K4->Src X.K J R1 r xs->Rq J H1)->wi σ H Rq
theorem BE {tg iter:Expr}{body:List Stmt}{pos:Pos}{r:Rep α}{P:List α->Ga->Prop}{bf:α->Ga->Ga}(I:List α->Nat->Ga->Prop)(hit:GD X tg iter Γ r P)(hb:BG X tg r bf)(h0:∀xs Γ1,P xs Γ1->I xs 0 Γ1)
 (Ov:∀xs,(∃Γ1,P xs Γ1)->∀(i:Nat) (x:α) (Γ:Ga),xs[i]?=some x->I xs i Γ->WS X body (bf x Γ) (I xs (i + 1)) T) (RD:∀xs,(∃Γ1,P xs Γ1)->∀Γ:Ga,I xs xs.length Γ->N Γ)
 (hc:X.calm=true:=by rfl) (hp:LU (model X.prog X.w) X.A X.env X.xe:=by exact LU.never) (hs:∀x,Lc iter X.env x=pure x:=by intro _;rfl):W1 X (.For tg iter body [] pos) Γ N T:=λσ H0 R0 H R E D dn dr=>by
 obtain⟨wi,hi,hit⟩:=hit
 refine sS (qi hp hc hi tU dI hs) (hit σ H0 R0 H R E _ λJ H1 R1 xs Γ1 hP E1 s1 hz src=>?_)
 have hP':∃Γ1,P xs Γ1:=⟨Γ1,hP⟩
 refine⟨λi m σ' H'=>m=xs.length - i/\i<=xs.length/\∃R' Γ',aq X.K σ' H0 R0 H' R' Γ'/\ar R1 R'/\I xs i Γ',⟨_,rfl,Ky _,R1,Γ1,E1,ar.refl _,h0 xs Γ1 hP⟩,?_⟩
 rintro i m σ' H' ⟨rfl,hle,R',Γ',E',s',hI⟩
 obtain⟨Qu,Oa⟩:=src H' R' s' E'.sub i
 by_cases NJ:i < xs.length
 ·obtain⟨go,yl⟩:=Qu _ (IF NJ)
  refine .inr ⟨go,λσ' H'=>i + 1<=xs.length/\∃R' Γ',aq X.K σ' H0 R0 H' R' Γ'/\ar R1 R'/\I xs (i + 1) Γ',λσ2 H2 h=>⟨xs.length - (i + 1),by omega,rfl,h.1,h.2⟩,λv H2 hy=>?_⟩
  obtain⟨R2,x2,hr⟩:=yl v H2 hy
  refine hb σ' H0 R0 H2 R2 Γ' v _ (E'.grow x2) hr _ λσ2 E2=>?_
  exact Ov xs hP' i _ Γ' (IF NJ) hI σ2 H0 R0 H2 R2 E2 _ (λσ3 H3 R3 Γ3 E3 s3 h3=>⟨NJ,R3,Γ3,E3,s'.trans (x2.r.trans s3),h3⟩) dr
 ·have e:i=xs.length:=by omega
  subst e
  exact .inl ⟨Oa (Kp _),dn σ' H' R' Γ' E' (s1.trans s') (RD xs hP' Γ' hI)⟩
theorem yF {tg iter:Expr}{r:Rep α}{P:List α->Ga->Prop}(h:Hf X iter Γ r P):GD X tg iter Γ r P:=by
 refine⟨_,lM aJ,λσ H0 R0 H R E Rq q=>h σ H0 R0 H R E _ λa vs xs Γ1 H1 R1 hP E1 s1 ha hR h0 off pp z=>?_⟩
 have s2:ar R1 (upd R1 a (.lst vs)):=ar.fresh hR _
 have E2:=E1.nq ha hR h0 off
 refine⟨a,rfl,⟨vs,bt.of ha⟩,q _ H1 (upd R1 a (.lst vs)) xs Γ1 hP E2 (s1.trans s2) z λH' R' sR sH i=>⟨λx hx=>?_,λhi=>?_⟩⟩
 ·have hq:bt X.K H' a vs:=bt.of (sH _ _ (sR _ _ aA))
  obtain⟨v,hv,hr⟩:=eM pp hx
  refine⟨⟨vs,v,hq,hv⟩,λv' H2 hy=>?_⟩
  obtain⟨rfl,hy⟩:=hy
  have:=hy vs hq
  rw[hv] at this
  cases this
  exact⟨R',Ext.refl sH,r.mono sR (r.mono s2 hr)⟩
 ·exact⟨vs,bt.of (sH _ _ (sR _ _ aA)),by rw[pp.length];exact hi⟩
end
section
variable {X:Cx}{Γ Γ1 Γ2 Γ3:Ga}{α β γ δ:Type}{N:Ga->Prop}{T:RT}
end
section
variable {X:Cx}{Γ:Ga}{es:Ii}{p:Pos}{ps:List Pk}{T0:RT}{Γ1:Ga}
theorem zi {S:iE}{x:Str}{k:Nat}{e:Expr}{pos:Pos}{σ:St}{H0 R0 H R:Hp}{Nh:Ia}{s:K3}{Q:Value->K3->Prop}{Ex:Value->K3->Prop}
 (C:cn X.prog X.w X.K X.mg X.base x k (de S X.K)) (hr:bI k X.A) (ha:HA X.cO (e::es) Γ ps Γ1) (hS:S X.K ps (.ret T0)) (E:aq X.K σ H0 R0 H R Γ) (I:Inv X Nh σ H s)
 (q:∀u s' H' R',Inv X Nh σ H' s'->aq X.K σ H0 R0 H' R' Γ1->ar R R'->Q u s')
 (hg:Gl X x) (Nx:(x==("__debug__":Str))=false) (he:K2 (e::es) X.env=(false,eval e X.env)::K2 es X.env) (Nw:(Lb pos (K2 es X.env)).any (·.1)=false):
 wpAny (model X.prog X.w) X.A (eval (.Call (.Name x p) (e::es) [] pos) X.env) Q Ex s:=by
 obtain⟨f,fd,pn,F,hm,hk,hb⟩:=C.ex
 refine Lw (h8 I hg hm ?_ Nx)
 refine M4 (h₀:=X.base) I.ok.mod.Qx hk (aQ (ky.cO (ha σ H0 R0 H R E (λvs H1=>∃R1,aq X.K σ H0 R0 H1 R1 Γ1/\ar R R1/\gu X.K R1 vs ps) λvs H1 R1 E1 s1 p1=>⟨R1,E1,s1,p1⟩) Ex pos Nh s I) λus s1 ⟨vs,H1,I1,r,R1,E1,sR,p1⟩=>⟨I1.eJ,?_⟩) he Nw
 have r2:Vals (vs++[]) (us++[]):=by rw[Jj,Jj];exact r
 have sp:de S X.K (vs++[]) H1 (λ_ H'=>∃R',Ext H1 R1 H' R') (λ_ _ _=>False):=⟨R1,ps,.ret T0,E1.sub,by rw[Jj];exact p1,hS,λv H' R' xx _=>⟨R',xx⟩⟩
 have hl:(us++[]).length=pn.length:=by rw[← r2.length];exact F.len _ _ _ _ sp
 refine L4 (LN (F.run X.A X.stack s1 H1 ⟨us,[]⟩ (us++[]) (vs++[]) _ _ hr I1.zh (hb s1 us I1.eJ hl) r2 sp) λr s' hq=>?_)
 cases r with
 | error ev=>
   obtain⟨ea,T,c,H',rfl,ho,bare,un,Nm,Oo,z⟩:=hq
   exact z.elim
 | ok fl=>
   cases fl with
   | ret u=>
     obtain⟨v,H',I',_,R',xx⟩:=I1.after hq
     exact q u s' H' R' I' (E1.grow xx) (sR.trans xx.r)
   | next=>exact Iy hq
   | brk=>exact Iy hq
   | cont=>exact Iy hq
theorem vG {N:Ga->Prop}{T:RT}{S:iE}{f:Str}{k:Nat}{e0:Expr}{pos ep tp:Pos}{rest:List Stmt}{hd:ExceptHandler}
 (C:cn X.prog X.w X.K X.mg X.base f k (de S X.K)) (hr:bI k X.A) (ha:HA X.cO (e0::es) Γ ps Γ1) (hS:S X.K ps (.ret T0))
 (Ob:WS X rest Γ1 N T) (hgf:Gl X f:=by rfl) (hsc:K9 (.Call (.Name f p) (e0::es) [] pos) none ep.line X.env=pure false:=by rfl)
 (he:K2 (e0::es) X.env=(false,eval e0 X.env)::K2 es X.env:=by rfl) (Nw:(Lb pos (K2 es X.env)).any (·.1)=false:=by rfl) (d2:Nr f:=by decide):
 WS X (.Try [.Expr (.Call (.Name f p) (e0::es) [] pos) ep] [hd] [] [] tp::rest) Γ N T:=by
 intro σ H0 R0 H R E D dn dr Nh s I
 refine Lm (wpAny_Try_except (Lm (Mc ?_ I.quiet hsc)))
 refine zi C hr ha hS E I (λu s' H' R' I' E' sR=>?_) hgf d2 he Nw
 refine Lx ?_
 refine Lx ?_
 exact Ob σ H0 R0 H' R' E' D (λσ2 H2 R2 Γ2 E2 s2=>dn σ2 H2 R2 Γ2 E2 (sR.trans s2)) dr Nh s' I'
theorem AB {H0 R0:Hp}{tg iter:Expr}{body rest:List Stmt}{pos:Pos}(h:RX X H0 R0 iter Γ)(hp:LU (model X.prog X.w) X.A X.env X.xe)(hc:X.calm=true:=by rfl)(hs:∀x,Lc iter X.env x=pure x:=by intro _;rfl):RS X H0 R0 (.For tg iter body [] pos::rest) Γ:=λσ H R E D=>
 oI (gh (qi hp hc (lM aJ) tU dI hs) dI) (h σ H R E _)
theorem lP {N:Ga->Prop}{T:RT}{S:cf}{x:Str}{k:Nat}{e:Expr}{p2 pos:Pos}(C:ax X.prog X.w X.K X.mg X.base x k (aG S X.K))(hr:bI k X.A)(ha:HA X (e::es) Γ ps Γ1)(hS:S X.K ps T0)(h:N Γ1)
 (hg:Gl X x:=by rfl) (Nx:Nr x:=by decide) (he:K2 (e::es) X.env=(false,eval e X.env)::K2 es X.env:=by rfl) (Nw:(Lb p2 (K2 es X.env)).any (·.1)=false:=by rfl)
 (NU:K9 (.Call (.Name x p) (e::es) [] p2) none pos.line X.env=pure false:=by rfl):W1 X (.Expr (.Call (.Name x p) (e::es) [] p2) pos) Γ N T:=λσ H0 R0 H R E D dn dr=>
 sS (dY aJ NU) (dS C hr ha hS E (λH1 R1 v H' R' E1 s1 xx t=>dn σ H' R' _ (E1.grow xx) (s1.trans xx.r) h) hg Nx he Nw)
theorem Es {ea:Addr}:gN X .Is (gO ea) fI () () false:=by
 refine⟨_,wH,λR H v u Q s e1 e2 q=>?_⟩
 cases (show v=V.ref ea from e1)
 cases (show u=V.Nu from e2)
 exact⟨rfl,q⟩
theorem Ct:gN X .Is fI fI () () true:=by
 refine⟨_,wH,λR H v u Q s e1 e2 q=>?_⟩
 cases (show v=V.Nu from e1)
 cases (show u=V.Nu from e2)
 exact⟨rfl,q⟩
end
section
variable {P:K7}{w:World}{K:MP}{mg:HZ}{base:Heap}
theorem Aq {S:iE}{x qual:Str}{st:Stmt}{f:Addr}{fd:Ld}{N ps:Ic}{k:Nat}(F:bC K x qual st f fd)(Sc:aF N ps (ag st))(hm:mg x=some (.ref f))(hb:Binds K fd ps [])(len:∀qs o,S K qs o->qs.length=ps.length)
 (Ru:∀(Nl:Value) (A:La) (outer:List Env) (s:K3) (H:Hp) (E:XK) (qs:List Pk) (T:RT),bI k (A.deeper (KP qual (ag st) s.heap.objs.size f Nl))->S K qs (.ret T)->(∀H0 H' R',T H0 .Nu H' R')/\
  WS (bQ dW P w K mg base N qual (ag st) f Nl A outer s H E).cO (bG st) (dP qs N.length) (λ_=>True) T)
 (Qc:∀(Nl:Value) (A:La) (outer:List Env) (s:K3) (H R:Hp) (E:XK) (qs:List Pk) (c:Value),bI k (A.deeper (KP qual (ag st) s.heap.objs.size f Nl))->S K qs (.exc c)->(∀H' R',Ext H R H' R'->E c none H')->
  RS (bQ (fJ P w) P w K mg base N qual (ag st) f Nl A outer s H E) H R (bG st) (dP qs N.length)):cn P w K mg base x (k + 1) (de S K):=by
 obtain⟨oc,od,kV,doc,pm,an,Nl,ct,O7,rfl,lk,Np⟩:=F.ex
 refine⟨f,_,ps,?_,hm,F.kp,hb⟩
 refine ua lk Np Sc (λvs H Q E h=>?_) (λA outer s H vs Q E hr h=>?_)
 ·obtain⟨R,qs,o,_,p,hS,_⟩:=h
  rw[p.length];exact len qs o hS
 ·obtain⟨R,qs,o,sR,p,hS,q⟩:=h
  have hl:qs.length<=N.length:=by
   rw[len qs o hS]
   have:=congrArg List.length Sc.pre
   rw[Jm] at this
   omega
  cases o with
  | ret T=>
    obtain⟨h1,h2⟩:=Ru Nl A outer s H E qs T hr hS
    have hw:=h2 (L2.start N vs) H R H R (d9 sR p hl) {nx:=λ_ H'=>Q .Nu H',rt:=Q} (λσ' H' R' Γ' E' _ _=>q .Nu H' R' E'.ext (h1 _ _ _)) λv H' R' xx t=>q v H' R' xx t
    have hp:iy (bQ (fJ P w) P w K mg base N qual (ag st) f Nl A outer s H E).cO (bG st) (ie (bQ (fJ P w) P w K mg base N qual (ag st) f Nl A outer s H E).cO (bG st)):=dI
    exact⟨_,hp.cO,hw⟩
  | exc c=>exact⟨_,dI,Qc Nl A outer s H R E qs c hr hS q (L2.start N vs) H R (d9 sR p hl) _⟩
end
section
variable {X:Cx}{Γ Γ1 Γ2 Γ3:Ga}{α β γ δ:Type}{N:Ga->Prop}{T:RT}
variable {es:Ii}{x:Str}{G:List Pk->Ga->Prop}{p:Pos}
def HX (X:Cx)(es:Ii)(Γ:Ga)(G:List Pk->Ga->Prop):Prop:=∀(σ:St) (H0 R0 H R:Hp),aq X.K σ H0 R0 H R Γ->∀Q:List V->Hp->Prop,(∀vs H1 R1 ps Γ1,G ps Γ1->aq X.K σ H0 R0 H1 R1 Γ1->ar R R1->gu X.K R1 vs ps->Q vs H1)->ky X es σ H Q
theorem zB {ps:List Pk}(h:HA X es Γ ps Γ1):HX X es Γ (λRi Γ'=>Ri=ps/\Γ'=Γ1):=λσ H0 R0 H R E Q q=>h σ H0 R0 H R E Q λvs H1 R1 E1 s1 p1=>q vs H1 R1 ps Γ1 ⟨rfl,rfl⟩ E1 s1 p1
theorem tf {e:Expr}{r:Rep α}{x:α}(he:EV X e Γ r x Γ1)(hr:HX X es Γ1 G)(hs:K2 (e::es) X.env=(false,eval e X.env)::K2 es X.env:=by rfl):HX X (e::es) Γ (λps Γ'=>∃Ri,ps=⟨r,x⟩::Ri/\G Ri Γ'):=by
 intro σ H0 R0 H R E Q q
 refine aS (aH aJ js hs) (he σ H0 R0 H R E _ λv H1 R1 E1 s1 e1=>hr σ H0 R0 H1 R1 E1 _ λvs H2 R2 ps Γ2 hg E2 s2 e2=>?_)
 exact q (v::vs) H2 R2 _ Γ2 ⟨ps,rfl,hg⟩ E2 (s1.trans s2) (.cons (r.mono s2 e1) e2)
theorem pX (i:Nat){P:Type}{B:hV P}{S:jw P}{y:Str}{k:Nat}{ds:Ii}{p1 pos:Pos}{ps:List Pk}{a b:Addr}{s0 s:P}{rr:Rep β}{Pd:P->β->Prop}{G:P->β->List Pk->Ga->Prop}(C:ax X.prog X.w X.K X.mg X.base x k (eo B S X.K))(hr:bI k X.A)(ha:HA X es Γ ps Γ1)(hΓ:Γ[i]?=some (.ob (B.bx a b s0)))(hΓ1:Γ1[i]?=some (.ob (B.bx a b s)))(hS:S X.K s ps (λs'=>bL X.K rr (Pd s')))
 (h:∀s' z,Pd s' z->HX X ds (Γ1.set i (.ob (B.bx a b s'))) (G s' z))
 (hg:Gl X x:=by rfl) (Nx:Nr x:=by decide) (he:K2 (.Name y p1::es) X.env=(false,eval (.Name y p1) X.env)::K2 es X.env:=by rfl) (Nw:(Lb pos (K2 es X.env)).any (·.1)=false:=by rfl)
 (hN:X.N[i]?=some y:=by rfl) (hv:autoParam (bZ X.env.scope y) NC) (hd:Nr y:=by decide) (Np:NA y:=by decide)
 (hs:K2 (.Call (.Name x p) (.Name y p1::es) [] pos::ds) X.env=(false,eval (.Call (.Name x p) (.Name y p1::es) [] pos) X.env)::K2 ds X.env:=by rfl):
 HX X (.Call (.Name x p) (.Name y p1::es) [] pos::ds) Γ (λps Γ'=>∃s' z Ri,Pd s' z/\ps=⟨rr,z⟩::Ri/\G s' z Ri Γ'):=by
 intro σ H0 R0 H R E Q q
 refine aS (aH aJ js hs) (kS i C hr ha hΓ hΓ1 hS E (λH1 R1 v H' R' s' _ s1 xx E' t=>?_) hg Nx he Nw hN hv hd Np)
 obtain⟨z,e1,hz⟩:=t
 refine h s' z hz σ H0 R0 H' R' E' _ λvs H2 R2 ps Γ2 hG E2 s2 e2=>?_
 exact q (v::vs) H2 R2 _ Γ2 ⟨s',z,ps,hz,rfl,hG⟩ E2 ((s1.trans xx.r).trans s2) (.cons (rr.mono s2 e1) e2)
theorem yy {tg:Expr}(i:Nat){P:Type}{B:hV P}{S:jw P}{y:Str}{k:Nat}{p1 p2 pos:Pos}{a b:Addr}{s0:P}{rr:Rep β}{Pd:P->β->Prop}{bf:β->Ga->Ga}(C:ax X.prog X.w X.K X.mg X.base x k (eo B S X.K))(hr:bI k X.A)(ha:HX X es Γ G)(hΓ:Γ[i]?=some (.ob (B.bx a b s0)))(hS:∀ps Γ1,G ps Γ1->∃s,Γ1[i]?=some (.ob (B.bx a b s))/\S X.K s ps (λs'=>bL X.K rr (Pd s')))(hb:BG X tg rr bf)(h:∀ps Γ1 s' z,G ps Γ1->Pd s' z->N (bf z (Γ1.set i (.ob (B.bx a b s')))))
 (hg:Gl X x:=by rfl) (Nx:Nr x:=by decide) (he:K2 (.Name y p1::es) X.env=(false,eval (.Name y p1) X.env)::K2 es X.env:=by rfl) (Nw:(Lb p2 (K2 es X.env)).any (·.1)=false:=by rfl)
 (hN:X.N[i]?=some y:=by rfl) (hv:autoParam (bZ X.env.scope y) NC) (hd:Nr y:=by decide) (Np:NA y:=by decide)
 (hs:Ls [tg] (.Call (.Name x p) (.Name y p1::es) [] p2) pos.line X.env=pure false:=by rfl) (hw:Lu [tg] (.Call (.Name x p) (.Name y p1::es) [] p2) X.env=pure none:=by rfl) (h1:(Lg [tg] X.env).map (·.2)=[Lp tg X.env]:=by rfl):
 W1 X (.Assign [tg] (.Call (.Name x p) (.Name y p1::es) [] p2) pos) Γ N T:=λσ H0 R0 H R E D dn dr=>by
 obtain⟨f,fd,pn,F,hm,hk,Oc⟩:=C.ex
 obtain⟨ea,_,_⟩:=e8 (E.ent i _ hΓ)
 refine sS (iw (hZ F hr hg hm hk Oc .nil kC (aH (ba hN hv hd Np) js he) Nx he Nw) tU hs hw h1) ⟨.ref a,at_of ea,ha σ H0 R0 H R E _ λus H1 R1 ps Γ1 hG E1 s1 p1=>?_⟩
 obtain⟨s,hΓ1,QF⟩:=hS ps Γ1 hG
 obtain⟨Q6,hB,OQ,Og⟩:=e8 (E1.ent i _ hΓ1)
 refine⟨R1,a,b,s,us,ps,_,by rw[Jj],E1.sub,⟨OQ,Og⟩,hB,p1,QF,λv H' R' s' xx QK NI t=>?_⟩
 obtain⟨w,e1,hz⟩:=t
 have E':=E1.uA hΓ1 (by rw[B.fp];exact xx) (by rw[Q6];exact jn QK NI.1 NI.2) λc hc=>by rw[B.fp] at hc ⊢;exact hc
 exact hb σ H0 R0 H' R' _ v w E' e1 _ λσ2 E2=>dn σ2 H' R' _ E2 (s1.trans xx.r) (h ps Γ1 s' w hG hz)
theorem xN {S:cf}{k:Nat}{e:Expr}{pos:Pos}{r:Rep α}{PP:List α->Ga->Prop}(C:ax X.prog X.w X.K X.mg X.base x k (aG S X.K))(hr:bI k X.A)(ha:HX X (e::es) Γ G)(hS:∀ps Γ1,G ps Γ1->∃Pd,S X.K ps (iF X.K r Pd)/\∀ys,Pd ys->PP ys Γ1)
 (hg:Gl X x:=by rfl) (Nx:Nr x:=by decide) (he:K2 (e::es) X.env=(false,eval e X.env)::K2 es X.env:=by rfl) (Nw:(Lb pos (K2 es X.env)).any (·.1)=false:=by rfl):Hf X (.Call (.Name x p) (e::es) [] pos) Γ r PP:=λσ H0 R0 H R E Q q=>by
 obtain⟨f,fd,pn,F,hm,hk,hb⟩:=C.ex
 refine eS (hZ F hr hg hm hk hb .nil kC js Nx he Nw) (ha σ H0 R0 H R E _ λvs H1 R1 ps Γ1 hG E1 s1 p1=>?_)
 obtain⟨Pd,hS,hP⟩:=hS ps Γ1 hG
 refine⟨R1,ps,_,E1.sub,by rw[Jj];exact p1,hS,λv H' R' xx t=>?_⟩
 obtain⟨a,vs,zs,rfl,h0,h1,h2,pp,z,hz⟩:=t
 exact q a vs zs Γ1 H' R' (hP zs hz) (E1.grow xx) (s1.trans xx.r) h1 h2 (E1.ext.h.free h0) (E1.off h0) pp z
end
end Fc
namespace K1
open PySem
variable {P:K7}{w:World}{K:MP}{mg:HZ}{base:Heap}{f:Addr}{fd:Ld}
abbrev top (i:Nat):Stmt:=PySem.Challenge.pw_fewcounters_k54_stretches_refused.main.body.getD i (.Pass ⟨0,0,0,0⟩)
abbrev se:Nat:=28
abbrev rQ:Nat:=29
abbrev wc:Nat:=30
abbrev mX:Nat:=31
abbrev nM:Nat:=32
abbrev mi:Nat:=33
abbrev m8:Nat:=34
abbrev qy:Nat:=35
abbrev nh:Nat:=36
abbrev uZ:Nat:=37
abbrev lZ:Nat:=38
abbrev uL:Nat:=39
abbrev vN:Nat:=40
abbrev nr:Nat:=41
abbrev wM:Nat:=42
abbrev qY:Nat:=44
abbrev uz:Nat:=45
abbrev qm:Nat:=46
abbrev mz:Nat:=47
abbrev ud:Nat:=48
abbrev wo:Nat:=49
abbrev Ao:Nat:=51
abbrev nN:Nat:=52
abbrev sx:Nat:=53
abbrev qd:Nat:=54
abbrev wL:Nat:=55
abbrev qM:Nat:=56
abbrev pA:Nat:=58
abbrev rh:Nat:=59
abbrev pF:Nat:=60
abbrev qa:Nat:=61
abbrev oy:Nat:=62
abbrev si:Nat:=63
abbrev rA:Nat:=64
abbrev qw:Nat:=65
abbrev t9:Nat:=66
abbrev oq:Nat:=67
abbrev rL:Nat:=68
abbrev rS:Nat:=69
abbrev ni:Nat:=70
abbrev um:Nat:=71
abbrev qc:Nat:=72
abbrev om:Nat:=73
abbrev nY:Nat:=74
abbrev pz:Nat:=75
abbrev pE:Nat:=76
abbrev mR:Nat:=77
abbrev rM:Nat:=78
abbrev qQ:Nat:=79
abbrev DT:Nat:=80
end K1
namespace K1
open PySem L2 Fc
open PySem.Spec hiding Row
open PyProof.Rows hiding St
open PySem.Builtin.Int (intBits)
variable {P:K7}{w:World}{K:MP}{mg:HZ}{base:Heap}{f:Addr}{fd:Ld}
abbrev bB (v:Ib×List Fc.Row):Ent:=.im (aP (ak af) (ak bA)) v
abbrev av (x:Int):Ent:=.im af x
abbrev bH (x:Ib):Ent:=.im (ak af) x
structure bR (mg:HZ):Prop where
 Po:∃t,mg "MOST_PARTS"=some (.int 4 t)
 OW:∃t,mg "LEAST_PLACES"=some (.int 2 t)
 O9:∃t,mg "MOST_PLACES"=some (.int 16 t)
 PQ:∃t,mg "MOST_ROWS"=some (.int 60 t)
 NL:∃t,mg "FIRST_PART"=some (.int 0 t)
 begin_:∃t,mg "BEGIN"=some (.int 0 t)
 end_:∃t,mg "END"=some (.int 1 t)
 PL:∃t,mg "NO_CALL"=some (.int (-1) t)
 len:mg "len"=none
 all:mg "all"=none
 any:mg "any"=none
 range:mg "range"=none
 enumerate:mg "enumerate"=none
 isinstance:mg "isinstance"=none
 int:mg "int"=none
 bool:mg "bool"=none
 list:mg "list"=none
 tuple:mg "tuple"=none
 min:mg "min"=none
 max:mg "max"=none
 sorted:mg "sorted"=none
 sum:mg "sum"=none
 zip:mg "zip"=none
 reversed:mg "reversed"=none
theorem boot_bool:Lo "bool"=some (.type "bool"):=by decide +kernel
section
theorem bY {xs:Ib}{i:Int}(h0:0<=i)(h1:i < xs.length):cS xs i=some (xs.getD i.toNat 0):=by
 rw[fX h0 h1,IF (by omega),IJ,IF (by omega)];rfl
abbrev zW:Stmt:=top se
theorem DY:aF ["value"] ["value"] (ag zW):=ND
def qq:cf:=λK ps T=>∃x:Int,ps=[⟨af,x⟩]/\T=bL K aX (· =true)
theorem F4 (M:bR mg)(F:bC K "is_whole" "is_whole" zW f fd)(hm:mg "is_whole"=some (.ref f))(hb:Binds K fd ["value"] []):ax P w K mg base "is_whole" 1 (aG qq K):=by
 have nd:=DY.nd
 refine bM F DY hm hb (λqs T ⟨x,e,_⟩=>by rw[e];rfl) (λNl A outer s H E qs T hr hS=>?_)
 obtain⟨x,rfl,rfl⟩:=hS
 exact ao (bT (fz (fC M.isinstance M.int PyProof.Rows.boot_int (aa 0 rfl) ty_int) (λ_=>fG (xE (fC M.isinstance M.bool boot_bool (aa 0 rfl) ty_int)))) rfl)
abbrev tq:Stmt:=top rQ
theorem Dl:aF ["values"] ["values"] (ag tq):=ND
def Bt:cf:=λK ps T=>((∃ns:Ib,ps=[⟨ak af,ns⟩])∨(∃r:Row,ps=[⟨bA,r⟩]))/\T=bL K aX (· =true)
theorem all_true {α:Type}(xs:List α):((xs.filter λ_=>true).map λ_=>true).all id=true:=by
 rw[JK];intro b hb
 obtain⟨_,_,rfl⟩:=Jf.mp hb;rfl
theorem Ge (M:bR mg)(CI:ax P w K mg base "is_whole" 1 (aG qq K))(F:bC K "are_whole" "are_whole" tq f fd)(hm:mg "are_whole"=some (.ref f))(hb:Binds K fd ["values"] []):ax P w K mg base "are_whole" 2 (aG Bt K):=by
 have nd:=Dl.nd
 have SD:Jl [("value":Str)]:=by decide
 refine bM F Dl hm hb (λqs T ⟨e,_⟩=>by rcases e with⟨_,e⟩ | ⟨_,e⟩<;>(rw[e];rfl)) (λNl A outer s H E qs T hr hS=>?_)
 obtain⟨⟨ns,rfl⟩ | ⟨r,rfl⟩,rfl⟩:=hS
 ·exact ao (bT (fc M.all (aE.im (bK (own:=["value"]) (fr:=[]) (ix:=[]) (p:=λ_=>true) (f:=λ_=>true) (bu (so:=ag tq) (N0:=["values"]) rfl rfl (λx h=>aU h) (by decide +kernel)) (aT (aa 0 rfl))
   (λC s H ex=>aI 0) (λx=>⟨.inr rfl,trivial⟩) (λC s H ex x hx=>cg) (λC s H ex x hx _=>bc CI hr (ae (aa 0 rfl) aj) ⟨_,rfl,rfl⟩)))) (all_true ns))
 ·exact ao (bT (fc M.all (aE.im (bK (own:=["value"]) (fr:=[]) (ix:=[]) (p:=λ_=>true) (f:=λ_=>true) (bu (so:=ag tq) (N0:=["values"]) rfl rfl (λx h=>aU h) (by decide +kernel)) (Bl (aa 0 rfl))
   (λC s H ex=>aI 0) (λx=>⟨.inr rfl,trivial⟩) (λC s H ex x hx=>cg) (λC s H ex x hx _=>bc CI hr (ae (aa 0 rfl) aj) ⟨_,rfl,rfl⟩)))) (all_true _))
end
section
abbrev z8:Stmt:=top nM
theorem Ei:aF ["row"] ["row"] (ag z8):=ND
def G9:cf:=λK ps T=>∃r:Row,ps=[⟨bA,r⟩]/\T=bL K aX (· =true)
theorem Gb (M:bR mg)(CA:ax P w K mg base "are_whole" 2 (aG Bt K))(F:bC K "has_row_form" "has_row_form" z8 f fd)(hm:mg "has_row_form"=some (.ref f))(hb:Binds K fd ["row"] []):ax P w K mg base "has_row_form" 3 (aG G9 K):=by
 have nd:=Ei.nd
 refine bM F Ei hm hb (λqs T ⟨x,e,_⟩=>by rw[e];rfl) (λNl A outer s H E qs T hr hS=>?_)
 obtain⟨r,rfl,rfl⟩:=hS
 exact ao (bT (fz (fC M.isinstance M.tuple KY (aa 0 rfl) BK) (λ_=>fz (fF cT (sQ M.len (aa 0 rfl) CQ) ai) (λ_=>fG (bc CA hr (ae (aa 0 rfl) aj) ⟨.inr ⟨_,rfl⟩,rfl⟩)))) rfl)
abbrev wk:Stmt:=top mX
theorem Ea:aF ["web","places","rows"] ["web"] (ag wk):=ND
def GA:cf:=λK ps T=>∃v:ay,ps=[⟨br,v⟩]/\T=bL K aX (· =true)
theorem FX (M:bR mg)(CA:ax P w K mg base "are_whole" 2 (aG Bt K))(CR:ax P w K mg base "has_row_form" 3 (aG G9 K))(F:bC K "has_web_form" "has_web_form" wk f fd)(hm:mg "has_web_form"=some (.ref f))(hb:Binds K fd ["web"] []):ax P w K mg base "has_web_form" 4 (aG GA K):=by
 have nd:=Ea.nd
 have SD:Jl [("row":Str)]:=by decide
 refine bM F Ea hm hb (λqs T ⟨x,e,_⟩=>by rw[e];rfl) (λNl A outer s H E qs T hr hS=>?_)
 obtain⟨v,rfl,rfl⟩:=hS
 refine ah (bF (TW.tv (ig (cw (bE (fC M.isinstance M.tuple KY (aa 0 rfl) (Bj (r:=ak af) (r':=ak bA))))) (λ_=>fY (aK nR (sQ M.len (aa 0 rfl) (AA (r:=ak af) (r':=ak bA))) ai)))) (λh=>absurd h (by decide)) (λ_=>aW ?_))
 refine ah (aO 1 (c8 (r:=ak af) (r':=ak bA) (aa 0 rfl)) (ah (aO 2 (a9 (r:=ak af) (r':=ak bA) (aa 0 rfl)) ?_)))
 refine ah (bF (TW.tv (ig (cw (bE (fC M.isinstance M.list KQ (aa 1 rfl) ty_list))) (λ_=>fY (cw (bE (fC M.isinstance M.list KQ (aa 2 rfl) ty_list)))))) (λh=>absurd h (by decide)) (λ_=>aW ?_))
 exact ao (bT (fz (bc (CA.mono (by decide:2<=3)) hr (ae (aa 1 rfl) aj) ⟨.inl ⟨_,rfl⟩,rfl⟩) (λ_=>fG (fc M.all (aE.im (bK (own:=["row"]) (fr:=[]) (ix:=[]) (p:=λ_=>true) (f:=λ_=>true) (bu (so:=ag wk) (N0:=["web","places","rows"]) rfl rfl (λx h=>aU h) (by decide +kernel)) (aT (aa 2 rfl))
  (λC s H ex=>aI 0) (λx=>⟨.inr rfl,trivial⟩) (λC s H ex x hx=>cg) (λC s H ex x hx _=>bc CR hr (ae (aa 0 rfl) aj) ⟨_,rfl,rfl⟩)))))) (by rw[all_true];rfl))
abbrev wy:Stmt:=top mi
theorem BN:aF ["web","places","rows"] ["web"] (ag wy):=ND
def fZ (v:ay):Bool:=
 if !(decide ((1:Int)<=(v.1.length:Int))&&decide ((v.1.length:Int)<=4)) || !(decide ((1:Int)<=(v.2.length:Int))&&decide ((v.2.length:Int)<=60)) then false
 else((v.1.filter λ_=>true).map λn=>decide ((2:Int)<=n)&&decide (n<=16)).all id
def GS:cf:=λK ps T=>∃v:ay,ps=[⟨br,v⟩]/\T=bL K aX (· =fZ v)
theorem Fb (M:bR mg)(F:bC K "has_web_sizes" "has_web_sizes" wy f fd)(hm:mg "has_web_sizes"=some (.ref f))(hb:Binds K fd ["web"] []):ax P w K mg base "has_web_sizes" 1 (aG GS K):=by
 have nd:=BN.nd
 have SD:Jl [("size":Str)]:=by decide
 obtain⟨t1,h1⟩:=M.Po
 obtain⟨t2,h2⟩:=M.PQ
 obtain⟨t3,h3⟩:=M.OW
 obtain⟨t4,h4⟩:=M.O9
 refine bM F BN hm hb (λqs T ⟨x,e,_⟩=>by rw[e];rfl) (λNl A outer s H E qs T hr hS=>?_)
 obtain⟨v,rfl,rfl⟩:=hS
 refine ah (aO 1 (c8 (r:=ak af) (r':=ak bA) (aa 0 rfl)) (ah (aO 2 (a9 (r:=ak af) (r':=ak bA) (aa 0 rfl)) ?_)))
 refine ah (bF (TW.tv (ig (cw (iZ f6 f6 ai (cK M.len (aa 1 rfl)) (bV h1))) (λ_=>fY (cw (iZ f6 f6 ai (cK M.len (aa 2 rfl)) (bV h2)))))) (λh=>?_) (λh=>aW ?_))
 ·exact ao (bT dC (by rw[fZ,if_pos h]))
 ·exact ao (bT (fc M.all (aE.im (bK (own:=["size"]) (fr:=[]) (ix:=[]) (p:=λ_=>true) (f:=λn=>decide ((2:Int)<=n)&&decide (n<=16)) (bu (so:=ag wy) (N0:=["web","places","rows"]) rfl rfl (λx h=>aU h) (by decide +kernel)) (aT (aa 1 rfl))
   (λC s H ex=>aI 0) (λx=>⟨.inr rfl,trivial⟩) (λC s H ex x hx=>cg) (λC s H ex x hx _=>f7 f6 f6 (bV h3) (aa 0 rfl) (bV h4))))) (by rw[fZ,if_neg (by rw[h];decide)]))
abbrev zM:Stmt:=top m8
theorem DD:aF ["places","row","part"] ["places","row"] (ag zM):=ND
def cX (ns:Ib)(r:Row):Bool:=
 if !(decide (0<=r.1)&&decide (r.1 < (ns.length:Int))) then false
 else if !(decide (0<=r.2.1)&&decide (r.2.1 < ns.getD r.1.toNat 0)) || !(decide (0<=r.2.2.1)&&decide (r.2.2.1 < ns.getD r.1.toNat 0)) then false
 else(!decide (r.2.1=1))&&(decide (r.2.2.2= -1) ||(decide (r.1 < r.2.2.2)&&decide (r.2.2.2 < (ns.length:Int))))
def G7:cf:=λK ps T=>∃ns r,ps=[⟨ak af,ns⟩,⟨bA,r⟩]/\T=bL K aX (· =cX ns r)
theorem Fp (M:bR mg)(F:bC K "leads_within" "leads_within" zM f fd)(hm:mg "leads_within"=some (.ref f))(hb:Binds K fd ["places","row"] []):ax P w K mg base "leads_within" 1 (aG G7 K):=by
 have nd:=DD.nd
 obtain⟨t1,OC⟩:=M.end_
 obtain⟨t2,hNC⟩:=M.PL
 refine bM F DD hm hb (λqs T ⟨ns,r,e,_⟩=>by rw[e];rfl) (λNl A outer s H E qs T hr hS=>?_)
 obtain⟨ns,r,rfl,rfl⟩:=hS
 refine ah (aO 2 (gk (aa 1 rfl)) ?_)
 refine ah (bF (cw (iZ f6 dX ai (aa 2 rfl) (cK M.len (aa 0 rfl)))) (λh=>?_) (λh=>?_))
 ·exact ao (bT dC (by rw[cX,if_pos h]))
 refine aW ?_
 have h':0<=r.1/\r.1 < (ns.length:Int):=by simpa using h
 have S8:cS ns r.1=some (ns.getD r.1.toNat 0):=bY h'.1 h'.2
 refine ah (bF (TW.tv (ig (cw (iZ f6 dX ai (dA (aa 1 rfl)) (aN (aa 0 rfl) (aa 2 rfl) S8))) (λ_=>fY (cw (iZ f6 dX ai (ck (aa 1 rfl)) (aN (aa 0 rfl) (aa 2 rfl) S8)))))) (λh2=>?_) (λh2=>?_))
 ·exact ao (bT dC (by rw[cX,if_neg (by rw[h];decide),if_pos h2]))
 refine aW (ao (bT (fz (fF nR (dA (aa 1 rfl)) (bV OC)) (λ_=>fG (Fo (fF cT (n6 (aa 1 rfl)) (bV hNC)) (λ_=>fG (f7 dX dX (aa 2 rfl) (n6 (aa 1 rfl)) (cK M.len (aa 0 rfl))))))) ?_))
 rw[cX,if_neg (by rw[h];decide),if_neg (by rw[h2];decide)]
abbrev wA:Stmt:=top qy
theorem Cy:aF ["rows","part"] ["rows","part"] (ag wA):=ND
def called (rs:List Row)(p:Int):Bool:=((rs.filter λ_=>true).map λr=>decide (r.2.2.2=p)).any id
def Hd:cf:=λK ps T=>∃(rs:List Row) (p:Int),ps=[⟨ak bA,rs⟩,⟨af,p⟩]/\T=bL K aX (· =called rs p)
theorem F6 (M:bR mg)(F:bC K "is_called" "is_called" wA f fd)(hm:mg "is_called"=some (.ref f))(hb:Binds K fd ["rows","part"] []):ax P w K mg base "is_called" 1 (aG Hd K):=by
 have nd:=Cy.nd
 have SD:Jl [("row":Str),"part"]:=by decide
 refine bM F Cy hm hb (λqs T ⟨_,_,e,_⟩=>by rw[e];rfl) (λNl A outer s H E qs T hr hS=>?_)
 obtain⟨rs,p,rfl,rfl⟩:=hS
 exact ao (bT (DV M.any (aE.im (bK (own:=["row"]) (fr:=["part"]) (ix:=[1]) (p:=λ_=>true) (f:=λr=>decide (r.2.2.2=p)) (bu (so:=ag wA) (N0:=["rows","part"]) rfl rfl (λx h=>aU h) (by decide +kernel)) (aT (aa 0 rfl))
  (λC s H ex=>aI 0) (λx=>⟨.inr rfl,.inl rfl,trivial⟩) (λC s H ex x hx=>cg) (λC s H ex x hx _=>fF cT (n6 (aa 0 rfl)) (aa 1 rfl))))) rfl)
end
section
variable {n:Nat}{α:Type}{xs:List α}
theorem o8 {a b:Int}{m:Nat}(hb:0 < b)(ha:intBits a<=m):intBits (a / b)<=m:=by
 rw[← Int.fdiv_eq_ediv_of_nonneg a (Int.le_of_lt hb)];exact bits_fdiv ha
theorem lC {x y:Int}(h0:0<=x)(h1:x < 4294967296):IntMulOk x y:=.of_left (Mh (by omega) (by omega))
theorem eP {i:Int}(h0:0<=i)(h1:i < n):eR n i=some i.toNat:=by unfold eR;rw[if_pos h0,if_pos h1]
abbrev rR:Rep (Int×Int):=aP af af
theorem bj {k:Int}:k∈ups 0 n↔0<=k/\k < n:=by
 unfold ups
 rw[Jf]
 constructor
 ·rintro⟨j,hj,rfl⟩
  have:=JG.mp hj
  omega
 ·rintro⟨h0,h1⟩
  exact⟨k.toNat,JG.mpr (by omega),by omega⟩
theorem qN (n:Nat):(ups 0 n).Pairwise (· < ·):=by
 unfold ups
 rw[List.pairwise_map]
 exact List.pairwise_lt_range.imp λh=>by omega
theorem d6 (n:Nat):(ups 0 n).Nodup:=(qN n).imp λh=>by omega
theorem aB (h:n<=1000000):n<=K4:=Kq h (by decide)
theorem cA {i:Int}(d:α)(h0:0<=i)(h1:i < xs.length):cS xs i=some (xs.getD i.toNat d):=by
 rw[fX h0 h1,IF (by omega),IJ,IF (by omega)];rfl
theorem jc {y:α}(h:xs[xs.length - 1]?=some y):cS xs (-1)=some y:=by
 have hl:0 < xs.length:=by
  have:=(IG.mp h).1
  omega
 unfold cS eR
 rw[if_neg (by omega),if_pos (by omega)]
 show xs[((-1:Int) + (xs.length:Int)).toNat]?=_
 rw[show((-1:Int) + (xs.length:Int)).toNat=xs.length - 1 by omega];exact h
theorem rep0 (n:Nat):(Jd n [(0:Int)]).flatten=Jd n 0:=by
 induction n with
 | zero=>rfl
 | succ n ih=>rw[JC,J4,ih,JC];rfl
theorem ff {α:Type} [DecidableEq α]:∀{xs ys:List α},xs.Nodup->(∀x∈xs,x∈ys)->xs.length<=ys.length
 | [],_,_,_=>Ky _
 | x::xs,ys,h,hs=>by
   obtain⟨h1,h2⟩:=Jh.mp h
   have hx:x∈ys:=hs x IT
   have:=ff (xs:=xs) (ys:=ys.erase x) h2 λy hy=>(List.mem_erase_of_ne (show y≠x from λe=>h1 (e▸hy))).mpr (hs y (IK _ hy))
   rw[List.length_erase_of_mem hx] at this
   have:=Kc hx
   rw[I0]
   omega
theorem wK [DecidableEq α]{ys:List α}(h:xs.Nodup)(h':ys.Nodup)(e:∀x,x∈xs↔x∈ys):xs.length=ys.length:=
 Nat.le_antisymm (ff h λx hx=>(e x).mp hx) (ff h' λx hx=>(e x).mpr hx)
def l7 (ks:Ib):List (Int×V):=ks.map λk=>(k,.bl true)
theorem n9 (ks:Ib)(k:Int):gM (l7 ks) k=decide (k∈ks):=by
 unfold gM l7
 rw[any_map,Ip,JT]
 simp
structure qR (es:Ij) (s:Int) (ks ws:Ib):Prop where
 nd:ks.Nodup
 re:∀k∈ks,Reach es s k
 st:s∈ks
 wt:∀k∈ws,k∈ks
 bd:∀k∈ks,k∈s::es.map (·.2)
theorem qR.le {es:Ij}{s:Int}{ks ws:Ib}(h:qR es s ks ws):ks.length<=es.length + 1:=by
 have:=ff h.nd h.bd
 simpa using this
end
section
abbrev z7:Stmt:=top uZ
abbrev nRE:Ic:=["leads","start","found","waiting","place","lead"]
theorem BX:aF nRE ["leads","start"] (ag z7):=ND
def GK:cf:=λK ps T=>∃(es:Ij) (s:Int),ps=[⟨ak rR,es⟩,⟨af,s⟩]/\es.length<=100000/\T=bL K vf λkvs=>(kvs.map (·.1)).Nodup/\∀k,k∈kvs.map (·.1)↔Reach es s k
theorem FW (F:bC K "reached" "reached" z7 f fd)(hm:mg "reached"=some (.ref f))(hb:Binds K fd ["leads","start"] []):ax P w K mg base "reached" 1 (aG GK K):=by
 have nd:=BX.nd
 refine bM F BX hm hb (λqs T ⟨_,_,e,_⟩=>by rw[e];rfl) (λNl A outer s H E qs T hr hS=>?_)
 obtain⟨es,s0,rfl,hlen,rfl⟩:=hS
 have hu:=FP hr
 change WS _ _ [.im (ak rR) es,av s0,.no,.no,.no,.no] _ _
 refine ah (lV 2 (uI 1 rfl) uY (ah (cL 3 (aw (au (aa 1 rfl) aD) (by show 1<=K4;decide)) ?_)))
 refine ah (iV (λm Γ=>∃ks ws v4 v5,Γ=[.im (ak rR) es,av s0,.di (l7 ks),.mu af ws,v4,v5]/\qR es s0 ks ws/\m=2 * (es.length + 1 - ks.length) + ws.length/\m<=2 * es.length + 1/\∀k∈ks,k∉ws->∀b,(k,b)∈es->b∈ks) (m0:=2 * (es.length + 1 - 1) + 1)
  ⟨[s0],[s0],.no,.no,rfl,⟨by simp,λk hk=>by rw[II.mp hk];exact .base,II.mpr rfl,λk hk=>hk,λk hk=>by rw[II.mp hk];exact IT⟩,rfl,Kp _,λk hk hn=>absurd hk hn⟩ ?_)
 rintro m Γ ⟨ks,ws,v4,v5,rfl,hI,rfl,R7,hcl⟩
 refine⟨!ws.isEmpty,_,wB 3 rfl,λNO=>?_,λhe=>?_⟩
 ·have hws:ws≠[]:=by intro e;rw[e] at NO;exact absurd NO (by decide)
  have hpos:0 < ws.length:=Kl.mpr hws
  obtain⟨p,hp⟩:∃p,ws[ws.length - 1]?=some p:=⟨_,IF (by omega)⟩
  have hpm:p∈ws:=IQ hp
  have Pa:ws=ws.dropLast++[p]:=by
   have e:=List.dropLast_concat_getLast hws
   rw[List.getLast_eq_getElem,] at e
   rw[IF (by omega)] at hp
   rw[Option.some.inj hp] at e
   exact e.symm
  have hdl:ws.dropLast.length=ws.length - 1:=List.length_dropLast
  refine ah (aO 4 (vJ 3 rfl hp) ?_)
  refine ao (cB (r:=rR) (λi Γ=>∃OX Pz v5,Γ=[.im (ak rR) es,av s0,.di (l7 OX),.mu af Pz,av p,v5]/\qR es s0 OX Pz/\p∈OX/\2 * (es.length + 1 - OX.length) + Pz.length < 2 * (es.length + 1 - ks.length) + ws.length/\(∀k∈OX,k∉Pz->k≠p->∀b,(k,b)∈es->b∈OX)/\∀(j:Nat) b,j < i->es[j]?=some (p,b)->b∈OX)
   (aT (aa 0 rfl)) (aI 5) ⟨ks,ws.dropLast,v5,rfl,⟨hI.nd,hI.re,hI.st,λk hk=>hI.wt k (List.dropLast_subset _ hk),hI.bd⟩,hI.wt p hpm,by omega,λk hk hn R8=>hcl k hk λhw=>?_,λj b hj=>absurd hj (Nat.not_lt_zero _)⟩ ?_ ?_)
  ·rw[Pa] at hw
   rcases IS.mp hw with q | q
   ·exact hn q
   ·exact R8 (II.mp q)
  ·rintro i t Γ ht ⟨OX,Pz,u5,rfl,hJ,hp1,hme,Sf,PD⟩
   have htm:t∈es:=IQ ht
   refine ao (bF (TW.tv (iu (aK cT (c8 (aa 5 rfl)) (aa 4 rfl)) (λ_=>iX (jL 2 true hu (a9 (aa 5 rfl)) rfl)))) (λh=>?_) (λh=>aW ?_))
   ·rw[Io] at h
    have h1:t.1=p:=of_decide_eq_true h.1
    have h2:t.2∉OX:=by
     have:=h.2
     rw[if_pos rfl,n9] at this
     simpa using this
    have hJ':qR es s0 (OX++[t.2]) (Pz++[t.2]):=by
     refine⟨gz hJ.nd h2,λk hk=>?_,IX _ hJ.st,λk hk=>?_,λk hk=>?_⟩
     ·rcases IS.mp hk with q | q
      ·exact hJ.re k q
      ·rw[II.mp q]
       exact .step (hJ.re p hp1) (by rw[← h1];exact htm)
     ·rcases IS.mp hk with q | q
      ·exact IX _ (hJ.wt k q)
      ·exact IU _ q
     ·rcases IS.mp hk with q | q
      ·exact hJ.bd k q
      ·rw[II.mp q]
       exact IK _ (Jf.mpr ⟨t,htm,rfl⟩)
    have hle:=hJ'.le
    have hle1:=hJ.le
    rw[IL,Jo] at hle
    refine ah (wD 2 hu (a9 (aa 5 rfl)) uY rfl (by rw[n9];exact decide_eq_false h2) (by unfold l7;rw[IM];exact Ko (show OX.length<=100001 by omega) (by decide)) ?_)
    have ed:l7 OX++[(t.2,V.bl true)]=l7 (OX++[t.2]):=by unfold l7;rw[Jq];rfl
    rw[ed]
    have SJ:Pz.length<=400000:=by
     omega
    refine ao (bU 3 (a9 (aa 5 rfl)) rfl rfl (Ko SJ (by decide)) ?_)
    refine⟨OX++[t.2],Pz++[t.2],_,rfl,hJ',IX _ hp1,?_,λk hk hn R8 b hb=>?_,λj b hj RA=>?_⟩
    ·rw[IL,IL,Jo];omega
    ·rcases IS.mp hk with q | q
     ·exact IX _ (Sf k q (λz=>hn (IX _ z)) R8 b hb)
     ·exact absurd (IU _ q) hn
    ·rcases Kw j i with q | q
     ·exact IX _ (PD j b q RA)
     ·have:j=i:=by omega
      subst this
      rw[ht] at RA
      cases RA
      exact IU _ (II.mpr rfl)
   ·refine⟨OX,Pz,_,rfl,hJ,hp1,hme,Sf,λj b hj RA=>?_⟩
    rcases Kw j i with q | q
    ·exact PD j b q RA
    ·have:j=i:=by omega
     subst this
     rw[ht] at RA
     cases RA
     have h':=h
     rw[Bool.and_eq_false_iff] at h'
     rcases h' with z | z
     ·exact absurd rfl (of_decide_eq_false z)
     ·rw[if_pos rfl,n9] at z
      simpa using z
  ·rintro Γ ⟨OX,Pz,u5,rfl,hJ,hp1,hme,Sf,PD⟩
   refine⟨_,hme,OX,Pz,_,_,rfl,hJ,rfl,by omega,λk hk hn b hb=>?_⟩
   by_cases R8:k=p
   ·subst R8
    obtain⟨j,hj⟩:=Ja.mp hb
    exact PD j b (IG.mp hj).1 hj
   ·exact Sf k hk hn R8 b hb
 ·have hws:ws=[]:=by
   cases ws with
   | nil=>rfl
   | cons _ _=>simp at he
  subst hws
  refine ao (BY 2 rfl ?_)
  have em:(l7 ks).map (·.1)=ks:=by unfold l7;rw[JO];exact map_id ks
  rw[em]
  exact⟨hI.nd,λk=>⟨hI.re k,λhk=>Reach.sub (P:=λk=>k∈ks) hI.st (λa b ha NY=>hcl a ha (by simp) b NY) hk⟩⟩
open Classical in
noncomputable def jb (es:Ij)(s n:Int):Bool:=decide (∃ks:Ib,ks.Nodup/\(∀k,k∈ks↔Reach es s k)/\(ks.length:Int)=n)
open Classical in
theorem pw {es:Ij}{s n:Int}{ks:Ib}(h:ks.Nodup)(e:∀k,k∈ks↔Reach es s k):decide ((ks.length:Int)=n)=jb es s n:=by
 unfold jb
 by_cases hn:(ks.length:Int)=n
 ·rw[decide_eq_true hn,decide_eq_true];exact⟨ks,h,e,hn⟩
 ·rw[decide_eq_false hn,decide_eq_false]
  rintro⟨ks',h',e',S1⟩
  exact hn (by rw[← S1,wK h h' λk=>(e k).trans (e' k).symm])
def fwd (rs:List Row)(p:Int):Ij:=(rs.filter λr=>decide (r.1=p)).map λr=>(r.2.1,r.2.2.1)
def bwd (rs:List Row)(p:Int):Ij:=(rs.filter λr=>decide (r.1=p)).map λr=>(r.2.2.1,r.2.1)
noncomputable def mM (rs:List Row)(p n:Int):Bool:=jb (fwd rs p) 0 n&&jb (bwd rs p) 1 n
abbrev sP:Stmt:=top nh
abbrev BW:Ic:=["rows","part","size","ahead","behind"]
theorem Ce:aF BW ["rows","part","size"] (ag sP):=ND
def Hi:cf:=λK ps T=>∃(rs:List Row) (p n:Int),ps=[⟨ak bA,rs⟩,⟨af,p⟩,⟨af,n⟩]/\rs.length<=1000/\T=bL K aX (· =mM rs p n)
theorem FL (M:bR mg)(CR:ax P w K mg base "reached" 1 (aG GK K))(F:bC K "lies_on_ways" "lies_on_ways" sP f fd)(hm:mg "lies_on_ways"=some (.ref f))(hb:Binds K fd ["rows","part","size"] []):ax P w K mg base "lies_on_ways" 2 (aG Hi K):=by
 have nd:=Ce.nd
 have SD:Jl [("row":Str),"part"]:=by decide
 obtain⟨t1,hB⟩:=M.begin_
 obtain⟨t2,hE⟩:=M.end_
 refine bM F Ce hm hb (λqs T ⟨_,_,_,e,_⟩=>by rw[e];rfl) (λNl A outer s H E qs T hr hS=>?_)
 obtain⟨rs,p,n,rfl,hl,rfl⟩:=hS
 change WS _ _ [.im (ak bA) rs,av p,av n,.no,.no] _ _
 have lf:∀g:Row->Int×Int,((rs.filter λr=>decide (r.1=p)).map g).length<=100000:=λg=>by
  rw[IM]
  have:=Jt (λr:Row=>decide (r.1=p)) rs
  omega
 refine ah (iU 3 CR hr (ae (aE.im (bK (own:=["row"]) (fr:=["part"]) (ix:=[1]) (p:=λr=>decide (r.1=p)) (f:=λr=>(r.2.1,r.2.2.1)) (bu (so:=ag sP) (N0:=BW) rfl rfl (λx h=>aU h) (by decide +kernel)) (aT (aa 0 rfl))
  (λC s H ex=>aI 0) (λx=>⟨.inr rfl,.inl rfl,trivial⟩) (λC s H ex x hx=>i5 (aK cT (gk (aa 0 rfl)) (aa 1 rfl))) (λC s H ex x hx _=>bS (ae (dA (aa 0 rfl)) (ae (ck (aa 0 rfl)) aj))))) (ae (bV hB) aj)) ⟨_,_,rfl,lf _,rfl⟩ ?_)
 rintro kv1 ⟨n1,e1⟩
 refine ah (iU 4 CR hr (ae (aE.im (bK (own:=["row"]) (fr:=["part"]) (ix:=[1]) (p:=λr=>decide (r.1=p)) (f:=λr=>(r.2.2.1,r.2.1)) (bu (so:=ag sP) (N0:=BW) rfl rfl (λx h=>aU h) (by decide +kernel)) (aT (aa 0 rfl))
  (λC s H ex=>aI 0) (λx=>⟨.inr rfl,.inl rfl,trivial⟩) (λC s H ex x hx=>i5 (aK cT (gk (aa 0 rfl)) (aa 1 rfl))) (λC s H ex x hx _=>bS (ae (ck (aa 0 rfl)) (ae (dA (aa 0 rfl)) aj))))) (ae (bV hE) aj)) ⟨_,_,rfl,lf _,rfl⟩ ?_)
 rintro kv2 ⟨n2,e2⟩
 refine ao (bT (fz (fF cT (nZ M.len (aa 3 rfl)) (aa 2 rfl)) (λ_=>fG (fF cT (nZ M.len (aa 4 rfl)) (aa 2 rfl)))) ?_)
 have q1:=pw (n:=n) n1 e1
 have q2:=pw (n:=n) n2 e2
 rw[IM] at q1 q2
 show(decide ((kv1.length:Int)=n)&&decide ((kv2.length:Int)=n))=mM rs p n
 rw[q1,q2];rfl
abbrev qE:Stmt:=top wc
abbrev Ai:Ic:=["web","places","rows"]
theorem DS:aF Ai ["web"] (ag qE):=ND
noncomputable def fA (v:ay):Bool:=
 if !fZ v then false
 else if !((v.2.filter λ_=>true).map (cX v.1)).all id then false
 else if !(((ups (0 + 1) ((v.1.length:Int) - (0 + 1)).toNat).filter λ_=>true).map (called v.2)).all id then false
 else(((nums v.1).filter λ_=>true).map λx=>mM v.2 x.1 x.2).all id
def Cp:cf:=λK ps T=>∃v:ay,ps=[⟨br,v⟩]/\v.1.length<=1000/\v.2.length<=1000/\T=bL K aX (· =fA v)
theorem FO (M:bR mg)(C1:ax P w K mg base "has_web_form" 4 (aG GA K))(C2:ax P w K mg base "has_web_sizes" 1 (aG GS K))(C3:ax P w K mg base "leads_within" 1 (aG G7 K))(C4:ax P w K mg base "is_called" 1 (aG Hd K))(C5:ax P w K mg base "lies_on_ways" 2 (aG Hi K))(F:bC K "is_web" "is_web" qE f fd)(hm:mg "is_web"=some (.ref f))(hb:Binds K fd ["web"] []):ax P w K mg base "is_web" 5 (aG Cp K):=by
 have nd:=DS.nd
 have C2:=C2.mono (show 1<=4 by decide)
 have C3:=C3.mono (show 1<=4 by decide)
 have C4:=C4.mono (show 1<=4 by decide)
 have C5:=C5.mono (show 2<=4 by decide)
 have OO:Jl [("row":Str),"places"]:=by decide
 have Pj:Jl [("part":Str),"rows"]:=by decide
 have nd3:Jl [("part":Str),"size","rows"]:=by decide
 obtain⟨t1,QI⟩:=M.NL
 refine bM F DS hm hb (λqs T ⟨_,e,_⟩=>by rw[e];rfl) (λNl A outer s H E qs T hr hS=>?_)
 obtain⟨v,rfl,l1,l2,rfl⟩:=hS
 change WS _ _ [.im br v,.no,.no] _ _
 refine ah (bF (TW.tv (ig (cw (bE (bc C1 hr (ae (aa 0 rfl) aj) ⟨v,rfl,rfl⟩))) (λ_=>fY (cw (bE (bc C2 hr (ae (aa 0 rfl) aj) ⟨v,rfl,rfl⟩)))))) (λh=>?_) (λh=>aW ?_))
 ·have h:(!fZ v)=true:=by simpa using h
  exact ao (bT dC (by rw[fA,if_pos h]))
 have h1:(!fZ v)=false:=by simpa using h
 refine ah (aO 1 (c8 (r:=ak af) (r':=ak bA) (aa 0 rfl)) (ah (aO 2 (a9 (r:=ak af) (r':=ak bA) (aa 0 rfl)) ?_)))
 refine ah (bF (cw (bE (fc M.all (aE.im (bK (own:=["row"]) (fr:=["places"]) (ix:=[1]) (p:=λ_=>true) (f:=cX v.1) (bu (so:=ag qE) (N0:=Ai) rfl rfl (λx h=>aU h) (by decide +kernel)) (aT (aa 2 rfl))
  (λC s H ex=>aI 0) (λx=>⟨.inr rfl,.inl rfl,trivial⟩) (λC s H ex x hx=>cg) (λC s H ex x hx _=>bc C3 hr (ae (aa 1 rfl) (ae (aa 0 rfl) aj)) ⟨_,_,rfl,rfl⟩)))))) (λh=>?_) (λh=>aW ?_))
 ·exact ao (bT dC (by rw[fA,if_neg (by rw[h1];decide),if_pos h]))
 have h2:=h
 refine ah (bF (cw (bE (fc M.all (aE.im (bK (own:=["part"]) (fr:=["rows"]) (ix:=[2]) (p:=λ_=>true) (f:=called v.2) (bu (so:=ag qE) (N0:=Ai) rfl rfl (λx h=>aU h) (by decide +kernel)) (o5 M.range (bX (bV QI) ai) (cK M.len (aa 1 rfl)) ⟨by decide,by decide,by omega,by omega⟩)
  (λC s H ex=>aI 0) (λx=>⟨.inr rfl,.inl rfl,trivial⟩) (λC s H ex x hx=>cg) (λC s H ex x hx _=>bc C4 hr (ae (aa 1 rfl) (ae (aa 0 rfl) aj)) ⟨_,_,rfl,rfl⟩)))))) (λh=>?_) (λh=>aW ?_))
 ·exact ao (bT dC (by rw[fA,if_neg (by rw[h1];decide),if_neg (by rw[h2];decide),if_pos h]))
 have h3:=h
 refine ao (bT (fc M.all (aE.im (bK (own:=["part","size"]) (fr:=["rows"]) (ix:=[2]) (p:=λ_=>true) (f:=λx=>mM v.2 x.1 x.2) (bu (so:=ag qE) (N0:=Ai) rfl rfl (λx h=>aU h) (by decide +kernel)) (jX M.enumerate (aa 1 rfl))
  (λC s H ex=>gZ 0 1) (λx=>⟨.inr rfl,.inr rfl,.inl rfl,trivial⟩) (λC s H ex x hx=>cg) (λC s H ex x hx _=>bc C5 hr (ae (aa 2 rfl) (ae (aa 0 rfl) (ae (aa 1 rfl) aj))) ⟨_,_,_,rfl,l2,rfl⟩)))) ?_)
 rw[fA,if_neg (by rw[h1];decide),if_neg (by rw[h2];decide),if_neg (by rw[h3];decide)]
end
section
variable {n:Int}{s:Pu}
structure cR (n:Int) (s:Pu):Prop where
 ne:1<=s.1.length
 le:s.1.length<=63
 bits:∀c∈s.1,intBits c<=2 ^ 20
 t0:0<=s.2
 t1:s.2<=n
theorem cR.mono {n':Int}(h:cR n s)(hn:n<=n'):cR n' s:=⟨h.ne,h.le,h.bits,h.t0,IA h.t1 hn⟩
def vC (s:Pu):Nat:=(s.2 % (s.1.length:Int)).toNat
def ic (s:Pu):Int:=s.1.getD (vC s) 0
def pR (s:Pu):Int:=(ic s * 48271 + s.2 * s.2 * 69621 + 7) % 2147483647
def mZ (s:Pu):Int:=pR s * pR s % 2147483629
def gD (s:Pu)(b:Int):Int:=if 10 ^ 18<=ic s then ic s % b else mZ s * mZ s % 2147483587 % b
def iL (s:Pu)(b:Int):Pu:=if 10 ^ 18<=ic s then(s.1.set (vC s) (ic s / b),s.2 + 1) else(s.1,s.2 + 1)
theorem wN (h:cR n s):vC s < s.1.length:=by
 have h1:=IB s.2 (show(0:Int) < (s.1.length:Int) by have:=h.ne;omega)
 have h2:=IE s.2 (show(s.1.length:Int)≠0 by have:=h.ne;omega)
 unfold vC;omega
theorem k6 (h:cR n s):ic s∈s.1:=by
 unfold ic
 rw[IJ,IF (wN h)]
 exact Jb _
end
section
abbrev zI:Stmt:=top rh
abbrev nDR:Ic:=["_law_purse_here","_law_out_of","_law_cells","_law_turn","_law_at","_law_cell","_law_number"]
theorem Bv:aF nDR ["_law_purse_here","_law_out_of"] (ag zI):=ND
def me:jw Pu:=λK s ps T=>∃b:Int,cR 1000000 s/\ps=[⟨af,b⟩]/\0 < b/\b < 1000000000000000000/\T=λs'=>bL K af λy=>s'=iL s b/\y=gD s b
theorem Eu (M:bR mg)(F:bC K "_law_draw" "_law_draw" zI f fd)(hm:mg "_law_draw"=some (.ref f))(hb:Binds K fd ["_law_purse_here","_law_out_of"] []):ax P w K mg base "_law_draw" 1 (eo bg me K):=by
 have nd:=Bv.nd
 refine jh F Bv hm hb (λxs qs T ⟨b,_,e,_⟩=>by rw[e];rfl) (λNl A outer s H E a b st qs T hr hS=>?_)
 obtain⟨d,hP,rfl,b0,b1,rfl⟩:=hS
 have al:=wN hP
 have t0:=hP.t0;have t1:=hP.t1;have ne:=hP.ne;have le:=hP.le
 have hbc:=hP.bits _ (k6 hP)
 have m0:=IE st.2 (show(st.1.length:Int)≠0 by omega)
 have m1:=IB st.2 (show(0:Int) < (st.1.length:Int) by omega)
 change WS _ _ [.ob (bg.bx a b st),av d,.no,.no,.no,.no,.no] _ _
 refine ah (As 0 2 3 rfl ?_)
 refine ah (aO 4 (jM (aa 3 rfl) (za 0 2 M.len rfl rfl) (by omega)) ?_)
 refine ah (aO 5 (Al 0 2 (c:=ic st) (aa 4 rfl) rfl rfl (by rw[bY m0 m1];rfl)) ?_)
 refine ah (yx 0 (bX (aa 3 rfl) ai) rfl ?_)
 refine ah (bF (aK Dk (aa 5 rfl) (gG ai ai ⟨by decide,by decide,by decide⟩)) (λh=>?_) (λh=>aW ?_))
 ·have h:(10:Int) ^ 18<=ic st:=of_decide_eq_true h
  refine ah (xh 0 2 (n:=vC st) (zc (aa 5 rfl) (aa 1 rfl) ⟨b0,b1⟩) (aa 4 rfl) rfl rfl (eP m0 m1) ?_)
  refine ao (eQ 0 (B:=bg) (jM (aa 5 rfl) (aa 1 rfl) b0) rfl ⟨?_,?_⟩)
  ·rw[iL,if_pos h]
  ·rw[gD,if_pos h]
 ·have h:¬(10:Int) ^ 18<=ic st:=of_decide_eq_false h
  have n0:0<=pR st:=IE _ (by decide)
  have n1:pR st < 2147483647:=IB _ (by decide)
  have q0:0<=mZ st:=IE _ (by decide)
  have q1:mZ st < 2147483629:=IB _ (by decide)
  refine ah (aO 6 (EV.cast (y':=pR st) (jM (bX (bX (j5 (aa 5 rfl) ai (.of_right (by decide))) (j5 (j5 (aa 3 rfl) (aa 3 rfl) (lC t0 (by omega))) ai (.of_right (by decide)))) ai) ai (by decide)) rfl) ?_)
  refine ah (aO 6 (EV.cast (y':=mZ st) (jM (j5 (aa 6 rfl) (aa 6 rfl) (lC n0 (by omega))) ai (by decide)) rfl) ?_)
  refine ao (eQ 0 (B:=bg) (jM (jM (j5 (aa 6 rfl) (aa 6 rfl) (lC q0 (by omega))) ai (by decide)) (aa 1 rfl) b0) rfl ⟨?_,?_⟩)
  ·rw[iL,if_neg h]
  ·rw[gD,if_neg h]
theorem bP {n:Int}{s:Pu}(h:cR n s)(hn:n < 1000000){b:Int}(b0:0 < b)(b1:b < 1000000000000000000):∃y st,0<=y/\y < b/\cR (n + 1) st/\∀K,me K s [⟨af,b⟩] (λs'=>bL K af λz=>s'=st/\z=y):=by
 have hbc:=h.bits _ (k6 h)
 have t0:=h.t0;have t1:=h.t1;have ne:=h.ne;have le:=h.le
 refine⟨gD s b,iL s b,?_,?_,?_,λK=>⟨b,h.mono (by omega),rfl,b0,b1,rfl⟩⟩
 ·unfold gD;split<;>exact IE _ (by omega)
 ·unfold gD;split<;>exact IB _ b0
 ·unfold iL
  split
  ·refine⟨by rw[Jp];exact ne,by rw[Jp];exact le,λc hc=>?_,by show 0<=s.2 + 1;omega,by show s.2 + 1<=n + 1;omega⟩
   rcases JN hc with z | rfl
   ·exact h.bits c z
   ·exact o8 b0 hbc
  ·exact⟨ne,le,h.bits,by show 0<=s.2 + 1;omega,by show s.2 + 1<=n + 1;omega⟩
abbrev rq:Stmt:=top pA
abbrev GI:Ic:=["_law_script","_law_cells"]
theorem Ef:aF GI ["_law_script"] (ag rq):=ND
def Gp:cf:=λK ps T=>∃ns:Ib,ps=[⟨fU,ns⟩]/\ns.length<=63/\(∀n∈ns,intBits n<=2 ^ 20)/\T=ux (cR 0)
theorem AD {α:Type}(xs:List α)(l h:Option Int):∀x∈cut xs l h,x∈xs:=by
 intro x hx
 unfold cut at hx
 first | exact List.mem_of_mem_drop (List.mem_of_mem_take hx) | exact List.mem_of_mem_take (List.mem_of_mem_drop hx) | (simp at hx;exact hx)
theorem F2 (F:bC K "_law_purse" "_law_purse" rq f fd)(hm:mg "_law_purse"=some (.ref f))(hb:Binds K fd ["_law_script"] []):ax P w K mg base "_law_purse" 1 (aG Gp K):=by
 have nd:=Ef.nd
 refine bM F Ef hm hb (λqs T ⟨_,e,_⟩=>by rw[e];rfl) (λNl A outer s H E qs T hr hS=>?_)
 obtain⟨ns,rfl,hl,Oz,rfl⟩:=hS
 have hu:(A.deeper (KP "_law_purse" (ag rq) s.heap.objs.size f Nl)).units + 1 < cLine:=Ko (Ks (by decide:1<=64) _) hr.units
 change WS _ _ [.im fU ns,.no] _ _
 refine ah (cL 1 (uM (aa 0 rfl) eB (eC ai)) ?_)
 have cl:(cut ns none (some 63)).length<=63:=Kq (fO _ _ _) hl
 have cb:∀n∈cut ns none (some 63),intBits n<=2 ^ 20:=λn hn=>Oz n (AD ns none (some 63) n hn)
 generalize cut ns none (some 63)=cs at cl cb
 have fin:∀xs:Ib,1<=xs.length->xs.length<=63->(∀n∈xs,intBits n<=2 ^ 20)->WS (bQ dW P w K mg base GI "_law_purse" (ag rq) f Nl A outer s H E).cO ((bG rq).drop 2) [.im fU ns,.mu af xs] (λ_=>False) (ux (cR 0)):=by
  intro xs h1 h2 h3
  refine WS.box 1 rfl λb=>?_
  exact ao (A1 1 (aw (au (yU 1 rfl) (au (EV.ET ai) aD)) (by show 2<=K4;decide)) rfl ⟨h1,h2,h3,ID _,ID _⟩)
 refine ah (bF (TV.N6 (pT (i:=1) rfl (aB (by omega))) (aK (zQ (r:=af) eq_int hu) (aa 1 rfl) (aE.im (aw aD (by decide))))) (λh=>?_) (λh=>aW ?_))
 ·refine ao (cL 1 (r:=af) (aw (au ai aD) (by show 1<=K4;decide)) ?_)
  exact fin [0] (by simp) (by simp) (by intro n hn;rw[II.mp hn];decide)
 ·have h:cs≠[]:=of_decide_eq_false h
  exact fin cs (by cases cs with
   | nil=>exact absurd rfl h
   | cons=>simp) cl cb
end
section
variable {a b n:Int}{Nq:Ij}
def md (t:Int×Int):Int×Int:=(t.2,t.1)
theorem gA {es:Ij}:(a,b)∈es.map md↔(b,a)∈es:=by
 rw[Jf]
 constructor
 ·rintro⟨⟨x,y⟩,h,e⟩
  simp only[md,KO] at e
  rw[← e.1,← e.2];exact h
 ·intro h;exact⟨(b,a),h,rfl⟩
structure e9 (many:Int) (Nq:Ij):Prop where
 m2:2<=many
 bd:∀t∈Nq,0<=t.1/\t.1 < many/\t.1≠1/\0<=t.2/\t.2 < many
 fw:∀k,0<=k->k < many->Reach Nq 0 k
 bw:∀k,0<=k->k < many->Reach (Nq.map md) 1 k
theorem Reach.mono {es QL:Ij}{s:Int}(h:∀t∈es,t∈QL){k:Int}(r:Reach es s k):Reach QL s k:=Reach.sub .base (λ_ _ ha NY=>.step ha (h _ NY)) r
theorem e9.more (h:e9 n Nq)(a0:0<=a)(a1:a < n)(an:a≠1)(b0:0<=b)(b1:b < n):e9 n (Nq++[(a,b)]):=by
 refine⟨h.m2,λt ht=>?_,λk k0 k1=>Reach.mono (λt ht=>IX _ ht) (h.fw k k0 k1),λk k0 k1=>Reach.mono (λt ht=>?_) (h.bw k k0 k1)⟩
 ·rcases IS.mp ht with z | z
  ·exact h.bd t z
  ·rw[II.mp z];exact⟨a0,a1,an,b0,b1⟩
 ·rw[Jq];exact IX _ ht
theorem e9.split (h:e9 n Nq){i:Nat}(hi:Nq[i]?=some (a,b)):e9 (n + 1) (Nq.set i (a,n)++[(n,b)]):=by
 have il:=(IG.mp hi).1
 have hm:=h.m2
 have NY:=h.bd _ (IQ hi)
 have e1:(a,n)∈Nq.set i (a,n)++[(n,b)]:=IX _ (Ja.mpr ⟨i,Ji il⟩)
 have e2:(n,b)∈Nq.set i (a,n)++[(n,b)]:=IU _ (by simp)
 have keep:∀t∈Nq,t=(a,b)∨t∈Nq.set i (a,n)++[(n,b)]:=λt ht=>by
  obtain⟨j,hj⟩:=Ja.mp ht
  by_cases e:i=j
  ·subst e;rw[hi] at hj;cases hj;exact .inl rfl
  ·exact .inr (IX _ (Ja.mpr ⟨j,by rw[Jk e];exact hj⟩))
 have fw:∀{k:Int},Reach Nq 0 k->Reach (Nq.set i (a,n)++[(n,b)]) 0 k:=λr=>Reach.sub .base (λx y hx Qy=>by
  rcases keep _ Qy with z | z
  ·cases z;exact .step (.step hx e1) e2
  ·exact .step hx z) r
 have bw:∀{k:Int},Reach (Nq.map md) 1 k->Reach ((Nq.set i (a,n)++[(n,b)]).map md) 1 k:=λr=>Reach.sub .base (λx y hx Qy=>by
  rcases keep _ (gA.mp Qy) with z | z
  ·cases z;exact .step (.step hx (gA.mpr e2)) (gA.mpr e1)
  ·exact .step hx (gA.mpr z)) r
 refine⟨by omega,λt ht=>?_,λk k0 k1=>?_,λk k0 k1=>?_⟩
 ·rcases IS.mp ht with z | z
  ·rcases JN z with z | z
   ·have:=h.bd t z;omega
   ·rw[z];exact⟨NY.1,by show a < n + 1;omega,NY.2.2.1,by show 0<=n;omega,by show n < n + 1;omega⟩
  ·rw[II.mp z];exact⟨by show 0<=n;omega,by show n < n + 1;omega,by show n≠1;omega,NY.2.2.2.1,by show b < n + 1;omega⟩
 ·by_cases e:k=n
  ·rw[e];exact .step (fw (h.fw a NY.1 NY.2.1)) e1
  ·exact fw (h.fw k k0 (by omega))
 ·by_cases e:k=n
  ·rw[e];exact .step (bw (h.bw b NY.2.2.2.1 NY.2.2.2.2)) (gA.mpr e2)
  ·exact bw (h.bw k k0 (by omega))
theorem e9.ren (h:e9 n Nq){g:Int->Int}(gb:∀k,0<=k->k < n->0<=g k/\g k < n)(gs:∀k,0<=k->k < n->∃j,0<=j/\j < n/\g j=k)(g0:g 0=0)(g1:g 1=1)(gi:∀k,0<=k->k < n->g k=1->k=1):e9 n (Nq.map λ(t:Int×Int)=>(g t.1,g t.2)):=by
 have fw:∀{k:Int},Reach Nq 0 k->Reach (Nq.map λ(t:Int×Int)=>(g t.1,g t.2)) 0 (g k):=λr=>by
  refine Reach.sub (P:=λk=>Reach (Nq.map λ(t:Int×Int)=>(g t.1,g t.2)) 0 (g k)) (by rw[g0];exact .base) (λx y hx Qy=>.step hx (Jf.mpr ⟨_,Qy,rfl⟩)) r
 have bw:∀{k:Int},Reach (Nq.map md) 1 k->Reach ((Nq.map λ(t:Int×Int)=>(g t.1,g t.2)).map md) 1 (g k):=λr=>by
  refine Reach.sub (P:=λk=>Reach ((Nq.map λ(t:Int×Int)=>(g t.1,g t.2)).map md) 1 (g k)) (by rw[g1];exact .base) (λx y hx Qy=>.step hx (gA.mpr (Jf.mpr ⟨_,gA.mp Qy,rfl⟩))) r
 refine⟨h.m2,λt ht=>?_,λk k0 k1=>?_,λk k0 k1=>?_⟩
 ·obtain⟨u,hu,rfl⟩:=Jf.mp ht
  have b:=h.bd u hu
  have b1:=gb u.1 b.1 b.2.1
  have b2:=gb u.2 b.2.2.2.1 b.2.2.2.2
  exact⟨b1.1,b1.2,λe=>b.2.2.1 (gi u.1 b.1 b.2.1 e),b2.1,b2.2⟩
 ·obtain⟨j,j0,j1,rfl⟩:=gs k k0 k1
  exact fw (h.fw j j0 j1)
 ·obtain⟨j,j0,j1,rfl⟩:=gs k k0 k1
  exact bw (h.bw j j0 j1)
structure kc (n:Nat) (xs:Ib):Prop where
 len:xs.length=n
 nd:xs.Nodup
 mem:∀k,k∈xs↔0<=k/\k < (n:Int)
theorem kd {α:Type}{k:Nat}{y:α}{xs:List α}:(cJ k y xs).Perm (y::xs):=by
 unfold cJ
 have:=List.perm_middle (a:=y) (l₁:=xs.take k) (l₂:=xs.drop k)
 rwa [Kh] at this
theorem kc.ins {n:Nat}{xs:Ib}(h:kc n xs)(k:Nat):kc (n + 1) (cJ k (n:Int) xs):=by
 have p:=kd (k:=k) (y:=(n:Int)) (xs:=xs)
 refine⟨by rw[p.length_eq,I0,h.len],p.nodup_iff.mpr (Jh.mpr ⟨λz=>by have:=(h.mem _).mp z;omega,h.nd⟩),λj=>?_⟩
 rw[p.mem_iff,IY,h.mem]
 omega
end
section
abbrev zH:Stmt:=top pF
abbrev nOR:Ic:=["_law_purse_here","_law_many","_law_found","_law_k"]
theorem B7:aF nOR ["_law_purse_here","_law_many"] (ag zH):=ND
def c9 (s:Pu):Nat->Pu×Ib
 | 0=>(s,[])
 | k + 1=>(iL (c9 s k).1 ((k:Int) + 1),cJ (gD (c9 s k).1 ((k:Int) + 1)).toNat (k:Int) (c9 s k).2)
theorem jx {n:Int}{s:Pu}(h:cR n s):∀m:Nat,n + m<=200000->cR (n + m) (c9 s m).1/\kc m (c9 s m).2
 | 0,_=>⟨h.mono (by omega),rfl,J8,λk=>by simp[c9]<;>omega⟩
 | k + 1,hk=>by
   have hn0:0<=n:=IA h.t0 h.t1
   obtain⟨h1,h2⟩:=jx h k (by omega)
   refine⟨?_,h2.ins _⟩
   obtain⟨y,st,_,_,h3,h4⟩:=bP h1 (by omega) (b:=(k:Int) + 1) (by omega) (by omega)
   have hbc:=h1.bits _ (k6 h1)
   show cR _ (iL (c9 s k).1 ((k:Int) + 1))
   have t0:=h1.t0;have t1:=h1.t1;have ne:=h1.ne;have le:=h1.le
   unfold iL
   split
   ·refine⟨by rw[Jp];exact ne,by rw[Jp];exact le,λc hc=>?_,by show 0<=(c9 s k).1.2 + 1;omega,by show(c9 s k).1.2 + 1<=_;omega⟩
    rcases JN hc with z | rfl
    ·exact h1.bits c z
    ·exact o8 (by omega) hbc
   ·exact⟨ne,le,h1.bits,by show 0<=(c9 s k).1.2 + 1;omega,by show(c9 s k).1.2 + 1<=_;omega⟩
def zR:jw Pu:=λK s ps T=>∃(n:Int) (m:Nat),cR n s/\0<=n/\n<=100000/\ps=[⟨af,(m:Int)⟩]/\m<=100/\T=λs'=>bL K (ak af) λxs=>s'=(c9 s m).1/\xs=(c9 s m).2
theorem tu {n:Int}{s:Pu}(h:cR n s)(n0:0<=n)(hn:n<=100000){m:Nat}(hm:m<=100):∃xs st,cR (n + m) st/\kc m xs/\∀K,zR K s [⟨af,(m:Int)⟩] (λs'=>bL K (ak af) λz=>s'=st/\z=xs):=by
 obtain⟨h1,h2⟩:=jx h m (by omega)
 exact⟨_,_,h1,h2,λK=>⟨n,m,h,n0,hn,rfl,hm,rfl⟩⟩
theorem EM (M:bR mg)(CD:ax P w K mg base "_law_draw" 1 (eo bg me K))(F:bC K "_law_order" "_law_order" zH f fd)(hm:mg "_law_order"=some (.ref f))(hb:Binds K fd ["_law_purse_here","_law_many"] []):ax P w K mg base "_law_order" 2 (eo bg zR K):=by
 have nd:=B7.nd
 refine jh F B7 hm hb (λxs qs T ⟨_,_,_,_,_,e,_⟩=>by rw[e];rfl) (λNl A outer s H E a b st qs T hr hS=>?_)
 obtain⟨n,m,hP,n0,n1,rfl,hm,rfl⟩:=hS
 change WS _ _ [.ob (bg.bx a b st),av (m:Int),.no,.no] _ _
 refine ah (cL 2 (r:=af) (aw aD (by decide)) ?_)
 refine ah (cB (r:=af) (λi Γ=>∃v3,Γ=[.ob (bg.bx a b (c9 st i).1),av (m:Int),.mu af (c9 st i).2,v3])
  (d5 M.range (aa 1 rfl) ⟨by omega,by omega⟩) (aI 3) ⟨_,rfl⟩ ?_ ?_)
 ·rintro i x Γ hx ⟨v3,rfl⟩
  obtain⟨hi,rfl⟩:=ip hx
  obtain⟨Om,hX⟩:=jx hP i (by omega)
  have hl:=hX.len
  have e0:(0:Int) + (i:Int)=(i:Int):=by omega
  have hb1:0<=gD (c9 st i).1 ((i:Int) + 1)/\gD (c9 st i).1 ((i:Int) + 1) < (i:Int) + 1:=by
   unfold gD;split<;>exact⟨IE _ (by omega),IB _ (by omega)⟩
  refine ao (nG 2 (k:=gD (c9 st i).1 ((i:Int) + 1)) (bo 0 (st:=iL (c9 st i).1 ((i:Int) + 1)) CD hr (ae (EV.cast (y':=(i:Int) + 1) (bX (aa 3 rfl) ai) (by omega)) aj) rfl rfl ⟨_,Om.mono (by omega),rfl,by omega,by omega,rfl⟩) (EV.cast (y':=(i:Int)) (aa 3 rfl) e0) rfl rfl hb1.1 (by omega) (Ko (show(c9 st i).2.length<=1000 by omega) (by decide)) ?_)
  exact⟨_,rfl⟩
 ·rintro Γ ⟨v3,rfl⟩
  rw[aC]
  obtain⟨Om,hX⟩:=jx hP m (by omega)
  have hl:=hX.len
  rw[show((m:Int)).toNat=m by omega]
  exact ao (eQ 0 (B:=bg) (dm 2 rfl (aB (by omega))) rfl ⟨rfl,rfl⟩)
end
section
variable {i:Nat}{loose:Bool}{od:Ib}{rows:Ij}{α:Type}{y:α}{xs:List α}{x:Int}
theorem qp {k:Nat}(h:i < k)(hk:k<=xs.length):(cJ k y xs)[i]?=xs[i]?:=by
 unfold cJ
 rw[Jn (by rw[Jm];omega),List.getElem?_take_of_lt h]
theorem qv {k:Nat}(hk:k<=xs.length):(cJ k y xs)[k]?=some y:=by
 unfold cJ
 rw[Jg (by rw[Jm];omega),Jm,Nat.min_eq_left hk,Kz];rfl
theorem rf {k:Nat}(h:k<=i)(hk:k<=xs.length):(cJ k y xs)[i + 1]?=xs[i]?:=by
 unfold cJ
 rw[Jg (by rw[Jm];omega),Jm,Nat.min_eq_left hk,show i + 1 - k=(i - k) + 1 by omega,List.getElem?_cons_succ,List.getElem?_drop]
 congr 1;omega
structure gQ (loose:Bool) (od:Ib) (rows:Ij):Prop where
 pm:kc od.length od
 l2:2<=od.length
 first:od[0]?=some 0
 last:od[od.length - 1]?=some 1
 good:e9 od.length rows
 up:loose=true->∀t∈rows,∃(i j:Nat),od[i]?=some t.1/\od[j]?=some t.2/\i < j
theorem gQ.bse (loose:Bool):gQ loose [0,1] [(0,1)]:=by
 refine⟨⟨rfl,by decide,λk=>by simp;omega⟩,by decide,rfl,rfl,⟨by decide,λt ht=>?_,λk k0 k1=>?_,λk k0 k1=>?_⟩,λ_ t ht=>?_⟩
 ·rw[II.mp ht];decide
 ·have k1:k < 2:=k1
  rcases(show k=0∨k=1 by omega) with rfl | rfl
  ·exact .base
  ·exact .step .base (by simp)
 ·have k1:k < 2:=k1
  rcases(show k=0∨k=1 by omega) with rfl | rfl
  ·exact .step (a:=1) .base (by simp[md])
  ·exact .base
 ·rw[II.mp ht];exact⟨0,1,rfl,rfl,by decide⟩
theorem gQ.ne1 (h:gQ loose od rows)(hi:od[i]?=some x)(hl:i + 1 < od.length):x≠1:=λe=>by
 subst e
 have a:=(IG.mp hi)
 have b:=(IG.mp h.last)
 have:=(JI (h₀:=a.1) (h₁:=b.1) h.pm.nd).mp (a.2.trans b.2.symm)
 omega
theorem gQ.bd (h:gQ loose od rows)(hi:od[i]?=some x):0<=x/\x < (od.length:Int):=(h.pm.mem x).mp (IQ hi)
theorem gQ.more (h:gQ loose od rows){j:Nat}{y:Int}(hi:od[i]?=some x)(hj:od[j]?=some y)(hl:i + 1 < od.length)(Ox:loose=true->i < j):gQ loose od (rows++[(x,y)]):=by
 have bx:=h.bd hi
 have by_:=h.bd hj
 refine⟨h.pm,h.l2,h.first,h.last,h.good.more bx.1 bx.2 (h.ne1 hi hl) by_.1 by_.2,λe t ht=>?_⟩
 rcases IS.mp ht with z | z
 ·exact h.up e t z
 ·rw[II.mp z];exact⟨i,j,hi,hj,Ox e⟩
theorem gQ.split {loose:Bool}{od:Ib}{rows:Ij}(h:gQ loose od rows){r q:Nat}{x y:Int}(hr:rows[r]?=some (x,y))(q0:1<=q)(q1:q + 1<=od.length)(hq:loose=true->∃(i j:Nat),od[i]?=some x/\od[j]?=some y/\i < q/\q<=j):
 gQ loose (cJ q (od.length:Int) od) (rows.set r (x,(od.length:Int))++[((od.length:Int),y)]):=by
 have ln:(cJ q (od.length:Int) od).length=od.length + 1:=by rw[kd.length_eq];rfl
 have l2:=h.l2
 have sh:∀{i:Nat} {z:Int},od[i]?=some z->(cJ q (od.length:Int) od)[if i < q then i else i + 1]?=some z:=λ{i z} hi=>by
  split
  ·rename_i hl;rw[qp hl (by omega)];exact hi
  ·rename_i hl;rw[rf (by omega) (by omega)];exact hi
 refine⟨by rw[ln];exact h.pm.ins q,by omega,by rw[qp (by omega) (by omega)];exact h.first,?_,by rw[ln];exact h.good.split hr,λe t ht=>?_⟩
 ·rw[ln,show od.length + 1 - 1=(od.length - 1) + 1 by omega,rf (by omega) (by omega)];exact h.last
 ·obtain⟨i,j,hi,hj,iq,qj⟩:=hq e
  rcases IS.mp ht with z | z
  ·rcases JN z with z | z
   ·obtain⟨i',j',a,b,c⟩:=h.up e t z
    exact⟨_,_,sh a,sh b,by split<;>split<;>omega⟩
   ·rw[z];exact⟨_,q,sh hi,qv (by omega),by rw[if_pos iq];exact iq⟩
  ·rw[II.mp z]
   exact⟨q,_,qv (by omega),sh hj,by rw[if_neg (by omega)];omega⟩
structure k9 (loose:Bool) (m:Nat) (size:Int) (Nq:Ij):Prop where
 good:e9 size Nq
 le:size<=16
 len:Nq.length=m + 1
 up:loose=true->∃rk:Int->Int,∀t∈Nq,rk t.1 < rk t.2
def ir (names:Ib)(k:Int):Int:=names.getD k.toNat 0
theorem gQ.fin (h:gQ loose od rows){xs:Ib}(hx:kc (od.length - 2) xs)(Tz:od.length<=16){m:Nat}(hm:rows.length=m + 1):k9 loose m od.length (rows.map λ(t:Int×Int)=>(ir ([0,1]++xs.map (2 + ·)) t.1,ir ([0,1]++xs.map (2 + ·)) t.2)):=by
 have l2:=h.l2
 have hl:=hx.len
 have n0:ir ([0,1]++xs.map (2 + ·)) 0=0:=rfl
 have n1:ir ([0,1]++xs.map (2 + ·)) 1=1:=rfl
 have n2:∀k:Nat,k < xs.length->ir ([0,1]++xs.map (2 + ·)) ((k:Int) + 2)=2 + xs.getD k 0:=λk hk=>by
  unfold ir
  rw[show((k:Int) + 2).toNat=k + 2 by omega]
  show((xs.map (2 + ·)).getD k 0)=_
  rw[IJ,IJ,Je,IF hk];rfl
 have xb:∀k:Nat,k < xs.length->0<=xs.getD k 0/\xs.getD k 0 < ((od.length - 2:Nat):Int):=λk hk=>(hx.mem _).mp (by rw[IJ,IF hk];exact Jb _)
 have cs:∀k:Int,0<=k->k < (od.length:Int)->k=0∨k=1∨∃j:Nat,j < xs.length/\k=(j:Int) + 2:=λk k0 k1=>by
  rcases(show k=0∨k=1∨2<=k by omega) with z | z | z
  ·exact .inl z
  ·exact .inr (.inl z)
  ·exact .inr (.inr ⟨(k - 2).toNat,by omega,by omega⟩)
 have inj:∀k j:Int,0<=k->k < (od.length:Int)->0<=j->j < (od.length:Int)->ir ([0,1]++xs.map (2 + ·)) k=ir ([0,1]++xs.map (2 + ·)) j->k=j:=by
  intro k j k0 k1 j0 j1 e
  rcases cs k k0 k1 with rfl | rfl | ⟨a,ha,rfl⟩<;>rcases cs j j0 j1 with rfl | rfl | ⟨b,hb,rfl⟩<;>simp only[n0,n1] at e<;>try rfl
  ·exact absurd e (by decide)
  ·rw[n2 b hb] at e;have:=xb b hb;omega
  ·exact absurd e (by decide)
  ·rw[n2 b hb] at e;have:=xb b hb;omega
  ·rw[n2 a ha] at e;have:=xb a ha;omega
  ·rw[n2 a ha] at e;have:=xb a ha;omega
  ·rw[n2 a ha,n2 b hb] at e
   have e:xs.getD a 0=xs.getD b 0:=by omega
   rw[IJ,IJ,IF ha,IF hb] at e
   have:=(JI (h₀:=ha) (h₁:=hb) hx.nd).mp e
   omega
 refine⟨h.good.ren (λk k0 k1=>?_) (λk k0 k1=>?_) n0 n1 (λk k0 k1 e=>inj k 1 k0 k1 (by omega) (by omega) (by rw[e,n1])),by omega,by rw[IM];exact hm,λe=>?_⟩
 ·rcases cs k k0 k1 with rfl | rfl | ⟨a,ha,rfl⟩
  ·rw[n0];omega
  ·rw[n1];omega
  ·rw[n2 a ha];have:=xb a ha;omega
 ·rcases cs k k0 k1 with rfl | rfl | ⟨a,ha,rfl⟩
  ·exact⟨0,by omega,by omega,n0⟩
  ·exact⟨1,by omega,by omega,n1⟩
  ·have:(a:Int)∈xs:=(hx.mem _).mpr (by omega)
   obtain⟨j,hj,e⟩:=JM.mp this
   refine⟨(j:Int) + 2,by omega,by omega,?_⟩
   rw[n2 j hj,IJ,IF hj]
   show 2 + xs[j]=_
   omega
 ·classical
  -- PB rank of a name:where PB place Rf in PB order
  let g:=ir ([0,1]++xs.map (2 + ·))
  refine⟨λz=>if hz:∃k:Int,0<=k/\k < (od.length:Int)/\g k=z then((od.idxOf hz.choose:Nat):Int) else 0,λt ht=>?_⟩
  obtain⟨u,hu,rfl⟩:=Jf.mp ht
  have b:=h.good.bd u hu
  obtain⟨i,j,hi,hj,Ox⟩:=h.up e u hu
  have rk:∀k:Int,0<=k->k < (od.length:Int)->∀n:Nat,od[n]?=some k->(if hz:∃k':Int,0<=k'/\k' < (od.length:Int)/\g k'=g k then((od.idxOf hz.choose:Nat):Int) else 0)=n:=by
   intro k k0 k1 n hn
   have hz:∃k':Int,0<=k'/\k' < (od.length:Int)/\g k'=g k:=⟨k,k0,k1,rfl⟩
   rw[dif_pos hz]
   have hc:=hz.choose_spec
   have:hz.choose=k:=inj _ _ hc.1 hc.2.1 k0 k1 hc.2.2
   rw[this]
   have nl:=(IG.mp hn)
   have:=Jl.idxOf_getElem h.pm.nd n nl.1
   rw[nl.2] at this
   rw[this]
  show(if hz:_ then _ else _) < (if hz:_ then _ else _)
  rw[rk u.1 b.1 b.2.1 i hi,rk u.2 b.2.2.2.1 b.2.2.2.2 j hj]
  omega
end
section
abbrev lu:Stmt:=top qa
abbrev xa:Ic:=["_law_purse_here","_law_many","_law_loose","_law_order_here","_law_rows","_law_k","_law_size","_law_at","_law_one","_law_other","_law_low","_law_names"]
theorem Dd:aF xa ["_law_purse_here","_law_many","_law_loose"] (ag lu):=ND
def G5:jw Pu:=λK s ps T=>∃(n:Int) (m:Nat) (loose:Bool),cR n s/\n<=10000/\ps=[⟨af,(m:Int)⟩,⟨aX,loose⟩]/\m<=30/\T=λs'=>bL K (aP af (ak (gB af))) λz=>cR (n + 200) s'/\k9 loose m z.1 z.2
theorem Ff (M:bR mg)(CD:ax P w K mg base "_law_draw" 1 (eo bg me K))(CO:ax P w K mg base "_law_order" 2 (eo bg zR K))(F:bC K "_law_part" "_law_part" lu f fd)(hm:mg "_law_part"=some (.ref f))(hb:Binds K fd ["_law_purse_here","_law_many","_law_loose"] []):ax P w K mg base "_law_part" 3 (eo bg G5 K):=by
 have nd:=Dd.nd
 have OO:Jl [("_law_place":Str)]:=by decide
 have Pj:Jl [("_law_one":Str),"_law_other","_law_names"]:=by decide
 have CD:=CD.mono (show 1<=2 by decide)
 refine jh F Dd hm hb (λxs qs T ⟨_,_,_,_,_,e,_⟩=>by rw[e];rfl) (λNl A outer s H E a b st qs T hr hS=>?_)
 obtain⟨n,m,loose,hP,n1,rfl,hm,rfl⟩:=hS
 have hu:(A.deeper (KP "_law_part" (ag lu) s.heap.objs.size f Nl)).units + 1 < cLine:=Ko (Ks (by decide:1<=64) _) hr.units
 have n0:0<=n:=IA hP.t0 hP.t1
 change WS _ _ [.ob (bg.bx a b st),av (m:Int),.im aX loose,.no,.no,.no,.no,.no,.no,.no,.no,.no] _ _
 refine ah (cL 3 (r:=af) (aw (au ai (au ai aD)) (by show 2<=K4;decide)) ?_)
 refine ah (cL 4 (r:=gB af) (aw (au (EV.two (aE.im (aw (au ai (au ai aD)) (by show 2<=K4;decide)))) aD) (by show 1<=K4;decide)) ?_)
 refine ah (cB (r:=af) (λi Γ=>∃st od rows v5 v6 v7 v8 v9 v10,Γ=[.ob (bg.bx a b st),av (m:Int),.im aX loose,.mu af od,.mu (gB af) rows,v5,v6,v7,v8,v9,v10,.no]/\cR (n + 4 * i) st/\gQ loose od rows/\rows.length=i + 1/\od.length<=16)
  (d5 M.range (aa 1 rfl) ⟨by omega,by omega⟩) (aI 5) ⟨st,[0,1],[(0,1)],_,_,_,_,_,_,rfl,hP.mono (by omega),gQ.bse loose,rfl,by decide⟩ ?_ ?_)
 ·rintro i x Γ hx ⟨st,od,rows,v5,v6,v7,v8,v9,v10,rfl,hP,hO,hlen,Tz⟩
  obtain⟨hi,rfl⟩:=ip hx
  have l2:=hO.l2
  have zz:∀{k:Nat},k<=1000->k < K4:=λh=>Ko h (by decide)
  refine ah (aO 6 (eA 3 M.len rfl) ?_)
  have more:∀(OE:Pu),cR (n + 4 * i + 1) OE->WS (bQ dW P w K mg base xa "_law_part" (ag lu) f Nl A outer s H E).cO
   (match (bG lu).getD 2 (.Pass ⟨0,0,0,0⟩) with | .For _ _ body _ _=>(match body.getD 1 (.Pass ⟨0,0,0,0⟩) with | .If _ _ els _=>els | _=>[]) | _=>[])
   [.ob (bg.bx a b OE),av (m:Int),.im aX loose,.mu af od,.mu (gB af) rows,av (0 + (i:Int)),av (od.length:Int),v7,v8,v9,v10,.no]
   (λΓ=>∃st od rows v5 v6 v7 v8 v9 v10,Γ=[.ob (bg.bx a b st),av (m:Int),.im aX loose,.mu af od,.mu (gB af) rows,v5,v6,v7,v8,v9,v10,.no]/\cR (n + 4 * ((i + 1:Nat):Int)) st/\gQ loose od rows/\rows.length=i + 1 + 1/\od.length<=16)
   (xB K bg a b λs'=>bL K (aP af (ak (gB af))) λz=>cR (n + 200) s'/\k9 loose m z.1 z.2):=by
   intro OE Om
   have gt:∀{k:Int},0<=k->k < (od.length:Int)->∃y,od[k.toNat]?=some y:=λk0 k1=>⟨_,IF (by omega)⟩
   refine ao (bF (bE (aa 2 rfl)) (λhl=>?_) (λhl=>?_))
   ·obtain⟨c,OT,c0,c1,OK,Px⟩:=bP Om (by omega) (b:=(od.length:Int) - 1) (by omega) (by omega)
    refine ah (aO 10 (bo 0 CD hr (ae (dy (aa 6 rfl) ai) aj) rfl rfl (Px _)) ?_)
    obtain⟨d,OB,d0,d1,OJ,O2⟩:=bP OK (by omega) (b:=(od.length:Int) - 1 - c) (by omega) (by omega)
    obtain⟨y1,h1⟩:=gt c0 (by omega)
    obtain⟨y2,h2⟩:=gt (k:=c + 1 + d) (by omega) (by omega)
    refine ao (bU 4 (EV.two (aE.im (aw (au (eV 3 (y:=y1) (aa 10 rfl) rfl rfl (by rw[fX c0 (by omega)];exact h1)) (au (eV 3 (y:=y2) (bX (bX (aa 10 rfl) ai) (bo 0 CD hr (ae (dy (dy (aa 6 rfl) ai) (aa 10 rfl)) aj) rfl rfl (O2 _))) rfl rfl (by rw[fX (by omega) (by omega)];exact h2)) aD)) (by show 2<=K4;decide)))) rfl rfl (zz (by omega)) ?_)
    exact⟨OB,_,_,_,_,_,_,_,_,rfl,OJ.mono (by omega),hO.more h1 h2 (by omega) (λ_=>by omega),by rw[IL];simp;omega,Tz⟩
   ·obtain⟨c,OT,c0,c1,OK,Px⟩:=bP Om (by omega) (b:=(od.length:Int) - 1) (by omega) (by omega)
    obtain⟨d,OB,d0,d1,OJ,O2⟩:=bP OK (by omega) (b:=(od.length:Int)) (by omega) (by omega)
    obtain⟨y1,h1⟩:=gt c0 (by omega)
    obtain⟨y2,h2⟩:=gt d0 d1
    refine ao (bU 4 (EV.two (aE.im (aw (au (eV 3 (y:=y1) (bo 0 CD hr (ae (dy (aa 6 rfl) ai) aj) rfl rfl (Px _)) rfl rfl (by rw[fX c0 (by omega)];exact h1)) (au (eV 3 (y:=y2) (bo 0 CD hr (ae (aa 6 rfl) aj) rfl rfl (O2 _)) rfl rfl (by rw[fX d0 (by omega)];exact h2)) aD)) (by show 2<=K4;decide)))) rfl rfl (zz (by omega)) ?_)
    exact⟨OB,_,_,_,_,_,_,_,_,rfl,OJ.mono (by omega),hO.more h1 h2 (by omega) (λe=>by rw[hl] at e;cases e),by rw[IL];simp;omega,Tz⟩
  by_cases hsz:od.length < 16
  ·obtain⟨c,OE,c0,c1,Om,QF⟩:=bP hP (by omega) (b:=2) (by decide) (by decide)
   refine ao (bF (TW.tv (An (TV.cast (aK dX (aa 6 rfl) ai) (decide_eq_true (by omega))) (yJ (aK cT (bo 0 CD hr (ae ai aj) rfl rfl (QF _)) ai)))) (λh=>?_) (λh=>more OE Om))
   obtain⟨k,OT,k0,k1,OK,Px⟩:=bP Om (by omega) (b:=(rows.length:Int)) (by omega) (by omega)
   refine ah (aO 7 (bo 0 CD hr (ae (eA 4 M.len rfl) aj) rfl rfl (Px _)) ?_)
   obtain⟨t,ht⟩:∃t,rows[k.toNat]?=some t:=⟨_,IF (by omega)⟩
   have at1:cS rows k=some t:=by rw[fX k0 (by omega),ht]
   refine ah (zp (eV 4 (aa 7 rfl) rfl rfl at1) (oA 8 9) ?_)
   -- what comes of either
   have fin:∀(OB:Pu) (q:Nat) Sn,cR (n + 4 * i + 3) OB->1<=q->q + 1<=od.length->(loose=true->∃(i j:Nat),od[i]?=some t.1/\od[j]?=some t.2/\i < q/\q<=j)->WS (bQ dW P w K mg base xa "_law_part" (ag lu) f Nl A outer s H E).cO
    (match (bG lu).getD 2 (.Pass ⟨0,0,0,0⟩) with | .For _ _ body _ _=>(match body.getD 1 (.Pass ⟨0,0,0,0⟩) with | .If _ yes _ _=>yes.drop 3 | _=>[]) | _=>[])
    [.ob (bg.bx a b OB),av (m:Int),.im aX loose,.mu af (cJ q (od.length:Int) od),.mu (gB af) rows,av (0 + (i:Int)),av (od.length:Int),av k,av t.1,av t.2,Sn,.no]
    (λΓ=>∃st od rows v5 v6 v7 v8 v9 v10,Γ=[.ob (bg.bx a b st),av (m:Int),.im aX loose,.mu af od,.mu (gB af) rows,v5,v6,v7,v8,v9,v10,.no]/\cR (n + 4 * ((i + 1:Nat):Int)) st/\gQ loose od rows/\rows.length=i + 1 + 1/\od.length<=16)
    (xB K bg a b λs'=>bL K (aP af (ak (gB af))) λz=>cR (n + 200) s'/\k9 loose m z.1 z.2):=by
    intro OB q Sn OJ q0 q1 hq
    refine ah (lS 4 (j:=k.toNat) (y:=(t.1,(od.length:Int))) (EV.two (aE.im (aw (au (aa 8 rfl) (au (aa 6 rfl) aD)) (by show 2<=K4;decide)))) (aa 7 rfl) rfl rfl (eP k0 (by omega)) ?_)
    refine ao (bU 4 (y:=((od.length:Int),t.2)) (EV.two (aE.im (aw (au (aa 6 rfl) (au (aa 9 rfl) aD)) (by show 2<=K4;decide)))) rfl rfl (zz (by rw[Jp];omega)) ?_)
    exact⟨OB,_,_,_,_,_,_,_,_,rfl,OJ.mono (by omega),hO.split (show rows[k.toNat]?=some (t.1,t.2) from ht) q0 q1 hq,by rw[IL,Jp];simp;omega,by rw[kd.length_eq];simp;omega⟩
   refine ah (bF (bE (aa 2 rfl)) (λhl=>?_) (λhl=>?_))
   ·obtain⟨i1,j1,a1,a2,a3⟩:=hO.up hl t (IQ ht)
    have no:∀{i1:Nat} {z:Int},od[i1]?=some z->∀m',m' < i1->od[m']?≠some z:=λ{i1 z} hz m' hm' e=>by
     have q1:=IG.mp hz
     have q2:=IG.mp e
     have:=(JI (h₀:=q2.1) (h₁:=q1.1) hO.pm.nd).mp (q2.2.trans q1.2.symm)
     omega
    have jl:=(IG.mp a2).1
    refine ah (aO 10 (rC 3 hu (aa 8 rfl) rfl rfl a1 (no a1)) ?_)
    obtain⟨d,OB,d0,d1,OJ,O2⟩:=bP OK (by omega) (b:=(j1:Int) - (i1:Int)) (by omega) (by omega)
    refine ao (nG 3 (k:=(i1:Int) + 1 + d) (bX (bX (aa 10 rfl) ai) (bo 0 CD hr (ae (dy (rC 3 hu (aa 9 rfl) rfl rfl a2 (no a2)) (aa 10 rfl)) aj) rfl rfl (O2 _))) (aa 6 rfl) rfl rfl (by omega) (by omega) (zz (by omega)) ?_)
    exact fin OB _ _ (OJ.mono (by omega)) (by omega) (by omega) (λ_=>⟨i1,j1,a1,a2,by omega,by omega⟩)
   ·obtain⟨d,OB,d0,d1,OJ,O2⟩:=bP OK (by omega) (b:=(od.length:Int) - 1) (by omega) (by omega)
    refine ao (nG 3 (k:=1 + d) (bX ai (bo 0 CD hr (ae (dy (aa 6 rfl) ai) aj) rfl rfl (O2 _))) (aa 6 rfl) rfl rfl (by omega) (by omega) (zz (by omega)) ?_)
    exact fin OB _ _ (OJ.mono (by omega)) (by omega) (by omega) (λe=>by rw[hl] at e;cases e)
  ·refine ao (bF (TW.tv (iu (y:=false) (aK dX (aa 6 rfl) ai) (λh=>absurd (of_decide_eq_true h) (by omega)))) (λh=>by simp at h) (λh=>more st (hP.mono (by omega))))
 ·rintro Γ ⟨st,od,rows,v5,v6,v7,v8,v9,v10,rfl,hP,hO,hlen,Tz⟩
  rw[aC,show((m:Int)).toNat=m by omega] at hP hlen
  have l2:=hO.l2
  obtain⟨xs,OE,Om,hX,hS⟩:=tu hP (by omega) (by omega) (m:=od.length - 2) (by omega)
  have xl:=hX.len
  have ec:((od.length - 2:Nat):Int)=(od.length:Int) - 2:=by omega
  have Pt:((xs.filter λ_=>true).map λk=>2 + k)=xs.map (2 + ·):=by rw[Jr.mpr (by simp)]
  refine ah (aO 11 (EV.cast (y':=[0,1]++xs.map (2 + ·)) (aE.im (cP (aE.im (aw (au ai (au ai aD)) (by show 2<=K4;decide))) (aE.im (bK (own:=["_law_place"]) (fr:=[]) (ix:=[]) (ra:=af) (rb:=af) (p:=λ_=>true) (f:=λk=>2 + k) (bu (so:=ag lu) (N0:=xa) rfl rfl (λx h=>aU h) (by decide +kernel)) (aT (bo 0 CO hr (ae (EV.cast (dy (eA 3 M.len rfl) ai) ec.symm) aj) rfl rfl (hS _)))
   (λC s H ex=>aI 0) (λx=>⟨.inr rfl,trivial⟩) (λC s H ex x hx=>cg) (λC s H ex x hx _=>bX ai (aa 0 rfl)))) (aB (by rw[IM,Jr.mpr (by simp)];show 2 + _<=_;omega)))) (by rw[Pt])) ?_)
  have hnl:(([0,1]++xs.map (2 + ·)).length:Int)=od.length:=by rw[IL,IM];show((2 + xs.length:Nat):Int)=_;omega
  have QD:=hO.fin hX Tz hlen
  have Pr:((rows.filter λ_=>true).map λ(t:Int×Int)=>(ir ([0,1]++xs.map (2 + ·)) t.1,ir ([0,1]++xs.map (2 + ·)) t.2))=rows.map λ(t:Int×Int)=>(ir ([0,1]++xs.map (2 + ·)) t.1,ir ([0,1]++xs.map (2 + ·)) t.2):=by rw[Jr.mpr (by simp)]
  have hbd:=hO.good.bd
  generalize [0,1]++xs.map (2 + ·)=names at hnl QD Pr
  refine ao (eQ 0 (B:=bg) (y:=((od.length:Int),rows.map λ(t:Int×Int)=>(ir names t.1,ir names t.2))) (bS (ae (eA 3 M.len rfl) (ae (EV.cast (aE.im (bK (own:=["_law_one","_law_other"]) (fr:=["_law_names"]) (ix:=[11]) (ra:=gB af) (rb:=gB af) (p:=λ_=>true) (f:=λ(t:Int×Int)=>(ir names t.1,ir names t.2)) (bu (so:=ag lu) (N0:=xa) rfl rfl (λx h=>aU h) (by decide +kernel)) (aT (dm 4 rfl (aB (by omega))))
   (λC s H ex=>oA 0 1) (λx=>⟨.inr rfl,.inr rfl,.inl rfl,trivial⟩) (λC s H ex x hx=>cg) (λC s H ex x hx _=>EV.two (aE.im (aw (au (aN (aa 2 rfl) (aa 0 rfl) (bY (hbd x hx).1 (by rw[hnl];exact(hbd x hx).2.1))) (au (aN (aa 2 rfl) (aa 1 rfl) (bY (hbd x hx).2.2.2.1 (by rw[hnl];exact(hbd x hx).2.2.2.2))) aD)) (by show 2<=K4;decide)))))) Pr) aj))) rfl ⟨Om.mono (by omega),QD⟩)
end
abbrev cq:Row:=(0,0,0,0)
theorem dv:∀(l m:Ib),l.Nodup->(∀x∈l,x∈m)->l.length<=m.length
 | [],_,_,_=>Ky _
 | a::l,m,nd,h=>by
   obtain⟨n1,n2⟩:=Jh.mp nd
   have am:=h a IT
   have ih:=dv l (m.erase a) n2 λx hx=>(List.mem_erase_of_ne (show x≠a from λe=>n1 (by rw[← e];exact hx))).mpr (h x (IK _ hx))
   have:=List.length_erase_of_mem am
   have:0 < m.length:=Kc am
   rw[I0];omega
structure k8 (parts:Int) (NZ rs:List Row):Prop where
 len:rs.length=NZ.length
 same:∀(k:Nat) (r:Row),rs[k]?=some r->∃r0,NZ[k]?=some r0/\r.1=r0.1/\r.2.1=r0.2.1/\r.2.2.1=r0.2.2.1
 ok:∀r∈rs,r.2.2.2= -1∨(r.1 < r.2.2.2/\r.2.2.2 < parts)
theorem k8.set {parts:Int}{NZ rs:List Row}(h:k8 parts NZ rs){k:Nat}{r:Row}(hk:rs[k]?=some r){c:Int}(hc:r.1 < c/\c < parts):k8 parts NZ (rs.set k (r.1,r.2.1,r.2.2.1,c)):=by
 have kl:=(IG.mp hk).1
 refine⟨by rw[Jp];exact h.len,λj q hj=>?_,λq hq=>?_⟩
 ·by_cases e:k=j
  ·subst e
   rw[Ji kl] at hj;cases hj
   exact h.same k r hk
  ·rw[Jk e] at hj;exact h.same j q hj
 ·rcases JN hq with z | z
  ·exact h.ok q z
  ·rw[z];exact .inr hc
structure y4 (parts:Int) (NZ:List Row) (i:Nat) (rs:List Row) (free used:Ib):Prop where
 c:k8 parts NZ rs
 nd:free.Nodup
 bd:∀k∈free,0<=k/\k < (NZ.length:Int)
 fr:∀k∈free,∀r,rs[k.toNat]?=some r->r.2.2.2= -1
 cov:∀k:Int,0<=k->k < (NZ.length:Int)->k∈free∨k∈used
 Sq:used.length=i
 cl:∀q:Nat,1<=q->q<=i->∃r∈rs,r.2.2.2=(q:Int)
theorem y4.one {parts:Int}{NZ:List Row}{i:Nat}{rs:List Row}{free used:Ib}(h:y4 parts NZ i rs free used)(hp:∀q:Nat,q<=i->∃(k:Nat) (r:Row),NZ[k]?=some r/\r.1=(q:Int)):∃k∈free,∀r,rs[k.toNat]?=some r->r.1 < (i:Int) + 1:=by
 refine Iw λno=>?_
 -- one row of each part,all Sk
 have reps:∀n:Nat,n<=i + 1->∃l:Ib,l.length=n/\l.Nodup/\∀x∈l,0<=x/\x < (NZ.length:Int)/\∃r,NZ[x.toNat]?=some r/\r.1 < (n:Int):=by
  intro n
  induction n with
  | zero=>intro _;exact⟨[],rfl,J8,by simp⟩
  | succ n ih=>
    intro hn
    obtain⟨l,l1,l2,l3⟩:=ih (by omega)
    obtain⟨k,r,hk,hr⟩:=hp n (by omega)
    have kl:=(IG.mp hk).1
    refine⟨(k:Int)::l,by rw[I0,l1],Jh.mpr ⟨λz=>?_,l2⟩,λx hx=>?_⟩
    ·obtain⟨_,_,r',h1,h2⟩:=l3 _ z
     rw[show((k:Int)).toNat=k by omega,hk] at h1
     cases h1;omega
    ·rcases IY.mp hx with rfl | z
     ·exact⟨by omega,by omega,r,by rw[show((k:Int)).toNat=k by omega];exact hk,by omega⟩
     ·obtain⟨a,b,r',c,d⟩:=l3 x z
      exact⟨a,b,r',c,by omega⟩
 obtain⟨l,l1,l2,l3⟩:=reps (i + 1) (Kp _)
 have:=dv l used l2 λx hx=>by
  obtain⟨a,b,r0,c,d⟩:=l3 x hx
  rcases h.cov x a b with z | z
  ·refine absurd ⟨x,z,λr hr=>?_⟩ no
   obtain⟨r0',e1,e2,_⟩:=h.c.same _ r hr
   rw[c] at e1;cases e1
   omega
  ·exact z
 rw[l1,h.Sq] at this
 omega
section
abbrev vB:Stmt:=top oy
abbrev GV:Ic:=["_law_purse_here","_law_rows","_law_parts","_law_free","_law_part_here","_law_some","_law_k","_law_later","_law_pick"]
theorem By:aF GV ["_law_purse_here","_law_rows","_law_parts"] (ag vB):=ND
structure qO (parts:Int) (NZ rs:List Row):Prop where
 c:k8 parts NZ rs
 cl:∀q:Nat,1<=q->(q:Int) < parts->∃r∈rs,r.2.2.2=(q:Int)
def SCL:uX:=λK s rs ps T=>∃(n parts:Int),cR n s/\n<=10000/\ps=[⟨af,parts⟩]/\1<=parts/\parts<=4/\rs.length<=100/\(∀r∈rs,0<=r.1/\r.1 < parts/\r.2.2.2= -1)/\(∀q:Nat,(q:Int) < parts->∃(k:Nat) (r:Row),rs[k]?=some r/\r.1=(q:Int))/\T=λs' Oj=>bL K fI λ_=>cR (n + 200) s'/\qO parts rs Oj
theorem Ew (M:bR mg)(CD:ax P w K mg base "_law_draw" 1 (eo bg me K))(F:bC K "_law_called" "_law_called" vB f fd)(hm:mg "_law_called"=some (.ref f))(hb:Binds K fd ["_law_purse_here","_law_rows","_law_parts"] []):ax P w K mg base "_law_called" 2 (uK SCL K):=by
 have nd:=By.nd
 have OO:Jl [("_law_k":Str),"_law_part_here","_law_rows"]:=by decide
 refine Ak F By hm hb (λ_ _ qs T ⟨_,_,_,_,e,_⟩=>by rw[e];rfl) (λNl A outer s H E a b c cs st NZ qs T hr hS=>?_)
 obtain⟨n,parts,hP,n1,rfl,p1,p4,hl,NQ,SV,rfl⟩:=hS
 have n0:0<=n:=IA hP.t0 hP.t1
 change WS _ _ [.ob (bg.bx a b st),.ob (cu c cs NZ),av parts,.no,.no,.no,.no,.no,.no] _ _
 refine ah (cL 3 (pC M.list M.range (tW 1 M.len rfl) ⟨by omega,by omega⟩) ?_)
 have e0:ups 0 ((NZ.length:Int)).toNat=ups 0 NZ.length:=by rw[show((NZ.length:Int)).toNat=NZ.length by omega]
 rw[e0]
 refine ah (cB (r:=af) (λi Γ=>∃st rs free used v4 v5 v6,Γ=[.ob (bg.bx a b st),.ob (cu c cs rs),av parts,.mu af free,v4,v5,v6,.no,.no]/\cR (n + i) st/\y4 parts NZ i rs free used/\free.length<=100)
  (o5 M.range ai (aa 2 rfl) ⟨by decide,by decide,by omega,by omega⟩) (aI 4) ⟨st,NZ,ups 0 NZ.length,[],_,_,_,rfl,hP.mono (by omega),⟨⟨rfl,λk r hk=>⟨r,hk,rfl,rfl,rfl⟩,λr hr=>.inl (NQ r hr).2.2⟩,d6 _,λk hk=>bj.mp hk,λk _ r hr=>(NQ r (IQ hr)).2.2,λk k0 k1=>.inl (bj.mpr ⟨k0,k1⟩),rfl,λq q1 q2=>by omega⟩,by rw[aC];exact hl⟩ ?_ ?_)
 ·rintro i x Γ hx ⟨st,rs,free,used,v4,v5,v6,rfl,hP,hK,Ot⟩
  obtain⟨hi,ex⟩:=ip hx
  have ex:x=(i:Int) + 1:=by omega
  subst ex
  have il:(i:Int) + 1 < parts:=by omega
  have hrl:=hK.c.len
  refine WS.tV 1 rfl λhcs=>?_
  have rg:∀k∈free,∃r,rs[k.toNat]?=some r:=λk hk=>⟨_,IF (by have:=hK.bd k hk;omega)⟩
  have hkk:∀k∈free,cS rs k=some (rs.getD k.toNat cq):=λk hk=>cA cq (hK.bd k hk).1 (by have:=hK.bd k hk;omega)
  refine ah (A7 5 (Fe (i:=1) (j:=3) (by decide) rfl rfl (aB (by omega)) (aB (by omega))) (own:=["_law_k"]) (fr:=["_law_part_here","_law_rows"]) (ix:=[4,1]) (ra:=af) (rb:=af) (p:=λk=>decide ((rs.getD k.toNat cq).1 < (i:Int) + 1)) (f:=λk=>k) (λ_ _ _ _ _ h=>h) (bu (so:=ag vB) (N0:=GV) rfl rfl (λx h=>aU h) (by decide +kernel)) (aT (aa 3 rfl))
   (λC s H ex=>aI 0) (λx=>⟨.inr rfl,.inl rfl,.inl rfl,trivial⟩) (λC s H ex x hx=>i5 (aK dX (x9 (aN (aa 2 rfl) (aa 0 rfl) (hkk x hx))) (aa 1 rfl))) (λC s H ex x hx _=>aa 0 rfl) ?_)
  have Pt:((free.filter λk=>decide ((rs.getD k.toNat cq).1 < (i:Int) + 1)).map λk=>k)=free.filter λk=>decide ((rs.getD k.toNat cq).1 < (i:Int) + 1):=by simp
  rw[Pt]
  have NO:free.filter (λk=>decide ((rs.getD k.toNat cq).1 < (i:Int) + 1))≠[]:=λz=>by
   obtain⟨k,hk,hr⟩:=hK.one λq hq=>SV q (by omega)
   have:k∈free.filter λk=>decide ((rs.getD k.toNat cq).1 < (i:Int) + 1):=by
    rw[IZ]
    refine⟨hk,decide_eq_true ?_⟩
    obtain⟨r,er⟩:=rg k hk
    rw[IJ,er];exact hr r er
   rw[z] at this;cases this
  have Rr:=Jt (λk=>decide ((rs.getD k.toNat cq).1 < (i:Int) + 1)) free
  have Nt:∀k∈free.filter (λk=>decide ((rs.getD k.toNat cq).1 < (i:Int) + 1)),k∈free/\(rs.getD k.toNat cq).1 < (i:Int) + 1:=λk hk=>⟨(IZ.mp hk).1,of_decide_eq_true (IZ.mp hk).2⟩
  generalize free.filter (λk=>decide ((rs.getD k.toNat cq).1 < (i:Int) + 1))=sm at NO Rr Nt
  have sl:1<=sm.length:=by cases sm with
   | nil=>exact absurd rfl NO
   | cons=>simp
  obtain⟨y,OE,y0,y1,Om,hS⟩:=bP hP (by omega) (b:=(sm.length:Int)) (by omega) (by omega)
  obtain⟨k,hk⟩:∃k,sm[y.toNat]?=some k:=⟨_,IF (by omega)⟩
  obtain⟨kf,kp⟩:=Nt k (IQ hk)
  have kb:=hK.bd k kf
  refine ah (aO 6 (eV 5 (y:=k) (bo 0 CD hr (ae (eA 5 M.len rfl) aj) rfl rfl (hS _)) rfl rfl (by rw[fX y0 (by omega)];exact hk)) ?_)
  obtain⟨r,er⟩:=rg k kf
  rw[IJ,er] at kp
  have kp:r.1 < (i:Int) + 1:=kp
  obtain⟨bk,QE⟩:∃bk,cs[k.toNat]?=some bk:=⟨_,IF (by omega)⟩
  refine ah (qx 1 (y:=(i:Int) + 1) (aa 4 rfl) (kK 1 (aa 6 rfl) rfl rfl (eP kb.1 (by omega)) QE) rfl (lR QE er) ?_)
  obtain⟨j,hj,OZ⟩:∃j:Nat,free[j]?=some k/\∀m,m < j->free[m]?≠some k:=by
   obtain⟨j,hj⟩:=Ja.mp kf
   refine⟨j,hj,λm hm e=>?_⟩
   have q1:=IG.mp hj
   have q2:=IG.mp e
   have:=(JI (h₀:=q2.1) (h₁:=q1.1) hK.nd).mp (q2.2.trans q1.2.symm)
   omega
  refine ao (yE 3 (aa 6 rfl) rfl rfl hj OZ ?_)
  have jl:=(IG.mp hj)
  have em:∀z,z∈free.eraseIdx j↔z∈free/\z≠k:=λz=>by
   rw[List.mem_eraseIdx_iff_getElem?]
   constructor
   ·rintro⟨m,m1,m2⟩
    refine⟨IQ m2,λe=>m1 ?_⟩
    subst e
    have q2:=IG.mp m2
    exact(JI (h₀:=q2.1) (h₁:=jl.1) hK.nd).mp (q2.2.trans jl.2.symm)
   ·rintro⟨m1,m2⟩
    obtain⟨m,hm⟩:=Ja.mp m1
    refine⟨m,λe=>m2 ?_,hm⟩
    subst e
    rw[hj] at hm;exact(Option.some.inj hm).symm
  refine⟨OE,_,free.eraseIdx j,k::used,_,_,_,rfl,Om.mono (by omega),⟨hK.c.set er ⟨by omega,by omega⟩,hK.nd.sublist (List.eraseIdx_sublist _ _),λz hz=>hK.bd z ((em z).mp hz).1,λz hz q hq=>?_,λz z0 z1=>?_,by rw[I0,hK.Sq],λq q1 q2=>?_⟩,Kq (List.length_eraseIdx_le _ _) Ot⟩
  ·obtain⟨zf,zk⟩:=(em z).mp hz
   have zb:=hK.bd z zf
   rw[Jk (by omega)] at hq
   exact hK.fr z zf q hq
  ·rcases hK.cov z z0 z1 with h | h
   ·by_cases e:z=k
    ·exact .inr (by rw[e];simp)
    ·exact .inl ((em z).mpr ⟨h,e⟩)
   ·exact .inr (IK _ h)
  ·rcases Kw q (i + 1) with h | h
   ·obtain⟨r',O3,e'⟩:=hK.cl q q1 (by omega)
    obtain⟨j',Qn⟩:=Ja.mp O3
    refine⟨r',Ja.mpr ⟨j',?_⟩,e'⟩
    rw[Jk (λz=>?_)];· exact Qn
    subst z
    rw[er] at Qn;cases Qn
    have:=hK.fr k kf r er
    omega
   ·have:q=i + 1:=by omega
    subst this
    exact⟨(r.1,r.2.1,r.2.2.1,(i:Int) + 1),Ja.mpr ⟨k.toNat,Ji (by omega)⟩,by show(i:Int) + 1=_;omega⟩
 ·rintro Γ ⟨st,rs,free,used,v4,v5,v6,rfl,hP,hK,Ot⟩
  rw[aC] at hP hK
  have em:(parts - 1).toNat=(parts - 1).toNat:=rfl
  have hrl:=hK.c.len
  refine ao (cB (r:=af) (λi Γ=>∃st rs v6 v7 v8,Γ=[.ob (bg.bx a b st),.ob (cu c cs rs),av parts,bH free,v4,v5,v6,v7,v8]/\cR (n + 10 + i) st/\qO parts NZ rs/\∀m k,i<=m->free[m]?=some k->∀r,rs[k.toNat]?=some r->r.2.2.2= -1)
   (aT (dm 3 rfl (aB (by omega)))) (aI 6) ⟨st,rs,_,_,_,rfl,hP.mono (by omega),⟨hK.c,λq q1 q2=>hK.cl q q1 (by omega)⟩,λm k _ hk r hr=>hK.fr k (IQ hk) r hr⟩ ?_ ?_)
  ·rintro i k Γ hk ⟨st,rs,v6,v7,v8,rfl,hP,hC,Qa⟩
   have il:=(IG.mp hk).1
   have kb:=hK.bd k (IQ hk)
   have Ql:=hC.c.len
   refine WS.tV 1 rfl λhcs=>?_
   obtain⟨r,er⟩:∃r,rs[k.toNat]?=some r:=⟨_,IF (by omega)⟩
   obtain⟨bk,QE⟩:∃bk,cs[k.toNat]?=some bk:=⟨_,IF (by omega)⟩
   obtain⟨r0,er0,e1,_⟩:=hC.c.same _ r er
   have hr0:=NQ r0 (IQ er0)
   have hcol:∀(Γ':Ga) (pos p1 p2 p3:Pos) (jj:Nat),Γ'[6]?=some (av k)->Γ'[1]?=some (.ob (cu c cs rs))->True:=λ_ _ _ _ _ _ _ _=>trivial
   refine ah (aO 7 (dy (dy (aa 2 rfl) ai) (vQ 1 (c:=0) (y:=r.1) (kK 1 (aa 6 rfl) rfl rfl (eP kb.1 (by omega)) QE) rfl (lR (r':=r) QE er) rfl)) ?_)
   obtain⟨y,OE,y0,y1,Om,hS⟩:=bP hP (by omega) (b:=3 * (parts - 1 - r.1) + 1) (by omega) (by omega)
   refine ah (aO 8 (bo 0 CD hr (ae (bX (nA ai (aa 7 rfl) (.inl (by decide))) ai) aj) rfl rfl (hS _)) ?_)
   refine ao (bF (aK dX (aa 8 rfl) (aa 7 rfl)) (λh=>?_) (λh=>aW ?_))
   ·have h:y < parts - 1 - r.1:=of_decide_eq_true h
    refine ao (qx 1 (y:=r.1 + 1 + y) (bX (bX (vQ 1 (c:=0) (y:=r.1) (kK 1 (aa 6 rfl) rfl rfl (eP kb.1 (by omega)) QE) rfl (lR (r':=r) QE er) rfl) ai) (aa 8 rfl)) (kK 1 (aa 6 rfl) rfl rfl (eP kb.1 (by omega)) QE) rfl (lR QE er) ?_)
    refine⟨OE,_,_,_,_,rfl,Om.mono (by omega),⟨hC.c.set er ⟨by omega,by omega⟩,λq q1 q2=>?_⟩,λm k' hm Qm r' O3=>?_⟩
    ·obtain⟨r',O3,e'⟩:=hC.cl q q1 q2
     obtain⟨j',Qn⟩:=Ja.mp O3
     refine⟨r',Ja.mpr ⟨j',?_⟩,e'⟩
     rw[Jk (λz=>?_)];· exact Qn
     subst z
     rw[er] at Qn;cases Qn
     have:=Qa i k (Kp _) hk r er
     omega
    ·have kb':=hK.bd k' (IQ Qm)
     have:k.toNat≠k'.toNat:=λz=>by
      have e:k=k':=by omega
      subst e
      have q1:=IG.mp hk
      have q2:=IG.mp Qm
      have:=(JI (h₀:=q1.1) (h₁:=q2.1) hK.nd).mp (q1.2.trans q2.2.symm)
      omega
     rw[Jk this] at O3
     exact Qa m k' (by omega) Qm r' O3
   ·exact⟨OE,_,_,_,_,rfl,Om.mono (by omega),hC,λm k' hm Qm r' O3=>Qa m k' (by omega) Qm r' O3⟩
  ·rintro Γ ⟨st,rs,v6,v7,v8,rfl,hP,hC,_⟩
   exact⟨st,rs,rfl,rfl,λ_ _ _=>⟨(),rfl,hP.mono (by omega),hC⟩⟩
end
section
variable {v:ay}
theorem kL {es QL:Ij}{s:Int}(h:∀t∈es,t∈QL){k:Int}(r:Reach es s k):Reach QL s k:=Reach.mono h r
structure EE (k:Nat) (places:Ib) (rs:List Row):Prop where
 len:places.length=k
 part:∀(i:Nat) (m:Int),places[i]?=some m->∃Nq,e9 m Nq/\∀a b,(∃r∈rs,r.1=(i:Int)/\r.2.1=a/\r.2.2.1=b)↔(a,b)∈Nq
 row:∀r∈rs,0<=r.1/\r.1 < (k:Int)/\(r.2.2.2= -1∨(r.1 < r.2.2.2/\r.2.2.2 < (k:Int)))
 call:∀i:Nat,0 < i->i < k->∃r∈rs,r.2.2.2=(i:Int)
structure aY (v:ay):Prop where
 good:EE v.1.length v.1 v.2
 pl:1<=v.1.length/\v.1.length<=4
 rl:1<=v.2.length/\v.2.length<=60
 sz:∀m∈v.1,2<=m/\m<=16
theorem qW {xs:Ib}{x:Int×Int}:x∈nums xs↔∃i:Nat,x.1=(i:Int)/\xs[i]?=some x.2:=by
 constructor
 ·intro h
  obtain⟨i,hi⟩:=Ja.mp h
  exact⟨i,iT hi⟩
 ·rintro⟨i,h1,h2⟩
  refine Ja.mpr ⟨i,?_⟩
  unfold nums
  rw[Je,List.getElem?_zipIdx,h2]
  obtain⟨a,b⟩:=x
  simp at h1
  simp[h1]
theorem all_map {α:Type}{xs:List α}{g:α->Bool}:((xs.filter λ_=>true).map g).all id=true↔∀x∈xs,g x=true:=by
 rw[Jr.mpr (by simp),List.all_map,JK];rfl
structure uq (ns:Ib) (r:Row):Prop where
 p0:0<=r.1
 p1:r.1 < (ns.length:Int)
 s1:r.2.1≠1
 c0: -1<=r.2.2.2
 c1:r.2.2.2 < (ns.length:Int)
 s0:0<=r.2.1
 e0:0<=r.2.2.1
 sn:r.2.1 < ns.getD r.1.toNat 0
 en:r.2.2.1 < ns.getD r.1.toNat 0
 cp:¬(0<=r.2.2.2/\r.2.2.2<=r.1)
theorem wz {ns:Ib}{r:Row}(q:uq ns r):cX ns r=true:=by
 unfold cX
 have:=q.p0;have:=q.p1;have:=q.s1;have:=q.c0;have:=q.c1;have:=q.s0;have:=q.e0;have h1:=q.sn;have h2:=q.en;have:=q.cp
 rw[IJ] at h1 h2
 rw[if_neg (by simp;omega),if_neg (by simp[IJ];omega)]
 simp
 omega
theorem aY.dD (h:aY v){r:Row}(hr:r∈v.2):uq v.1 r:=by
 have q:=h.good.row r hr
 obtain⟨m,hm⟩:∃m,v.1[r.1.toNat]?=some m:=⟨_,IF (by omega)⟩
 obtain⟨ts,hg,SQ⟩:=h.good.part _ _ hm
 have b:=hg.bd (r.2.1,r.2.2.1) ((SQ _ _).mp ⟨r,hr,by omega,rfl,rfl⟩)
 have e:v.1.getD r.1.toNat 0=m:=by rw[IJ,hm];rfl
 refine⟨q.1,q.2.1,b.2.2.1,by omega,by omega,b.1,b.2.2.2.1,by rw[e];exact b.2.1,by rw[e];exact b.2.2.2.2,by omega⟩
theorem gr {rs:List Row}{p a b:Int}:(a,b)∈fwd rs p↔∃r∈rs,r.1=p/\r.2.1=a/\r.2.2.1=b:=by
 unfold fwd
 simp only[Jf,IZ,decide_eq_true_eq,KO]
 constructor
 ·rintro⟨r,⟨h1,h2⟩,h3,h4⟩;exact⟨r,h1,h2,h3,h4⟩
 ·rintro⟨r,h1,h2,h3,h4⟩;exact⟨r,⟨h1,h2⟩,h3,h4⟩
theorem og {rs:List Row}{p a b:Int}:(a,b)∈bwd rs p↔∃r∈rs,r.1=p/\r.2.2.1=a/\r.2.1=b:=by
 unfold bwd
 simp only[Jf,IZ,decide_eq_true_eq,KO]
 constructor
 ·rintro⟨r,⟨h1,h2⟩,h3,h4⟩;exact⟨r,h1,h2,h3,h4⟩
 ·rintro⟨r,h1,h2,h3,h4⟩;exact⟨r,⟨h1,h2⟩,h3,h4⟩
theorem aY.toEnd (h:aY v){i:Nat}{m:Int}(hi:v.1[i]?=some m){k:Int}(k0:0<=k)(k1:k < m):Reach (bwd v.2 i) 1 k:=by
 obtain⟨ts,hg,SQ⟩:=h.good.part i m hi
 refine kL (λt ht=>?_) (hg.bw k k0 k1)
 obtain⟨a,b⟩:=t
 obtain⟨r,hr,e0,e1,e2⟩:=(SQ b a).mpr (gA.mp ht)
 exact og.mpr ⟨r,hr,e0,e2,e1⟩
theorem aY.kQ (h:aY v){i:Nat}{m:Int}(hi:v.1[i]?=some m){k:Int}(k0:0<=k)(k1:k < m):Reach (fwd v.2 i) 0 k:=by
 obtain⟨ts,hg,SQ⟩:=h.good.part i m hi
 refine kL (λt ht=>?_) (hg.fw k k0 k1)
 obtain⟨a,b⟩:=t
 obtain⟨r,hr,e0,e1,e2⟩:=(SQ a b).mpr ht
 exact gr.mpr ⟨r,hr,e0,e1,e2⟩
open Classical in
theorem mS {es:Ij}{s n:Int}(hes:∀a b,(a,b)∈es->0<=b/\b < n)(h0:0<=s)(h1:s < n)(h:∀k,0<=k->k < n->Reach es s k):jb es s n=true:=by
 unfold jb
 rw[decide_eq_true_eq]
 refine⟨ups 0 n.toNat,d6 _,λk=>⟨λhk=>?_,λhk=>?_⟩,by rw[aC];omega⟩
 ·have:=bj.mp hk
  exact h k (by omega) (by omega)
 ·have:0<=k/\k < n:=by
   cases hk with
   | base=>exact⟨h0,h1⟩
   | step _ m=>exact hes _ _ m
  exact bj.mpr (by omega)
theorem aY.FV {v:ay}(h:aY v):fA v=true:=by
 have pl:=h.pl
 have rl:=h.rl
 have hsz:fZ v=true:=by
  unfold fZ
  rw[if_neg (by simp;omega),all_map]
  intro m hm
  have:=h.sz m hm
  simp;omega
 unfold fA
 rw[if_neg (by rw[hsz];decide)]
 have h2:(List.map (cX v.1) (List.filter (λ_=>true) v.2)).all id=true:=all_map.mpr λr hr=>wz (h.dD hr)
 rw[if_neg (by rw[h2];decide)]
 have h3:(List.map (called v.2) (List.filter (λ_=>true) (ups (0 + 1) ((v.1.length:Int) - (0 + 1)).toNat))).all id=true:=all_map.mpr λp hp=>by
  unfold ups at hp
  obtain⟨k,hk,rfl⟩:=Jf.mp hp
  have hk:=JG.mp hk
  obtain⟨r,QV,Pe⟩:=h.good.call (k + 1) (by omega) (by omega)
  unfold called
  rw[Jr.mpr (by simp),any_map,JT]
  exact⟨r,QV,by simp[Pe];omega⟩
 rw[if_neg (by rw[h3];decide)]
 refine all_map.mpr λx hx=>?_
 obtain⟨i,h1,hi⟩:=qW.mp hx
 have nb:=h.sz _ (IQ hi)
 have hd:∀r∈v.2,r.1=(i:Int)->v.1.getD r.1.toNat 0=x.2:=λr hr hp=>by
  rw[hp,IJ,show((i:Int)).toNat=i by omega,hi];rfl
 unfold mM
 rw[h1,Io]
 refine⟨mS (λa b NY=>?_) (by decide) (by omega) λk k0 k1=>h.kQ hi k0 k1,mS (λa b NY=>?_) (by decide) (by omega) λk k0 k1=>h.toEnd hi k0 k1⟩
 ·obtain⟨r,hr,hp,e1,e2⟩:=gr.mp NY
  have q:=h.dD hr
  have q1:=q.en;rw[hd r hr hp] at q1
  rw[← e2];exact⟨q.e0,q1⟩
 ·obtain⟨r,hr,hp,e1,e2⟩:=og.mp NY
  have q:=h.dD hr
  have q1:=q.sn;rw[hd r hr hp] at q1
  rw[← e2];exact⟨q.s0,q1⟩
def dQ (rs:List Row)(p:Nat):Prop:=∃rk:Int->Int,∀r∈rs,r.1=(p:Int)->rk r.2.1 < rk r.2.2.1
structure iz (loose:Bool) (i:Nat) (places:Ib) (rs:List Row):Prop where
 len:places.length=i
 sz:∀m∈places,2<=m/\m<=16
 part:∀(p:Nat) (m:Int),places[p]?=some m->∃Nq,e9 m Nq/\∀a b,(∃r∈rs,r.1=(p:Int)/\r.2.1=a/\r.2.2.1=b)↔(a,b)∈Nq
 row:∀r∈rs,0<=r.1/\r.1 < (i:Int)/\r.2.2.2= -1
 has:∀p:Nat,p < i->∃(k:Nat) (r:Row),rs[k]?=some r/\r.1=(p:Int)
 up:loose=true->∀p:Nat,p < i->dQ rs p
theorem iz.nil (loose:Bool):iz loose 0 [] []:=⟨rfl,by simp,by simp,by simp,λp h=>by omega,λ_ p h=>by omega⟩
theorem iz.more {loose:Bool}{i m:Nat}{places:Ib}{rs:List Row}(h:iz loose i places rs){size:Int}{Nq:Ij}(hp:k9 loose m size Nq):iz loose (i + 1) (places++[size]) (rs++Nq.map λ(t:Int×Int)=>((i:Int),t.1,t.2,(-1:Int))):=by
 have hl:=h.len
 have nw:∀r,r∈Nq.map (λ(t:Int×Int)=>((i:Int),t.1,t.2,(-1:Int)))↔r.1=(i:Int)/\r.2.2.2= -1/\(r.2.1,r.2.2.1)∈Nq:=λr=>by
  rw[Jf]
  constructor
  ·rintro⟨t,ht,rfl⟩;exact⟨rfl,rfl,ht⟩
  ·rintro⟨a,b,c⟩
   refine⟨_,c,?_⟩
   obtain⟨r1,r2,r3,r4⟩:=r
   simp only at a b
   subst a;subst b;rfl
 refine⟨by rw[IL,hl];rfl,λz hz=>?_,λp z hz=>?_,λr hr=>?_,λp hp'=>?_,λe p hp'=>?_⟩
 ·rcases IS.mp hz with q | q
  ·exact h.sz z q
  ·rw[II.mp q];exact⟨hp.good.m2,hp.le⟩
 ·rcases Kw p i with pl | pl
  ·rw[Jn (by omega)] at hz
   obtain⟨ts,g1,g2⟩:=h.part p z hz
   refine⟨ts,g1,λa b=>?_⟩
   rw[← g2 a b]
   constructor
   ·rintro⟨r,hr,r1,r2⟩
    rcases IS.mp hr with q | q
    ·exact⟨r,q,r1,r2⟩
    ·have:=((nw r).mp q).1;omega
   ·rintro⟨r,hr,r1⟩;exact⟨r,IX _ hr,r1⟩
  ·have pe:p=i:=by
    have:=(IG.mp hz).1
    rw[IL,hl] at this
    simp at this;omega
   subst pe
   rw[Jg (by omega),hl,Kz] at hz
   have hz:size=z:=by simpa using hz
   subst hz
   refine⟨Nq,hp.good,λa b=>?_⟩
   constructor
   ·rintro⟨r,hr,r1,r2,r3⟩
    rcases IS.mp hr with q | q
    ·have:=(h.row r q).2.1;omega
    ·have:=((nw r).mp q).2.2
     rw[r2,r3] at this;exact this
   ·intro NY
    exact⟨((p:Int),a,b, -1),IU _ ((nw _).mpr ⟨rfl,rfl,NY⟩),rfl,rfl,rfl⟩
 ·rcases IS.mp hr with q | q
  ·have:=h.row r q;exact⟨this.1,by omega,this.2.2⟩
  ·have:=(nw r).mp q;exact⟨by omega,by omega,this.2.1⟩
 ·rcases Kw p i with pl | pl
  ·obtain⟨k,r,a,b⟩:=h.has p pl
   exact⟨k,r,by rw[Jn (IG.mp a).1];exact a,b⟩
  ·have pe:p=i:=by omega
   subst pe
   have tl:=hp.len
   have hm:((p:Int),(Nq[0]'(by omega)).1,(Nq[0]'(by omega)).2,(-1:Int))∈rs++Nq.map λ(t:Int×Int)=>((p:Int),t.1,t.2,(-1:Int)):=IU _ (Jf.mpr ⟨_,Jb (by omega),rfl⟩)
   obtain⟨k,hk⟩:=Ja.mp hm
   exact⟨k,_,hk,rfl⟩
 ·rcases Kw p i with pl | pl
  ·obtain⟨rk,PY⟩:=h.up e p pl
   refine⟨rk,λr hr r1=>?_⟩
   rcases IS.mp hr with q | q
   ·exact PY r q r1
   ·have:=((nw r).mp q).1;omega
  ·have pe:p=i:=by omega
   subst pe
   obtain⟨rk,PY⟩:=hp.up e
   refine⟨rk,λr hr r1=>?_⟩
   rcases IS.mp hr with q | q
   ·have:=(h.row r q).2.1;omega
   ·exact PY _ ((nw r).mp q).2.2
structure Dn (loose:Bool) (v:ay):Prop where
 g:aY v
 le:v.2.length<=30
 up:loose=true->∀p:Nat,p < v.1.length->dQ v.2 p
theorem AY {loose:Bool}{parts:Nat}{places:Ib}{NZ rs Oj:List Row}(h:iz loose parts places NZ)(p1:1<=parts)(p4:parts<=4)(hc:qO (parts:Int) NZ rs)(hl:NZ.length<=30)(hm:∀r,r∈Oj↔r∈rs)(Rz:Oj.length=rs.length):Dn loose (places,Oj):=by
 have hlen:=h.len
 have fw:∀r∈rs,∃r0∈NZ,r.1=r0.1/\r.2.1=r0.2.1/\r.2.2.1=r0.2.2.1:=λr hr=>by
  obtain⟨k,hk⟩:=Ja.mp hr
  obtain⟨r0,a,b⟩:=hc.c.same k r hk
  exact⟨r0,IQ a,b⟩
 have bw:∀r0∈NZ,∃r∈rs,r.1=r0.1/\r.2.1=r0.2.1/\r.2.2.1=r0.2.2.1:=λr0 hr=>by
  obtain⟨k,hk⟩:=Ja.mp hr
  have kl:=(IG.mp hk).1
  have kl2:k < rs.length:=by rw[hc.c.len];exact kl
  obtain⟨r0',a,b⟩:=hc.c.same k _ (IF kl2)
  rw[hk] at a;cases a
  exact⟨_,Jb kl2,b⟩
 have n1:1<=Oj.length:=by
  obtain⟨k,r,a,_⟩:=h.has 0 (by omega)
  have:=(IG.mp a).1
  rw[Rz,hc.c.len];omega
 refine⟨⟨⟨rfl,λi m hi=>?_,λr hr=>?_,λi i0 i1=>?_⟩,by show 1<=places.length/\places.length<=4;omega,by show 1<=Oj.length/\Oj.length<=60;rw[Rz,hc.c.len] at *;omega,h.sz⟩,by show Oj.length<=30;rw[Rz,hc.c.len];exact hl,λe p hp=>?_⟩
 ·obtain⟨Nq,g1,g2⟩:=h.part i m hi
  refine⟨Nq,g1,λa b=>?_⟩
  rw[← g2 a b]
  constructor
  ·rintro⟨r,hr,r1,r2,r3⟩
   obtain⟨r0,h0,e1,e2,e3⟩:=fw r ((hm r).mp hr)
   exact⟨r0,h0,by omega,by omega,by omega⟩
  ·rintro⟨r0,h0,r1,r2,r3⟩
   obtain⟨r,hr,e1,e2,e3⟩:=bw r0 h0
   exact⟨r,(hm r).mpr hr,by omega,by omega,by omega⟩
 ·have hr:=(hm r).mp hr
  obtain⟨r0,h0,e1,_⟩:=fw r hr
  have a:=h.row r0 h0
  have b:=hc.c.ok r hr
  show 0<=r.1/\r.1 < (places.length:Int)/\(r.2.2.2= -1∨(r.1 < r.2.2.2/\r.2.2.2 < (places.length:Int)))
  omega
 ·have i1:i < places.length:=i1
  obtain⟨r,hr,e⟩:=hc.cl i i0 (by omega)
  exact⟨r,(hm r).mpr hr,e⟩
 ·have hp:p < places.length:=hp
  obtain⟨rk,PY⟩:=h.up e p (by omega)
  refine⟨rk,λr hr r1=>?_⟩
  obtain⟨r0,h0,e1,e2,e3⟩:=fw r ((hm r).mp hr)
  have:=PY r0 h0 (by omega)
  rw[e2,e3];exact this
end
section
abbrev tR:Stmt:=top si
abbrev DO:Ic:=["_law_purse_here","_law_loose","_law_parts","_law_left","_law_places","_law_rows","_law_part_here","_law_many","_law_size","_law_told"]
theorem Dg:aF DO ["_law_purse_here","_law_loose"] (ag tR):=ND
def GH:jw Pu:=λK s ps T=>∃(n:Int) (loose:Bool),cR n s/\n<=1000/\ps=[⟨aX,loose⟩]/\T=λs'=>bL K br λv=>cR (n + 2000) s'/\Dn loose v
theorem F5 (M:bR mg)(CD:ax P w K mg base "_law_draw" 1 (eo bg me K))(CO:ax P w K mg base "_law_order" 2 (eo bg zR K))(CP:ax P w K mg base "_law_part" 3 (eo bg G5 K))(CC:ax P w K mg base "_law_called" 2 (uK SCL K))(F:bC K "_law_web" "_law_web" tR f fd)(hm:mg "_law_web"=some (.ref f))(hb:Binds K fd ["_law_purse_here","_law_loose"] []):ax P w K mg base "_law_web" 4 (eo bg GH K):=by
 have nd:=Dg.nd
 have OO:Jl [("_law_one":Str),"_law_other","_law_part_here"]:=by decide
 have Pj:Jl [("_law_k":Str),"_law_rows"]:=by decide
 have CD:=CD.mono (show 1<=3 by decide)
 have CO:=CO.mono (show 2<=3 by decide)
 have CC:=CC.mono (show 2<=3 by decide)
 refine jh F Dg hm hb (λxs qs T ⟨_,_,_,_,e,_⟩=>by rw[e];rfl) (λNl A outer s H E a b st qs T hr hS=>?_)
 obtain⟨n,loose,hP,n1,rfl,rfl⟩:=hS
 have n0:0<=n:=IA hP.t0 hP.t1
 change WS _ _ [.ob (bg.bx a b st),.im aX loose,.no,.no,.no,.no,.no,.no,.no,.no] _ _
 obtain⟨d,OE,d0,d1,Om,QF⟩:=bP hP (by omega) (b:=4) (by decide) (by decide)
 refine ah (aO 2 (bX ai (bo 0 CD hr (ae ai aj) rfl rfl (QF _))) ?_)
 obtain⟨parts,Rw⟩:∃parts:Nat,1 + d=(parts:Int):=⟨(1 + d).toNat,by omega⟩
 rw[Rw]
 refine ah (aO 3 (dy ai (aa 2 rfl)) ?_)
 refine ah (cL 4 (r:=af) (aw aD (by decide)) (ah (cL 5 (r:=af) (aw aD (by decide)) ?_)))
 refine WS.AO 5 rfl λc=>?_
 refine ah (cB (r:=af) (λi Γ=>∃st left places c cs rs v6 v7 v8 v9,Γ=[.ob (bg.bx a b st),.im aX loose,av (parts:Int),av left,.mu af places,.ob (cu c cs rs),v6,v7,v8,v9]/\cR (n + 1 + 202 * i) st/\iz loose i places rs/\0<=left/\(rs.length:Int) + left=29 - parts + i)
  (d5 M.range (aa 2 rfl) ⟨by omega,by omega⟩) (aI 6) ⟨OE,_,[],c,[],[],_,_,_,_,rfl,Om.mono (by omega),iz.nil loose,by omega,by simp⟩ ?_ ?_)
 ·rintro i x Γ hx ⟨st,left,places,c,cs,rs,v6,v7,v8,v9,rfl,hP,hW,l0,hl⟩
  obtain⟨hi,rfl⟩:=ip hx
  have e0:(0:Int) + (i:Int)=(i:Int):=by omega
  rw[e0]
  change WS _ _ [.ob (bg.bx a b st),.im aX loose,av (parts:Int),av left,.mu af places,.ob (cu c cs rs),av (i:Int),v7,v8,v9] _ _
  obtain⟨c3,OT,c0,c1,OK,Px⟩:=bP hP (by omega) (b:=3) (by decide) (by decide)
  obtain⟨q,hq,q0,q1⟩:∃q:Int,cS [(4:Int),8,30] c3=some q/\4<=q/\q<=30:=by
   rcases(show c3=0∨c3=1∨c3=2 by omega) with rfl | rfl | rfl
   ·exact⟨4,rfl,by decide,by decide⟩
   ·exact⟨8,rfl,by decide,by decide⟩
   ·exact⟨30,rfl,by decide,by decide⟩
  obtain⟨y,OB,y0,y1,OJ,O2⟩:=bP OK (by omega) (b:=q) (by omega) (by omega)
  refine ah (aO 7 (Bc M.min (ae (aa 3 rfl) (ae (bo 0 CD hr (ae (aN (aE.im (aw (au ai (au ai (au ai aD))) (by show 3<=K4;decide))) (bo 0 CD hr (ae ai aj) rfl rfl (Px _)) hq) aj) rfl rfl (O2 _)) aj))) ?_)
  obtain⟨m,hm'⟩:∃m:Nat,(if y < left then y else left)=(m:Int):=⟨(if y < left then y else left).toNat,by split<;>omega⟩
  rw[hm']
  have ml:(m:Int)<=left:=by rw[← hm'];split<;>omega
  refine ah (aO 3 (dy (aa 3 rfl) (aa 7 rfl)) ?_)
  refine ah (mB 0 CP hr (ae (aa 7 rfl) (ae (aa 1 rfl) aj)) rfl rfl ⟨n + 1 + 202 * i + 1 + 1,m,loose,OJ,by omega,rfl,by omega,rfl⟩ (gZ 8 9) ?_)
  rintro Su ⟨size,told⟩ ⟨Qh,hPO⟩
  have tl:told.length=m + 1:=hPO.len
  have wl:=hW.len
  have ple:parts<=4:=by omega
  refine ah (bU 4 (aa 8 rfl) rfl rfl (Ko (show places.length<=100 by omega) (by decide)) ?_)
  refine ao (vi 5 (own:=["_law_one","_law_other"]) (fr:=["_law_part_here"]) (ix:=[6]) (ra:=gB af) (f:=λ(t:Int×Int)=>((i:Int),t.1,t.2,(-1:Int))) (bu (so:=ag tR) (N0:=DO) rfl rfl (λx h=>aU h) (by decide +kernel)) (aT (aa 9 rfl))
   (λC s H ex=>oA 0 1) (λx=>⟨.inr rfl,.inr rfl,.inl rfl,trivial⟩) (λx=>⟨trivial,trivial,trivial,trivial⟩) (λC s H ex x hx=>aw (au (aa 2 rfl) (au (aa 0 rfl) (au (aa 1 rfl) (au (bW ai) aD)))) (by show 4<=K4;decide)) rfl (aB (by show rs.length + told.length<=_;omega)) λdd bs=>?_)
  exact⟨Su,_,_,_,_,_,_,_,_,_,rfl,Qh.mono (by omega),hW.more hPO,by omega,by rw[IL,IM];show((rs.length + told.length:Nat):Int) + _=_;omega⟩
 ·rintro Γ ⟨st,left,places,c,cs,rs,v6,v7,v8,v9,rfl,hP,hW,l0,hl⟩
  rw[aC,show((parts:Int)).toNat=parts by omega] at hP hW hl
  have wl:=hW.len
  refine ah (zd 0 5 CC hr (by decide) (ae (aa 2 rfl) aj) rfl rfl ⟨n + 1 + 202 * parts,(parts:Int),hP,by omega,rfl,by omega,by omega,by omega,λr hr=>hW.row r hr,λq hq=>hW.has q (by omega),rfl⟩ ?_)
  rintro OE Rh ⟨Om,hC⟩
  have rl:=hC.c.len
  change WS _ _ [.ob (bg.bx a b OE),.im aX loose,av (parts:Int),av left,.mu af places,.ob (cu c cs Rh),v6,v7,v8,v9] _ _
  refine WS.outer 5 rfl ?_
  refine WS.AU 5 rfl (aB (by omega)) ?_
  change WS _ _ [.ob (bg.bx a b OE),.im aX loose,av (parts:Int),av left,.mu af places,.im (ak iK) Rh,v6,v7,v8,v9] _ _
  obtain⟨xs,OT,OK,hX,hS⟩:=tu Om (by omega) (by omega) (m:=Rh.length) (by omega)
  have xl:=hX.len
  have Pt:((xs.filter λ_=>true).map λk=>Rh.getD k.toNat cq)=xs.map λk=>Rh.getD k.toNat cq:=by rw[Jr.mpr (by simp)]
  refine ao (eQ 0 (B:=bg) (y:=(places,xs.map λk=>Rh.getD k.toNat cq)) (bS (r:=ak af) (r':=ak bA) (ae (dm 4 rfl (aB (by omega))) (ae (EV.cast (aE.im (bK (own:=["_law_k"]) (fr:=["_law_rows"]) (ix:=[5]) (ra:=af) (rb:=bA) (p:=λ_=>true) (f:=λk=>Rh.getD k.toNat cq) (bu (so:=ag tR) (N0:=DO) rfl rfl (λx h=>aU h) (by decide +kernel)) (aT (bo 0 CO hr (ae (cK M.len (aa 5 rfl)) aj) rfl rfl (hS _)))
   (λC s H ex=>aI 0) (λx=>⟨.inr rfl,.inl rfl,trivial⟩) (λC s H ex x hx=>cg) (λC s H ex x hx _=>pd M.tuple (aN (aa 1 rfl) (aa 0 rfl) (cA cq ((hX.mem x).mp hx).1 ((hX.mem x).mp hx).2))))) Pt) aj))) rfl ⟨OK.mono (by omega),AY hW (by omega) (by omega) hC (by omega) (λr=>?_) (by rw[IM];exact xl)⟩)
  rw[Jf]
  constructor
  ·rintro⟨k,hk,rfl⟩
   have kb:=(hX.mem k).mp hk
   rw[IJ,IF (by omega)]
   exact Jb _
  ·intro O3
   obtain⟨j,hj⟩:=Ja.mp O3
   have jl:=(IG.mp hj).1
   exact⟨(j:Int),(hX.mem _).mpr (by omega),by rw[show((j:Int)).toNat=j by omega,IJ,hj];rfl⟩
end
def rowOf (v:ay)(k:Int):Row:=v.2.getD k.toNat cq
section
abbrev vm:Stmt:=top rA
theorem Bp:aF ["_law_web_here"] ["_law_web_here"] (ag vm):=ND
def GJ:cf:=λK ps T=>∃v:ay,ps=[⟨br,v⟩]/\T=bL K br (· =v)
theorem EL (M:bR mg)(F:bC K "_law_copy" "_law_copy" vm f fd)(hm:mg "_law_copy"=some (.ref f))(hb:Binds K fd ["_law_web_here"] []):ax P w K mg base "_law_copy" 1 (aG GJ K):=by
 have nd:=Bp.nd
 have OO:Jl [("_law_row":Str)]:=by decide
 refine bM F Bp hm hb (λqs T ⟨_,e,_⟩=>by rw[e];rfl) (λNl A outer s H E qs T hr hS=>?_)
 obtain⟨v,rfl,rfl⟩:=hS
 change WS _ _ [bB v] _ _
 have Pt:((v.2.filter λ_=>true).map λr=>r)=v.2:=by rw[Jr.mpr (by simp)];simp
 exact ao (bT (r:=aP (ak af) (ak bA)) (bS (ae (aE.im (f9 M.list (c8 (r:=ak af) (r':=ak bA) (aa 0 rfl)))) (ae (EV.cast (aE.im (bK (own:=["_law_row"]) (fr:=[]) (ix:=[]) (ra:=bA) (rb:=bA) (p:=λ_=>true) (f:=λr=>r) (bu (so:=ag vm) (N0:=["_law_web_here"]) rfl rfl (λx h=>aU h) (by decide +kernel)) (aT (a9 (r:=ak af) (r':=ak bA) (aa 0 rfl)))
  (λC s H ex=>aI 0) (λx=>⟨.inr rfl,trivial⟩) (λC s H ex x hx=>cg) (λC s H ex x hx _=>pd M.tuple (EV.Hz (aE.im (sf M.list (aa 0 rfl))))))) Pt) aj))) rfl)
end
section
abbrev zK:Stmt:=top lZ
theorem Dh:aF ["web"] ["web"] (ag zK):=ND
def Cu:cf:=λK ps T=>∃v:ay,ps=[⟨br,v⟩]/\aY v/\T=bL K fI (λ_=>True)
theorem Gk (CW:ax P w K mg base "is_web" 5 (aG Cp K))(F:bC K "need_web" "need_web" zK f fd)(hm:mg "need_web"=some (.ref f))(hb:Binds K fd ["web"] []):ax P w K mg base "need_web" 6 (aG Cu K):=by
 have nd:=Dh.nd
 refine xo F Dh hm hb (λqs T ⟨_,e,_⟩=>by rw[e];rfl) (λNl A outer s H E qs T hr hS=>?_)
 obtain⟨v,rfl,hv,rfl⟩:=hS
 have pl:=hv.pl
 have rl:=hv.rl
 refine⟨λ_ _ _=>⟨(),rfl,trivial⟩,?_⟩
 change WS _ _ [.im br v] _ _
 refine ao (bF (cw (bE (bc CW hr (ae (aa 0 rfl) aj) ⟨v,rfl,by omega,by omega,rfl⟩))) (λh=>?_) (λh=>aW trivial))
 rw[hv.FV] at h;exact absurd h (by decide)
end
section
abbrev wX:Stmt:=top uL
theorem uW:aF ["web","part"] ["web","part"] (ag wX):=ND
def Gz:cf:=λK ps T=>∃(v:ay) (p:Int),ps=[⟨br,v⟩,⟨af,p⟩]/\0<=p/\p < (v.1.length:Int)/\T=bL K aX (· =true)
theorem FK (M:bR mg)(CI:ax P w K mg base "is_whole" 1 (aG qq K))(F:bC K "is_part" "is_part" wX f fd)(hm:mg "is_part"=some (.ref f))(hb:Binds K fd ["web","part"] []):ax P w K mg base "is_part" 2 (aG Gz K):=by
 have nd:=uW.nd
 refine bM F uW hm hb (λqs T ⟨_,_,e,_⟩=>by rw[e];rfl) (λNl A outer s H E qs T hr hS=>?_)
 obtain⟨v,p,rfl,p0,p1,rfl⟩:=hS
 change WS _ _ [bB v,av p] _ _
 refine ao (bT (fz (bc CI hr (ae (aa 1 rfl) aj) ⟨p,rfl,rfl⟩) (λ_=>fG (f7 f6 dX ai (aa 1 rfl) (cK M.len (c8 (aa 0 rfl)))))) ?_)
 simp[p0,p1]
abbrev sV:Stmt:=top qY
theorem oB:aF ["web","part"] ["web","part"] (ag sV):=ND
def zo:cf:=λK ps T=>∃(v:ay) (p:Int),ps=[⟨br,v⟩,⟨af,p⟩]/\aY v/\0<=p/\p < (v.1.length:Int)/\T=bL K fI (λ_=>True)
theorem EC (CN:ax P w K mg base "need_web" 6 (aG Cu K))(CI:ax P w K mg base "is_part" 2 (aG Gz K))(F:bC K "need_part" "need_part" sV f fd)(hm:mg "need_part"=some (.ref f))(hb:Binds K fd ["web","part"] []):ax P w K mg base "need_part" 7 (aG zo K):=by
 have nd:=oB.nd
 have CI:=CI.mono (show 2<=6 by decide)
 refine xo F oB hm hb (λqs T ⟨_,_,e,_⟩=>by rw[e];rfl) (λNl A outer s H E qs T hr hS=>?_)
 obtain⟨v,p,rfl,hv,p0,p1,rfl⟩:=hS
 refine⟨λ_ _ _=>⟨(),rfl,trivial⟩,?_⟩
 change WS _ _ [.im br v,av p] _ _
 refine ah (jN CN hr (ae (aa 0 rfl) aj) ⟨v,rfl,hv,rfl⟩ ?_)
 refine ao (bF (cw (bE (bc CI hr (ae (aa 0 rfl) (ae (aa 1 rfl) aj)) ⟨v,p,rfl,p0,p1,rfl⟩))) (λh=>?_) (λh=>aW trivial))
 exact absurd h (by decide)
end
section
abbrev sG:Stmt:=top qw
abbrev Ag:Ic:=["_law_web_here","_law_part_here","_law_place"]
theorem DX:aF Ag Ag (ag sG):=ND
def Ni (v:ay)(p q:Int):Ib:=(ups 0 v.2.length).filter λk=>decide (((rowOf v k).1,(rowOf v k).2.1)=(p,q))
def tP:cf:=λK ps T=>∃(v:ay) (p q:Int),ps=[⟨br,v⟩,⟨af,p⟩,⟨af,q⟩]/\v.2.length<=60/\T=bL K (ak af) (· =Ni v p q)
theorem Fd (M:bR mg)(F:bC K "_law_from" "_law_from" sG f fd)(hm:mg "_law_from"=some (.ref f))(hb:Binds K fd Ag []):ax P w K mg base "_law_from" 1 (aG tP K):=by
 have nd:=DX.nd
 have OO:Jl [("_law_k":Str),"_law_part_here","_law_place","_law_web_here"]:=by decide
 refine bM F DX hm hb (λqs T ⟨_,_,_,e,_⟩=>by rw[e];rfl) (λNl A outer s H E qs T hr hS=>?_)
 obtain⟨v,p,q,rfl,rl,rfl⟩:=hS
 have hu:(A.deeper (KP "_law_from" (ag sG) s.heap.objs.size f Nl)).units + 1 < cLine:=Ko (Ks (by decide:1<=64) _) hr.units
 change WS _ _ [bB v,av p,av q] _ _
 have el:((v.2.length:Int)).toNat=v.2.length:=by omega
 have Pt:(((ups 0 ((v.2.length:Int)).toNat).filter λk=>decide (((rowOf v k).1,(rowOf v k).2.1)=(p,q))).map λk=>k)=Ni v p q:=by rw[el];simp[Ni]
 exact ao (bT (EV.cast (aE.im (bK (own:=["_law_k"]) (fr:=["_law_part_here","_law_place","_law_web_here"]) (ix:=[1,2,0]) (ra:=af) (rb:=af) (p:=λk=>decide (((rowOf v k).1,(rowOf v k).2.1)=(p,q))) (f:=λk=>k) (bu (so:=ag sG) (N0:=Ag) rfl rfl (λx h=>aU h) (by decide +kernel)) (d5 M.range (cK M.len (a9 (aa 0 rfl))) ⟨by omega,by omega⟩)
  (λC s H ex=>aI 0) (λx=>⟨.inr rfl,.inl rfl,.inl rfl,.inl rfl,trivial⟩)
  (λC s H ex x hx=>i5 (aK (y:=(p,q)) (zD eq_int eq_int hu hu) (yM (aN (a9 (aa 3 rfl)) (aa 0 rfl) (cA cq (by have:=bj.mp hx;omega) (by have:=bj.mp hx;omega)))) (bS (ae (aa 1 rfl) (ae (aa 2 rfl) aj)))))
  (λC s H ex x hx _=>aa 0 rfl))) Pt) rfl)
end
theorem Reach.head {es:Ij}{a b:Int}(h:(a,b)∈es){k:Int}(r:Reach es b k):Reach es a k:=Reach.sub (.step .base h) (λ_ _ x y=>.step x y) r
open Classical in
noncomputable def fq (es:Ij)(a:Int):Nat:=((ups 0 16).filter λk=>decide (Reach es a k)).length
open Classical in
theorem sN {es:Ij}{a b:Int}(h:(a,b)∈es)(hn:¬Reach es b a)(a0:0<=a)(a1:a < 16):fq es b < fq es a:=by
 unfold fq
 have nd:∀g:Int->Bool,((ups 0 16).filter g).Nodup:=λg=>(d6 16).filter g
 have:=ff (xs:=a::(ups 0 16).filter λk=>decide (Reach es b k)) (ys:=(ups 0 16).filter λk=>decide (Reach es a k)) (Jh.mpr ⟨λhm=>hn (of_decide_eq_true (IZ.mp hm).2),nd _⟩) λx hx=>by
  rcases IY.mp hx with rfl | hx
  ·exact IZ.mpr ⟨bj.mpr ⟨a0,by omega⟩,decide_eq_true .base⟩
  ·obtain⟨m1,m2⟩:=IZ.mp hx
   exact IZ.mpr ⟨m1,decide_eq_true (Reach.head h (of_decide_eq_true m2))⟩
 rw[I0] at this
 omega
theorem y6 {v:ay}(hv:aY v){p:Int}(p0:0<=p):dQ v.2 p.toNat↔∀t∈fwd v.2 p,¬Reach (fwd v.2 p) t.2 t.1:=by
 have ep:((p.toNat:Nat):Int)=p:=by omega
 constructor
 ·rintro⟨rk,PY⟩ ⟨a,b⟩ ht hR
  have up:∀x y,(x,y)∈fwd v.2 p->rk x < rk y:=λx y h=>by
   obtain⟨r,hr,r1,r2,r3⟩:=gr.mp h
   rw[← r2,← r3];exact PY r hr (by omega)
  have:rk b<=rk a:=Reach.sub (P:=λk=>rk b<=rk k) (ID _) (λx y hx Qy=>IA hx (Int.le_of_lt (up x y Qy))) hR
  have:=up a b ht
  omega
 ·intro h
  refine⟨λq=> -(fq (fwd v.2 p) q:Int),λr hr r1=>?_⟩
  have ht:(r.2.1,r.2.2.1)∈fwd v.2 p:=gr.mpr ⟨r,hr,by omega,rfl,rfl⟩
  have rp:=hv.dD hr
  have s0:=rp.s0;have sn:=rp.sn;have q1:=rp.p1;have q0:=rp.p0
  have sz:=hv.sz (v.1.getD r.1.toNat 0) (by rw[IJ,IF (by omega)];exact Jb _)
  have:=sN ht (h _ ht) s0 (by omega)
  show -(fq (fwd v.2 p) r.2.1:Int) < -(fq (fwd v.2 p) r.2.2.1:Int)
  omega
section
end
section
variable {n:Nat}{v:ay}{p:Int}{i:Nat}
theorem mf {α β:Type}{P:α->List β->Prop}(hp:∀x ys,P x ys->ys=[]):∀{xs:List α} {N2:List (List β)},PySem.Paired P xs N2->N2=Jd xs.length []
 | _,_,.nil=>rfl
 | _,_,.cons h t=>by rw[I0,JC,mf hp t,hp _ _ h]
def gJ (v:ay)(p:Int)(i:Nat)(q:Int):Ib:=(ups 0 i).filter λk=>decide (((rowOf v k).1,(rowOf v k).2.1)=(p,q))
theorem mj (i:Nat):ups 0 (i + 1)=ups 0 i++[(i:Int)]:=by
 unfold ups
 rw[List.range_succ,Jq]
 simp
theorem mT (v:ay)(p:Int)(i:Nat)(q:Int):gJ v p (i + 1) q=gJ v p i q++(if(rowOf v (i:Int)).1=p/\(rowOf v (i:Int)).2.1=q then[(i:Int)] else[]):=by
 unfold gJ
 rw[mj,Ka]
 congr 1
 by_cases h:(rowOf v (i:Int)).1=p/\(rowOf v (i:Int)).2.1=q
 ·rw[if_pos h,JU (by simp[h.1,h.2])];rfl
 ·rw[if_neg h,JV (by simp;exact λa b=>h ⟨a,b⟩)];rfl
def e7 (v:ay)(p:Int)(n i:Nat):List Ib:=(ups 0 n).map (gJ v p i)
def dw (v:ay)(p:Int):List Ib:=(ups 0 (v.1.getD p.toNat 0).toNat).map (Ni v p)
theorem i6 (v:ay)(p:Int)(n i:Nat):(e7 v p n i).length=n:=by unfold e7;rw[IM,aC]
theorem iR {j:Nat}(h:j < n):(ups 0 n)[j]?=some (j:Int):=by unfold ups;rw[Je,JZ h];simp
theorem jY {j:Nat}(h:j < n):(e7 v p n i)[j]?=some (gJ v p i (j:Int)):=by unfold e7;rw[Je,iR h];rfl
theorem oH (h:(rowOf v (i:Int)).1≠p):e7 v p n (i + 1)=e7 v p n i:=by
 unfold e7
 refine Jx λq hq=>?_
 rw[mT,if_neg (λz=>h z.1),Jj]
theorem rJ (h:(rowOf v (i:Int)).1=p)(s0:0<=(rowOf v (i:Int)).2.1)(s1:(rowOf v (i:Int)).2.1 < (n:Int)):(e7 v p n i).set (rowOf v (i:Int)).2.1.toNat (gJ v p i (rowOf v (i:Int)).2.1++[(i:Int)])=e7 v p n (i + 1):=by
 apply JP
 intro j
 by_cases hj:j < n
 ·rw[jY hj,mT]
  by_cases e:(rowOf v (i:Int)).2.1.toNat=j
  ·subst e
   rw[Ji (by rw[i6];exact hj),if_pos ⟨h,by omega⟩]
   rw[show(((rowOf v (i:Int)).2.1.toNat:Nat):Int)=(rowOf v (i:Int)).2.1 by omega]
  ·rw[Jk e,jY hj,if_neg (λz=>e (by have:=z.2;omega)),Jj]
 ·rw[Ju (by rw[Jp,i6];omega),Ju (by rw[i6];omega)]
theorem oK (v:ay)(p:Int)(i:Nat)(q:Int):(gJ v p i q).length<=i:=by
 unfold gJ
 refine Kq (Jt _ _) ?_
 rw[aC];exact Kp _
theorem yv {q:Int}(q0:0<=q)(q1:q < v.1.getD p.toNat 0):(dw v p)[q.toNat]?=some (Ni v p q):=by
 have:=jY (v:=v) (p:=p) (n:=(v.1.getD p.toNat 0).toNat) (i:=v.2.length) (j:=q.toNat) (by omega)
 rw[show((q.toNat:Nat):Int)=q by omega] at this
 exact this
end
section
abbrev vh:Stmt:=top nr
abbrev GU:Ic:=["web","part","leaving","number","row"]
theorem Dt:aF GU ["web","part"] (ag vh):=ND
def wV (fr:Bool):cf:=λK ps T=>∃(v:ay) (p:Int),ps=[⟨br,v⟩,⟨af,p⟩]/\aY v/\0<=p/\p < (v.1.length:Int)/\T=if fr=true then iF K (ak af) (· =dw v p) else C8 K af (· =dw v p)
theorem zu (fr:Bool)(M:bR mg)(F:bC K "rows_leaving" "rows_leaving" vh f fd)(hm:mg "rows_leaving"=some (.ref f))(hb:Binds K fd ["web","part"] []):ax P w K mg base "rows_leaving" 1 (aG (wV fr) K):=by
 have nd:=Dt.nd
 have SD:Jl [("place":Str)]:=by decide
 refine bM F Dt hm hb (λqs T ⟨_,_,e,_⟩=>by rw[e];rfl) (λNl A outer s H E qs T hr hS=>?_)
 obtain⟨v,p,rfl,hv,p0,p1,rfl⟩:=hS
 have pl:=hv.pl
 have rl:=hv.rl
 have hn:cS v.1 p=some (v.1.getD p.toNat 0):=bY p0 p1
 have nb:=hv.sz (v.1.getD p.toNat 0) (by rw[IJ,IF (by omega)];exact Jb _)
 generalize hN:v.1.getD p.toNat 0=n at hn nb
 change WS _ _ [bB v,av p,.no,.no,.no] _ _
 refine ah (Az 2 (own:=["place"]) (fr:=[]) (ix:=[]) (ra:=af) (rb:=af) (P:=λ_ ys=>ys=[]) (bu (so:=ag vh) (N0:=GU) rfl rfl (λx h=>aU h) (by decide +kernel)) (d5 M.range (aN (c8 (aa 0 rfl)) (aa 1 rfl) hn) ⟨by omega,by omega⟩)
  (λC s H ex=>aI 0) (λx=>⟨.inr rfl,trivial⟩) (λx=>⟨trivial,trivial⟩) (λC s H ex x hx=>aE.evr (aw aD (by decide)) rfl) λa bs N2 pq _=>?_)
 have ey:=mf (λ_ _ h=>h) pq
 rw[aC] at ey
 have e0:Jd n.toNat ([]:Ib)=e7 v p n.toNat 0:=by
  unfold e7 gJ
  apply JP
  intro j
  rw[JE,Je]
  by_cases hj:j < n.toNat
  ·rw[if_pos hj,iR hj];rfl
  ·rw[if_neg hj,Ju (by rw[aC];omega)];rfl
 rw[e0] at ey
 subst ey
 refine ah (cB (r:=aP af bA) (λi Γ=>∃v3 v4,Γ=[bB v,av p,.ob (eK af a bs (e7 v p n.toNat i)),v3,v4])
  (jX M.enumerate (a9 (aa 0 rfl))) (gZ 3 4) ⟨_,_,rfl⟩ ?_ ?_)
 ·rintro i x Γ hx ⟨v3,v4,rfl⟩
  obtain⟨e1,e2⟩:=iT hx
  have il:=(IG.mp e2).1
  have er:rowOf v i=x.2:=by unfold rowOf;rw[IJ,show((i:Int)).toNat=i by omega,e2];rfl
  refine ao (bF (aK cT (gk (aa 4 rfl)) (aa 1 rfl)) (λh=>?_) (λh=>aW ?_))
  ·have h:x.2.1=p:=of_decide_eq_true h
   have rp:=hv.dD (IQ e2)
   have q0:=rp.s0
   have q1:=rp.sn
   rw[h,hN] at q1
   have len:=i6 v p n.toNat i
   refine ao (gH 2 (dA (aa 4 rfl)) (aa 3 rfl) rfl (eP q0 (by omega)) (jY (j:=x.2.2.1.toNat) (by omega)) (Ko (Kq (oK v p i _) (show i<=100 by omega)) (by decide)) ?_)
   refine⟨av x.1,.im bA x.2,?_⟩
   have:=rJ (v:=v) (p:=p) (n:=n.toNat) (i:=i) (by rw[er];exact h) (by rw[er];exact q0) (by rw[er];omega)
   rw[er] at this
   rw[e1,show((x.2.2.1.toNat:Nat):Int)=x.2.2.1 by omega,this]
   rfl
  ·have h:x.2.1≠p:=of_decide_eq_false h
   refine⟨av x.1,.im bA x.2,?_⟩
   rw[oH (by rw[er];exact h)]
   rfl
 ·rintro Γ ⟨v3,v4,rfl⟩
  rw[ee]
  have e:e7 v p n.toNat v.2.length=dw v p:=by unfold dw;rw[hN];rfl
  rw[e]
  have ll:(dw v p).length<=16:=by rw[← e,i6];omega
  cases fr with
  | false=>exact ao (Bq 2 rfl rfl)
  | true=>
    refine ao (nV 2 rfl (aB (by omega)) (λxs hx=>?_) rfl)
    rw[← e] at hx
    obtain⟨q,_,rfl⟩:=Jf.mp hx
    exact aB (Kq (oK v p _ q) (by omega))
end
section
variable {v:ay}{p:Int}{F:Ij}{q:Int}
theorem ya {a b:Option Int}(h:a.map V.int=b.map V.int):a=b:=by
 cases a<;>cases b<;>simp at h<;>simp[h]
theorem kj (F:Ij)(k v j:Int):aV (dO F k v) j=if j=k then some v else aV F j:=by
 have h:=x8 (dh (cW F)) (Sum.inl k:Key) (Sum.inl j) (.int v)
 rw[vR,gE,gE] at h
 apply ya
 rw[h]
 by_cases e:j=k
 ·rw[if_pos (by rw[e]),if_pos e];rfl
 ·rw[if_neg (λz=>e (Sum.inl.inj z)),if_neg e]
theorem dN {k:Int}:(aV F k).isSome=true↔k∈F.map (·.1):=by
 unfold aV
 rw[KJ,List.find?_isSome]
 simp only[decide_eq_true_eq,Jf]
theorem pO (rk:Int->Int):∀(l:Ib),l≠[]->∃x∈l,∀y∈l,rk y<=rk x
 | [],h=>absurd rfl h
 | [a],_=>⟨a,by simp,λy hy=>by rw[II.mp hy];exact ID _⟩
 | a::b::l,_=>by
   obtain⟨x,hx,h⟩:=pO rk (b::l) (by simp)
   by_cases z:rk a<=rk x
   ·exact⟨x,IK _ hx,λy hy=>by
     rcases IY.mp hy with rfl | hy
     ·exact z
     ·exact h y hy⟩
   ·exact⟨a,IT,λy hy=>by
     rcases IY.mp hy with rfl | hy
     ·exact ID _
     ·have:=h y hy;omega⟩
def bh (v:ay)(k:Int):Int:=(rowOf v k).2.2.1
def goal (v:ay)(p q:Int):Ib:=(Ni v p q).map (bh v)
structure eE (v:ay) (p:Int) (g:Int->Int):Prop where
 one:g 1=1
 step:∀q,0<=q->q < v.1.getD p.toNat 0->q≠1->g q=((goal v p q).map g).sum
theorem bO {k:Int}(h:k∈Ni v p q):0<=k/\k < (v.2.length:Int)/\(rowOf v k).1=p/\(rowOf v k).2.1=q/\rowOf v k∈v.2:=by
 unfold Ni at h
 obtain⟨h1,h2⟩:=IZ.mp h
 have kb:=bj.mp h1
 have h2:=of_decide_eq_true h2
 refine⟨kb.1,kb.2,congrArg KN h2,congrArg KL h2,?_⟩
 unfold rowOf
 rw[IJ,IF (by omega)]
 exact Jb _
theorem mG (hv:aY v){z:Int}(h:z∈goal v p q):0<=z/\z < v.1.getD p.toNat 0/\q≠1/\∃r∈v.2,r.1=p/\r.2.1=q/\r.2.2.1=z:=by
 obtain⟨k,hk,rfl⟩:=Jf.mp h
 obtain⟨_,_,h1,h2,h3⟩:=bO hk
 have r:=hv.dD h3
 have a:=r.e0;have b:=r.en;have c:=r.s1
 rw[h1] at b
 rw[h2] at c
 exact⟨a,b,c,_,h3,h1,h2,rfl⟩
theorem eE.uniq (hv:aY v)(p0:0<=p)(hr:dQ v.2 p.toNat){g g':Int->Int}(h:eE v p g)(h':eE v p g'):∀q,0<=q->q < v.1.getD p.toNat 0->g q=g' q:=by
 obtain⟨rk,PY⟩:=hr
 intro q q0 q1
 refine Iw λne=>?_
 have NO:((ups 0 (v.1.getD p.toNat 0).toNat).filter λz=>decide (g z≠g' z))≠[]:=λe=>by
  have:q∈(ups 0 (v.1.getD p.toNat 0).toNat).filter λz=>decide (g z≠g' z):=IZ.mpr ⟨bj.mpr ⟨q0,by omega⟩,decide_eq_true ne⟩
  rw[e] at this;cases this
 obtain⟨x,hx,Ry⟩:=pO rk _ NO
 obtain⟨x1,x2⟩:=IZ.mp hx
 have xb:=bj.mp x1
 have x2:g x≠g' x:=of_decide_eq_true x2
 have xn:x≠1:=λe=>x2 (by rw[e,h.one,h'.one])
 refine x2 ?_
 rw[h.step x xb.1 (by omega) xn,h'.step x xb.1 (by omega) xn]
 congr 1
 refine Jx λz hz=>Iw λnz=>?_
 obtain⟨a,b,_,r,r0,r1,r2,r3⟩:=mG hv hz
 have:=Ry z (IZ.mpr ⟨bj.mpr ⟨a,by omega⟩,decide_eq_true nz⟩)
 have:=PY r r0 (by omega)
 rw[r2,r3] at this
 omega
def gF (F:Ij)(q:Int):Int:=(aV F q).getD 0
structure eL (v:ay) (p:Int) (F:Ij):Prop where
 one:aV F 1=some 1
 nd:(F.map (·.1)).Nodup
 bd:∀q∈F.map (·.1),0<=q/\q < v.1.getD p.toNat 0
 ok:∀q,q∈F.map (·.1)->q≠1->(∀z∈goal v p q,z∈F.map (·.1))/\gF F q=((goal v p q).map (gF F)).sum
theorem mC {k y:Int}(hk:k∉F.map (·.1))(z:Int):aV (F++[(k,y)]) z=if z=k then some y else aV F z:=by
 have hn:(aV F k).isSome=false:=by
  cases e:(aV F k).isSome with
  | false=>rfl
  | true=>exact absurd (dN.mp e) hk
 have:=kj F k y z
 unfold dO at this
 rw[hn] at this
 simpa using this
theorem eL.add (h:eL v p F)(hq:q∉F.map (·.1))(q0:0<=q)(q1:q < v.1.getD p.toNat 0)(hg:∀z∈goal v p q,z∈F.map (·.1)):eL v p (F++[(q,((goal v p q).map (gF F)).sum)]):=by
 have keep:∀z,z∈F.map (·.1)->gF (F++[(q,((goal v p q).map (gF F)).sum)]) z=gF F z:=λz hz=>by
  unfold gF
  rw[mC hq,if_neg (show¬z=q from λe=>hq (e▸hz))]
 have one:(1:Int)∈F.map (·.1):=dN.mp (by rw[h.one];rfl)
 have mp:(F++[(q,((goal v p q).map (gF F)).sum)]).map (·.1)=F.map (·.1)++[q]:=by rw[Jq];rfl
 refine⟨?_,?_,λz hz=>?_,λz hz zn=>?_⟩
 ·rw[mC hq,if_neg (show¬(1:Int)=q from λe=>hq (e▸one))];exact h.one
 ·rw[mp];exact gz h.nd hq
 ·rw[mp] at hz
  rcases IS.mp hz with w | w
  ·exact h.bd z w
  ·rw[II.mp w];exact⟨q0,q1⟩
 ·rw[mp] at hz ⊢
  rcases IS.mp hz with w | w
  ·obtain⟨a,b⟩:=h.ok z w zn
   refine⟨λy hy=>IX _ (a y hy),?_⟩
   rw[keep z w,b]
   congr 1
   exact Jx λy hy=>(keep y (a y hy)).symm
  ·rw[II.mp w]
   refine⟨λy hy=>IX _ (hg y hy),?_⟩
   have e:gF (F++[(q,((goal v p q).map (gF F)).sum)]) q=((goal v p q).map (gF F)).sum:=by unfold gF;rw[mC hq,if_pos rfl];rfl
   rw[e]
   congr 1
   exact Jx λy hy=>(keep y (hg y hy)).symm
theorem eL.le (h:eL v p F)(hs:0<=v.1.getD p.toNat 0):(F.length:Int)<=v.1.getD p.toNat 0:=by
 have:=dv (F.map (·.1)) (ups 0 (v.1.getD p.toNat 0).toNat) h.nd λx hx=>bj.mpr (by have:=h.bd x hx;omega)
 rw[IM,aC] at this
 omega
theorem eL.all (h:eL v p F)(hs:v.1.getD p.toNat 0<=(F.length:Int)):∀q,0<=q->q < v.1.getD p.toNat 0->q∈F.map (·.1):=by
 intro q q0 q1
 refine Iw λno=>?_
 have:=dv (q::F.map (·.1)) (ups 0 (v.1.getD p.toNat 0).toNat) (Jh.mpr ⟨no,h.nd⟩) λx hx=>by
  rcases IY.mp hx with rfl | hx
  ·exact bj.mpr (by omega)
  ·exact bj.mpr (by have:=h.bd x hx;omega)
 rw[I0,IM,aC] at this
 omega
theorem eL.eq (h:eL v p F)(hs:v.1.getD p.toNat 0<=(F.length:Int)):eE v p (gF F):=by
 refine⟨by unfold gF;rw[h.one];rfl,λq q0 q1 qn=>(h.ok q (h.all hs q q0 q1) qn).2⟩
theorem eL.next (hv:aY v)(p0:0<=p)(hr:dQ v.2 p.toNat)(h:eL v p F)(hs:(F.length:Int) < v.1.getD p.toNat 0):∃q,0<=q/\q < v.1.getD p.toNat 0/\q∉F.map (·.1)/\∀z∈goal v p q,z∈F.map (·.1):=by
 obtain⟨rk,PY⟩:=hr
 have NO:((ups 0 (v.1.getD p.toNat 0).toNat).filter λz=>decide (z∉F.map (·.1)))≠[]:=λe=>by
  have all:∀z∈ups 0 (v.1.getD p.toNat 0).toNat,z∈F.map (·.1):=λz hz=>Iw λno=>by
   have:z∈(ups 0 (v.1.getD p.toNat 0).toNat).filter λz=>decide (z∉F.map (·.1)):=IZ.mpr ⟨hz,decide_eq_true no⟩
   rw[e] at this;cases this
  have:=dv _ _ (d6 _) all
  rw[aC,IM] at this
  omega
 obtain⟨x,hx,Ry⟩:=pO rk _ NO
 obtain⟨x1,x2⟩:=IZ.mp hx
 have xb:=bj.mp x1
 refine⟨x,xb.1,by omega,of_decide_eq_true x2,λz hz=>Iw λno=>?_⟩
 obtain⟨a,b,_,r,r0,r1,r2,r3⟩:=mG hv hz
 have:=Ry z (IZ.mpr ⟨bj.mpr ⟨a,by omega⟩,decide_eq_true no⟩)
 have:=PY r r0 (by omega)
 rw[r2,r3] at this
 omega
end
section
abbrev oS:Stmt:=top t9
abbrev zF:Ic:=["_law_web_here","_law_part_here","_law_on_here","_law_place","_law_goals"]
theorem Ed:aF zF ["_law_web_here","_law_part_here"] (ag oS):=ND
def qu:cf:=λK ps T=>∃(v:ay) (p:Int),ps=[⟨br,v⟩,⟨af,p⟩]/\aY v/\0<=p/\p < (v.1.length:Int)/\dQ v.2 p.toNat/\T=bL K iB (λF=>eL v p F/\v.1.getD p.toNat 0<=(F.length:Int))
theorem Fv (M:bR mg)(CF:ax P w K mg base "_law_from" 1 (aG tP K))(F:bC K "_law_on" "_law_on" oS f fd)(hm:mg "_law_on"=some (.ref f))(hb:Binds K fd ["_law_web_here","_law_part_here"] []):ax P w K mg base "_law_on" 2 (aG qu K):=by
 have nd:=Ed.nd
 have OO:Jl [("_law_k":Str),"_law_web_here"]:=by decide
 have Pj:Jl [("_law_goal":Str),"_law_on_here"]:=by decide
 refine bM F Ed hm hb (λqs T ⟨_,_,e,_⟩=>by rw[e];rfl) (λNl A outer s H E qs T hr hS=>?_)
 obtain⟨v,p,rfl,hv,p0,p1,hR,rfl⟩:=hS
 have hu:(A.deeper (KP "_law_on" (ag oS) s.heap.objs.size f Nl)).units + 1 < cLine:=Ko (Ks (by decide:1<=64) _) hr.units
 have pl:=hv.pl
 have rl:=hv.rl
 have hs:=hv.sz (v.1.getD p.toNat 0) (by rw[IJ,IF (by omega)];exact Jb _)
 change WS _ _ [bB v,av p,.no,.no,.no] _ _
 refine ah (lV 2 oO eU ?_)
 have o0:eL v p [(1,1)]:=⟨rfl,by simp,λq hq=>by(have:q=1:=by simpa using hq);omega,λq hq qn=>absurd (show q=1 by simpa using hq) qn⟩
 refine ah (iV (λm Γ=>∃F v3 v4,Γ=[bB v,av p,.di (cW F),v3,v4]/\eL v p F/\m=(v.1.getD p.toNat 0 - (F.length:Int)).toNat) ⟨[(1,1)],_,_,rfl,o0,rfl⟩ ?_)
 rintro m Γ ⟨F,v3,v4,rfl,hO,rfl⟩
 have hle:=hO.le (by omega)
 refine⟨_,_,TV.N6 (kD (i:=2) rfl) (aK dX (mx M.len (aa 2 rfl)) (aN (c8 (aa 0 rfl)) (aa 1 rfl) (bY p0 p1))),λh=>?_,λh=>?_⟩
 ·have h:(F.length:Int) < v.1.getD p.toNat 0:=of_decide_eq_true h
  obtain⟨qs,s0,s1,sn,sg⟩:=hO.next hv p0 hR h
  refine ao (cB (r:=af) (λi Γ=>∃G v3 v4,Γ=[bB v,av p,.di (cW G),v3,v4]/\eL v p G/\(∀z∈F.map (·.1),z∈G.map (·.1))/\F.length<=G.length/\(qs < (i:Int)->F.length < G.length))
   (d5 M.range (aN (c8 (aa 0 rfl)) (aa 1 rfl) (bY p0 p1)) ⟨by omega,by omega⟩) (aI 3) ⟨F,_,_,rfl,hO,λz hz=>hz,Kp _,λe=>by omega⟩ ?_ ?_)
  ·rintro i q Γ hq ⟨G,v3,v4,rfl,hG,Nt,Ot,Qz⟩
   have qb:=bj.mp (IQ hq)
   obtain⟨hi,eq⟩:=ip hq
   have Pt:((((Ni v p q).filter λ_=>true).map λk=>(rowOf v k).2.2.1))=goal v p q:=by rw[Jr.mpr (by simp)];rfl
   have hk:∀k∈Ni v p q,cS v.2 k=some (rowOf v k):=λk hk=>cA cq (bO hk).1 (bO hk).2.1
   refine ah (jS 4 (own:=["_law_k"]) (fr:=["_law_web_here"]) (ix:=[0]) (ra:=af) (rb:=af) (p:=λ_=>true) (f:=λk=>(rowOf v k).2.2.1) (bu (so:=ag oS) (N0:=zF) rfl rfl (λx h=>aU h) (by decide +kernel)) (aT (bc CF hr (ae (aa 0 rfl) (ae (aa 1 rfl) (ae (aa 3 rfl) aj))) ⟨v,p,q,rfl,by omega,rfl⟩))
    (λC s H ex=>aI 0) (λx=>⟨.inr rfl,.inl rfl,trivial⟩) (λC s H ex x hx=>cg) (λC s H ex x hx _=>ck (aN (a9 (aa 1 rfl)) (aa 0 rfl) (hk x hx))) ?_)
   rw[Pt]
   have gl:(goal v p q).length<=60:=by
    unfold goal Ni
    rw[IM]
    refine Kq (Jt _ _) ?_
    rw[aC];omega
   refine WS.freeze 4 rfl (aB (by omega)) ?_
   change WS _ _ [bB v,av p,.di (cW G),av q,bH (goal v p q)] _ _
   have mem:∀z,(aV G z).isSome=true↔z∈G.map (·.1):=λz=>dN
   have QZ:=hG.le (by omega)
   refine ao (bF (TW.tv (iu (jL 2 true hu (aa 3 rfl) rfl) (λ_=>iX (TV.N6 (kD (i:=2) rfl) (bE (fc M.all (aE.im (bK (own:=["_law_goal"]) (fr:=["_law_on_here"]) (ix:=[2]) (ra:=af) (rb:=aX) (p:=λ_=>true) (f:=λz=>(aV G z).isSome) (bu (so:=ag oS) (N0:=zF) rfl rfl (λx h=>aU h) (by decide +kernel)) (aT (aa 4 rfl))
    (λC s H ex=>aI 0) (λx=>⟨.inr rfl,.inl rfl,trivial⟩) (λC s H ex x hx=>cg) (λC s H ex x hx _=>sO hu (aa 0 rfl) (aa 1 rfl)))))))))) (λh=>?_) (λh=>aW ?_))
   ·obtain⟨h1,h2⟩:=Im.mp h
    have h1:q∉G.map (·.1):=λw=>by
     have:=(mem q).mpr w
     rw[← eW] at this
     simp[this] at h1
    have h2:∀z∈goal v p q,z∈G.map (·.1):=λz hz=>by
     rw[JK] at h2
     exact(mem z).mp (h2 _ (Jf.mpr ⟨z,IZ.mpr ⟨hz,rfl⟩,rfl⟩))
    have R9:∀z∈goal v p q,aV G z=some (gF G z):=λz hz=>by
     have:=(mem z).mpr (h2 z hz)
     unfold gF
     cases e:aV G z with
     | none=>rw[e] at this;cases this
     | some y=>rfl
    have Pr:(((goal v p q).filter λ_=>true).map λz=>gF G z).sum=((goal v p q).map (gF G)).sum:=by rw[Jr.mpr (by simp)]
    refine ao (kY 2 hu (aa 3 rfl) (EV.N6 (kD (i:=2) rfl) (λ_ _ _ _ _ h=>h) (EV.cast (ny M.sum (aE.im (bK (own:=["_law_goal"]) (fr:=["_law_on_here"]) (ix:=[2]) (ra:=af) (rb:=af) (p:=λ_=>true) (f:=λz=>gF G z) (bu (so:=ag oS) (N0:=zF) rfl rfl (λx h=>aU h) (by decide +kernel)) (aT (aa 4 rfl))
     (λC s H ex=>aI 0) (λx=>⟨.inr rfl,.inl rfl,trivial⟩) (λC s H ex x hx=>cg) (λC s H ex x hx _=>jJ hu (aa 1 rfl) (aa 0 rfl) (R9 x hx))))) Pr)) rfl (Ko (show G.length<=1000 by omega) (by decide)) ?_)
    have ep:dO G q ((goal v p q).map (gF G)).sum=G++[(q,((goal v p q).map (gF G)).sum)]:=by
     unfold dO
     rw[if_neg (λe=>h1 ((mem q).mp e))]
    refine⟨G++[(q,((goal v p q).map (gF G)).sum)],_,_,by rw[ep];rfl,hG.add h1 qb.1 (by omega) h2,λz hz=>?_,by rw[IL];omega,λ_=>by rw[IL];simp;omega⟩
    rw[Jq];exact IX _ (Nt z hz)
   ·refine⟨G,_,_,rfl,hG,Nt,Ot,λNJ=>?_⟩
    by_cases e:qs < (i:Int)
    ·exact Qz e
    ·have eqq:q=qs:=by omega
     subst eqq
     -- it Rf there already
     have Ow:q∈G.map (·.1):=Iw λno=>by
      have a1:(if true=true then !gM (cW G) q else gM (cW G) q)=true:=by
       rw[if_pos rfl,eW]
       cases e2:(aV G q).isSome with
       | false=>rfl
       | true=>exact absurd ((mem q).mp e2) no
      have a2:((((goal v p q).filter λ_=>true).map λz=>(aV G z).isSome).all id)=true:=by
       rw[JK]
       intro y hy
       obtain⟨z,hz,rfl⟩:=Jf.mp hy
       exact(mem z).mpr (Nt z (sg z (IZ.mp hz).1))
      rw[a1,a2] at h
      exact absurd h (by decide)
     have:=dv (q::F.map (·.1)) (G.map (·.1)) (Jh.mpr ⟨sn,hO.nd⟩) λx hx=>by
      rcases IY.mp hx with rfl | hx
      ·exact Ow
      ·exact Nt x hx
     rw[I0,IM,IM] at this
     omega
  ·rintro Γ ⟨G,v3,v4,rfl,hG,_,_,Qz⟩
   rw[aC] at Qz
   have:=Qz (by omega)
   have:=hG.le (by omega)
   exact⟨_,by omega,G,_,_,rfl,hG,rfl⟩
 ·have h:¬(F.length:Int) < v.1.getD p.toNat 0:=of_decide_eq_false h
  exact ao (ow 2 rfl ⟨hO,by omega⟩)
end
def bz (v:ay)(p:Int)(g:Int->Int)(k:Int):Int:=if(rowOf v k).1=p then(((Ni v p (rowOf v k).2.1).filter λj=>decide (j < k)).map λj=>g (bh v j)).sum else 0
def cz (v:ay)(p:Int)(g:Int->Int):Ib:=(ups 0 v.2.length).map (bz v p g)
theorem lB (v:ay)(p q:Int):(Ni v p q).Pairwise (· < ·):=by
 unfold Ni
 exact(qN _).filter _
theorem before {v:ay}{p q:Int}{i:Nat}{k:Int}(h:(Ni v p q)[i]?=some k):(Ni v p q).filter (λj=>decide (j < k))=(Ni v p q).take i:=by
 have hp:=lB v p q
 generalize Ni v p q=l at h hp
 induction l generalizing i with
 | nil=>simp at h
 | cons a l ih=>
   obtain⟨h1,h2⟩:=List.pairwise_cons.mp hp
   cases i with
   | zero=>
     have e:a=k:=by simpa using h
     subst e
     rw[take_zero,List.filter_eq_nil_iff]
     intro x hx
     rcases IY.mp hx with rfl | hx
     ·simp
     ·have:=h1 x hx;simp;omega
   | succ i=>
     have h:l[i]?=some k:=by simpa using h
     have:=h1 k (IQ h)
     rw[J1,decide_eq_true (show a < k by omega),if_pos rfl,J5,ih h h2]
structure lN (v:ay) (p:Int) (g:Int->Int) (n:Int) (q:Int) (i:Nat) (xs:Ib):Prop where
 len:xs.length=v.2.length
 val:∀k,0<=k->k < (v.2.length:Int)->xs.getD k.toNat 0=if(rowOf v k).1=p/\((rowOf v k).2.1 < n∨((rowOf v k).2.1=q/\k∈(Ni v p q).take i)) then bz v p g k else 0
section
abbrev vW:Stmt:=top oq
abbrev nWO:Ic:=["_law_web_here","_law_part_here","_law_on_here","_law_found","_law_place","_law_total","_law_k"]
theorem Ee:aF nWO ["_law_web_here","_law_part_here"] (ag vW):=ND
def GG:cf:=λK ps T=>∃(v:ay) (p:Int),ps=[⟨br,v⟩,⟨af,p⟩]/\aY v/\0<=p/\p < (v.1.length:Int)/\dQ v.2 p.toNat/\T=bL K (ak af) (λws=>∃g,eE v p g/\ws=cz v p g)
theorem EU (M:bR mg)(CN:ax P w K mg base "_law_on" 2 (aG qu K))(CF:ax P w K mg base "_law_from" 1 (aG tP K))(F:bC K "_law_worths" "_law_worths" vW f fd)(hm:mg "_law_worths"=some (.ref f))(hb:Binds K fd ["_law_web_here","_law_part_here"] []):ax P w K mg base "_law_worths" 3 (aG GG K):=by
 have nd:=Ee.nd
 have CF:=CF.mono (show 1<=2 by decide)
 refine bM F Ee hm hb (λqs T ⟨_,_,e,_⟩=>by rw[e];rfl) (λNl A outer s H E qs T hr hS=>?_)
 obtain⟨v,p,rfl,hv,p0,p1,hR,rfl⟩:=hS
 have hu:(A.deeper (KP "_law_worths" (ag vW) s.heap.objs.size f Nl)).units + 1 < cLine:=Ko (Ks (by decide:1<=64) _) hr.units
 have pl:=hv.pl
 have rl:=hv.rl
 have hs:=hv.sz (v.1.getD p.toNat 0) (by rw[IJ,IF (by omega)];exact Jb _)
 change WS _ _ [bB v,av p,.no,.no,.no,.no,.no] _ _
 refine ah (iU 2 CN hr (ae (aa 0 rfl) (ae (aa 1 rfl) aj)) ⟨v,p,rfl,hv,p0,p1,hR,rfl⟩ ?_)
 rintro D ⟨hD,QJ⟩
 have hE:=hD.eq QJ
 have Ph:=hD.all QJ
 have QC:∀z,0<=z->z < v.1.getD p.toNat 0->aV D z=some (gF D z):=λz z0 z1=>by
  have:=dN.mpr (Ph z z0 z1)
  unfold gF
  cases e:aV D z with
  | none=>rw[e] at this;cases this
  | some y=>rfl
 refine ah (cL 3 (r:=af) (iP (aE.im (aw (au ai aD) (by show 1<=K4;decide))) (cK M.len (a9 (aa 0 rfl))) (by omega) (by omega) (aB (by simp;omega))) ?_)
 rw[rep0,show((v.2.length:Int)).toNat=v.2.length by omega]
 have rp:∀k,0<=k->k < (v.2.length:Int)->uq v.1 (rowOf v k):=λk k0 k1=>hv.dD (by unfold rowOf;rw[IJ,IF (by omega)];exact Jb _)
 have w0:lN v p (gF D) 0 0 0 (Jd v.2.length 0):=by
  refine⟨JB,λk k0 k1=>?_⟩
  rw[IJ,JE,if_pos (by omega),if_neg]
  ·rfl
  ·rintro⟨_,z | ⟨_,z⟩⟩
   ·have:=(rp k k0 k1).s0;omega
   ·simp at z
 refine ah (cB (r:=af) (λi Γ=>∃xs v4 v5 v6,Γ=[bB v,av p,.im iB D,.mu af xs,v4,v5,v6]/\lN v p (gF D) (i:Int) 0 0 xs)
  (d5 M.range (aN (c8 (aa 0 rfl)) (aa 1 rfl) (bY p0 p1)) ⟨by omega,by omega⟩) (aI 4) ⟨_,_,_,_,rfl,w0⟩ ?_ ?_)
 ·rintro i q Γ hq ⟨xs,v4,v5,v6,rfl,hW⟩
  obtain⟨hi,eq⟩:=ip hq
  have eq:q=(i:Int):=by omega
  subst eq
  refine ah (aO 5 ai ?_)
  refine ao (cB (r:=af) (λj Γ=>∃xs v6,Γ=[bB v,av p,.im iB D,.mu af xs,av (i:Int),av ((((Ni v p (i:Int)).take j).map λk=>gF D (bh v k)).sum),v6]/\lN v p (gF D) (i:Int) (i:Int) j xs)
   (aT (bc CF hr (ae (aa 0 rfl) (ae (aa 1 rfl) (ae (aa 4 rfl) aj))) ⟨v,p,(i:Int),rfl,by omega,rfl⟩)) (aI 6) ⟨xs,_,rfl,⟨hW.len,λk k0 k1=>by rw[hW.val k k0 k1];simp⟩⟩ ?_ ?_)
  ·rintro j k Γ hk ⟨xs,v6,rfl,hW⟩
   have km:=IQ hk
   obtain⟨k0,k1,kp,kq,kr⟩:=bO km
   have hl:=hW.len
   have tk:(Ni v p (i:Int)).take (j + 1)=(Ni v p (i:Int)).take j++[k]:=by rw[JD,hk];rfl
   refine ah (lS 3 (j:=k.toNat) (aa 5 rfl) (aa 6 rfl) rfl rfl (eP k0 (by omega)) ?_)
   have q:=hv.dD kr
   have e0:=q.e0;have en:=q.en
   rw[kp] at en
   refine ao (aO 5 (bX (aa 5 rfl) (jJ hu (aa 2 rfl) (ck (aN (a9 (aa 0 rfl)) (aa 6 rfl) (cA cq k0 k1))) (QC _ e0 en))) ?_)
   have es:(((Ni v p (i:Int)).take (j + 1)).map λk=>gF D (bh v k)).sum=(((Ni v p (i:Int)).take j).map λk=>gF D (bh v k)).sum + gF D (rowOf v k).2.2.1:=by rw[tk,Jq,Ke];simp[bh]
   refine⟨xs.set k.toNat ((((Ni v p (i:Int)).take j).map λk=>gF D (bh v k)).sum),av k,by rw[es];rfl,by rw[Jp];exact hl,λm m0 m1=>?_⟩
   by_cases e:m=k
   ·subst e
    have hw:bz v p (gF D) m=(((Ni v p (i:Int)).take j).map λk=>gF D (bh v k)).sum:=by
     unfold bz
     rw[if_pos kp,kq,before hk]
    rw[IJ,Ji (by omega),if_pos ⟨kp,.inr ⟨kq,by rw[tk];simp⟩⟩,hw];rfl
   ·have:(xs.set k.toNat ((((Ni v p (i:Int)).take j).map λk=>gF D (bh v k)).sum)).getD m.toNat 0=xs.getD m.toNat 0:=by
     rw[IJ,Jk (by omega),← IJ]
    rw[this,hW.val m m0 m1,tk]
    have:m∈(Ni v p (i:Int)).take j++[k]↔m∈(Ni v p (i:Int)).take j:=by
     rw[IS,II]
     exact⟨λz=>z.resolve_right e,.inl⟩
    simp only[this]
  ·rintro Γ ⟨xs,v6,rfl,hW⟩
   refine⟨xs,_,_,_,rfl,hW.len,λk k0 k1=>?_⟩
   rw[hW.val k k0 k1,Jz]
   have PZ:((rowOf v k).1=p/\((rowOf v k).2.1 < (i:Int)∨((rowOf v k).2.1=(i:Int)/\k∈Ni v p (i:Int))))↔((rowOf v k).1=p/\((rowOf v k).2.1 < ((i + 1:Nat):Int)∨((rowOf v k).2.1=0/\k∈(Ni v p 0).take 0))):=by
    constructor
    ·rintro⟨a,b | ⟨b,_⟩⟩
     ·exact⟨a,.inl (by omega)⟩
     ·exact⟨a,.inl (by omega)⟩
    ·rintro⟨a,b | ⟨_,b⟩⟩
     ·by_cases z:(rowOf v k).2.1 < (i:Int)
      ·exact⟨a,.inl z⟩
      ·have e:(rowOf v k).2.1=(i:Int):=by omega
       refine⟨a,.inr ⟨e,?_⟩⟩
       unfold Ni
       exact IZ.mpr ⟨bj.mpr ⟨k0,k1⟩,decide_eq_true (by rw[a,e])⟩
     ·simp at b
   by_cases c:(rowOf v k).1=p/\((rowOf v k).2.1 < (i:Int)∨((rowOf v k).2.1=(i:Int)/\k∈Ni v p (i:Int)))
   ·rw[if_pos c,if_pos (PZ.mp c)]
   ·rw[if_neg c,if_neg (λz=>c (PZ.mpr z))]
 ·rintro Γ ⟨xs,v4,v5,v6,rfl,hW⟩
  rw[aC] at hW
  have hl:=hW.len
  refine ao (bT (dm 3 rfl (aB (by omega))) ⟨gF D,hE,?_⟩)
  unfold cz
  refine JP λm=>?_
  by_cases hm:m < v.2.length
  ·have hu:(ups 0 v.2.length)[m]?=some (m:Int):=by unfold ups;rw[Je,JZ hm];simp
   have:=hW.val (m:Int) (by omega) (by omega)
   rw[show((m:Int)).toNat=m by omega,IJ,IF (by omega)] at this
   rw[Je,hu,IF (by omega)]
   have this:xs[m]=_:=this
   rw[this]
   congr 1
   by_cases c:(rowOf v (m:Int)).1=p
   ·have r:=rp (m:Int) (by omega) (by omega)
    have b:=r.sn
    rw[c] at b
    rw[if_pos ⟨c,.inl (by omega)⟩]
   ·rw[if_neg (λz=>c z.1)]
    unfold bz
    rw[if_neg c]
  ·rw[Ju (by omega),Ju (by rw[IM,aC];omega)]
def zY:cf:=λK ps T=>∃(v:ay) (p:Int),ps=[⟨br,v⟩,⟨af,p⟩]/\aY v/\0<=p/\p < (v.1.length:Int)/\dQ v.2 p.toNat/\T=iF K af (λws=>∃g,eE v p g/\ws=cz v p g)
theorem kA {v:ay}(hv:aY v){p:Int}(p0:0<=p)(p1:p < (v.1.length:Int))(hR:dQ v.2 p.toNat){g g':Int->Int}(h:eE v p g)(h':eE v p g'):cz v p g=cz v p g':=by
 unfold cz
 refine Jx λk hk=>?_
 unfold bz
 split
 ·congr 1
  refine Jx λj hj=>?_
  have hj:=(IZ.mp hj).1
  obtain⟨_,_,jp,_,jr⟩:=bO hj
  have q:=hv.dD jr
  have a:=q.e0;have b:=q.en
  rw[jp] at b
  exact h.uniq hv p0 hR h' _ a b
 ·rfl
theorem lj {X:Cx}{Γ Γ1:Ga}{N:Ga->Prop}{T:RT}(i:Nat){S:cf}{x y:Str}{k:Nat}{e:Expr}{es:Ii}{p p1 p2 pos:Pos}{ps:List Pk}{r:Rep Int}{Pd:Ib->Prop}(C:ax X.prog X.w X.K X.mg X.base x k (aG S X.K))(hr:bI k X.A)(ha:HA X (e::es) Γ ps Γ1)(hS:S X.K ps (iF X.K r Pd))(h:∀ys,Pd ys->ys.length<=K4->N (Γ1.set i (.mu r ys)))
 (hg:Gl X x:=by rfl) (Nx:Nr x:=by decide) (he:K2 (e::es) X.env=(false,eval e X.env)::K2 es X.env:=by rfl) (Nw:(Lb p2 (K2 es X.env)).any (·.1)=false:=by rfl)
 (hN:X.N.Nodup:=by first | assumption | decide) (hi:X.N[i]?=some y:=by rfl) (hx:autoParam (Loc X.env.scope y) Oe)
 (hs:K9 (.Call (.Name x p) (e::es) [] p2) (some (.Name y p1)) pos.line X.env=pure false:=by rfl) (hf:autoParam (X.fn y=true∨X.env.scope.names.lookup y=some .local) Od):
 W1 X (.Assign [.Name y p1] (.Call (.Name x p) (e::es) [] p2) pos) Γ N T:=λσ H0 R0 H R E D dn dr=>
 sS (eT hN hi hx aJ hs hf) (dS C hr ha hS E (λH1 R1 v H' R' E1 s1 xx t=>by
  obtain⟨a,vs,ys,rfl,h0,h1,h2,p,z,hP⟩:=t
  have E2:=E1.grow xx
  exact dn _ H' R' _ (E2.setG (v:=.ref a) (en:=.mu r ys) i ⟨a,vs,rfl,h1,h2,p⟩ (λc hc=>by rw[show c=a by have:=cy.mp (show c∈refOf (some (.ref a)) from hc);cases this;rfl];exact E1.ext.h.free h0) λc hc j e _ qj w=>by
   have:c=a:=by have:=cy.mp (show c∈refOf (some (.ref a)) from hc);cases this;rfl
   subst this
   exact(Ent.dB (E1.ent j e qj) w).1 h0) (s1.trans xx.r) (h ys hP z)) hg Nx he Nw)
theorem kI {X:Cx}{Γ Γ1:Ga}{S:cf}{x:Str}{k:Nat}{e b:Expr}{es:Ii}{p p2 pos:Pos}{ps:List Pk}{Pd:Ij->Prop}{kk y:Int}(hu:X.A.units + 1 < cLine)(C:ax X.prog X.w X.K X.mg X.base x k (aG S X.K))(hr:bI k X.A)(ha:HA X (e::es) Γ ps Γ1)(hS:S X.K ps (bL X.K iB Pd))(hb:EV X b Γ1 af kk Γ1)(h:∀F,Pd F->aV F kk=some y)
 (hg:Gl X x:=by rfl) (Nx:Nr x:=by decide) (he:K2 (e::es) X.env=(false,eval e X.env)::K2 es X.env:=by rfl) (Nw:(Lb p2 (K2 es X.env)).any (·.1)=false:=by rfl) (hs:rE b:=by exact λ_ _=>rfl):EV X (.Subscript (.Call (.Name x p) (e::es) [] p2) b pos) Γ af y Γ1:=λσ H0 R0 H R E Q q=>
 eS (oj hu aJ aJ hs) (dS C hr ha hS E (λH1 R1 v H' R' E1 s1 xx t=>by
  obtain⟨F,e1,hF⟩:=t
  refine hb σ H0 R0 H' R' (E1.grow xx) _ λu H2 R2 E2 s2 e2=>?_
  obtain⟨a,rfl,hp⟩:=iB.mono s2 e1
  cases e2
  have g:=eY.k (k:=Sum.inl kk) (E2.sub _ _ hp)
  rw[gE,h F hF] at g
  exact⟨a,_,rfl,g,q _ H2 R2 E2 (s1.trans (xx.r.trans s2)) rfl⟩) hg Nx he Nw)
end
theorem Ez {v:ay}(hv:aY v){p:Int}(p0:0<=p)(p1:p < (v.1.length:Int))(hR:dQ v.2 p.toNat):∃g,eE v p g:=by
 have hs:=hv.sz (v.1.getD p.toNat 0) (by rw[IJ,IF (by omega)];exact Jb _)
 have o0:eL v p [(1,1)]:=⟨rfl,by simp,λq hq=>by(have:q=1:=by simpa using hq);omega,λq hq qn=>absurd (show q=1 by simpa using hq) qn⟩
 have go:∀(m:Nat) (F:Ij),eL v p F->m=(v.1.getD p.toNat 0 - (F.length:Int)).toNat->∃g,eE v p g:=by
  intro m
  induction m with
  | zero=>exact λF h e=>⟨_,h.eq (by omega)⟩
  | succ m ih=>
    intro F h e
    obtain⟨q,q0,q1,qn,qg⟩:=h.next hv p0 hR (by omega)
    exact ih _ (h.add qn q0 q1 qg) (by rw[IL,Jo];omega)
 exact go _ _ o0 rfl
open Classical in
noncomputable def N4 (v:ay)(p:Int):Int->Int:=if h:∃g,eE v p g then Classical.choose h else λ_=>0
section
variable {v:ay}{p:Int}
theorem iY (hv:aY v)(p0:0<=p)(p1:p < (v.1.length:Int))(hR:dQ v.2 p.toNat):eE v p (N4 v p):=by
 have h:=Ez hv p0 p1 hR
 unfold N4
 rw[dif_pos h]
 exact Classical.choose_spec h
theorem eL.get (hv:aY v)(p0:0<=p)(p1:p < (v.1.length:Int))(hR:dQ v.2 p.toNat){F:Ij}(h1:eL v p F)(h2:v.1.getD p.toNat 0<=(F.length:Int)){q:Int}(q0:0<=q)(q1:q < v.1.getD p.toNat 0):aV F q=some (N4 v p q):=by
 have e:=(h1.eq h2).uniq hv p0 hR (iY hv p0 p1 hR) q q0 q1
 have:=dN.mpr (h1.all h2 q q0 q1)
 unfold gF at e
 cases e2:aV F q with
 | none=>rw[e2] at this;cases this
 | some y=>rw[e2] at e;exact congrArg some e
theorem h9:(dw v p).length=(v.1.getD p.toNat 0).toNat:=by unfold dw;rw[IM,aC]
theorem vw {i:Nat}{x:Ib}(h:(dw v p)[i]?=some x):i < (v.1.getD p.toNat 0).toNat/\x=Ni v p (i:Int):=by
 have il:=(IG.mp h).1
 rw[h9] at il
 unfold dw at h
 rw[Je,iR il] at h
 exact⟨il,(Option.some.inj h).symm⟩
end
section
abbrev oY:Stmt:=top uz
abbrev zS:Ic:=["web","part","leaving","known","place","numbers","following"]
theorem Dx:aF zS ["web","part"] (ag oY):=ND
theorem FD (M:bR mg)(CL:ax P w K mg base "rows_leaving" 1 (aG (wV true) K))(F:bC K "ways_on" "ways_on" oY f fd)(hm:mg "ways_on"=some (.ref f))(hb:Binds K fd ["web","part"] []):ax P w K mg base "ways_on" 2 (aG qu K):=by
 have nd:=Dx.nd
 have OO:Jl [("number":Str),"web"]:=by decide
 have Pj:Jl [("to":Str),"known"]:=by decide
 obtain⟨t2,OC⟩:=M.end_
 refine bM F Dx hm hb (λqs T ⟨_,_,e,_⟩=>by rw[e];rfl) (λNl A outer s H E qs T hr hS=>?_)
 obtain⟨v,p,rfl,hv,p0,p1,hR,rfl⟩:=hS
 have hu:(A.deeper (KP "ways_on" (ag oY) s.heap.objs.size f Nl)).units + 1 < cLine:=Ko (Ks (by decide:1<=64) _) hr.units
 have pl:=hv.pl
 have rl:=hv.rl
 have hs:=hv.sz (v.1.getD p.toNat 0) (by rw[IJ,IF (by omega)];exact Jb _)
 have ll:=h9 (v:=v) (p:=p)
 change WS _ _ [bB v,av p,.no,.no,.no,.no,.no] _ _
 refine ah (aO 2 (aE.im (fD CL hr (ae (aa 0 rfl) (ae (aa 1 rfl) aj)) ⟨v,p,rfl,hv,p0,p1,rfl⟩)) ?_)
 refine ah (lV 3 (uc OC) eU ?_)
 have o0:eL v p [(1,1)]:=⟨rfl,by simp,λq hq=>by(have:q=1:=by simpa using hq);omega,λq hq qn=>absurd (show q=1 by simpa using hq) qn⟩
 refine ah (iV (λm Γ=>∃F v4 v5 v6,Γ=[bB v,av p,.im (ak (ak af)) (dw v p),.di (cW F),v4,v5,v6]/\eL v p F/\m=(v.1.getD p.toNat 0 - (F.length:Int)).toNat) ⟨[(1,1)],_,_,_,rfl,o0,rfl⟩ ?_)
 rintro m Γ ⟨F,v4,v5,v6,rfl,hO,rfl⟩
 have hle:=hO.le (by omega)
 refine⟨_,_,TV.N6 (kD (i:=3) rfl) (aK dX (mx M.len (aa 3 rfl)) (cK M.len (aa 2 rfl))),λh=>?_,λh=>?_⟩
 ·have h:(F.length:Int) < v.1.getD p.toNat 0:=by have:=of_decide_eq_true h;omega
  obtain⟨qs,s0,s1,sn,sg⟩:=hO.next hv p0 hR h
  refine ao (cB (r:=aP af (ak af)) (λi Γ=>∃G v4 v5 v6,Γ=[bB v,av p,.im (ak (ak af)) (dw v p),.di (cW G),v4,v5,v6]/\eL v p G/\(∀z∈F.map (·.1),z∈G.map (·.1))/\F.length<=G.length/\(qs < (i:Int)->F.length < G.length))
   (jX M.enumerate (aa 2 rfl)) (gZ 4 5) ⟨F,_,_,_,rfl,hO,λz hz=>hz,Kp _,λe=>by omega⟩ ?_ ?_)
  ·rintro i x Γ hx ⟨G,v4,v5,v6,rfl,hG,Nt,Ot,Qz⟩
   obtain⟨e1,e2⟩:=iT hx
   obtain⟨il,e3⟩:=vw e2
   obtain⟨q,ns⟩:=x
   have e1:q=(i:Int):=e1
   have e3:ns=Ni v p (i:Int):=e3
   rw[← e1] at e3
   subst e3
   have Pt:((((Ni v p q).filter λ_=>true).map λk=>(rowOf v k).2.2.1))=goal v p q:=by rw[Jr.mpr (by simp)];rfl
   have hk:∀k∈Ni v p q,cS v.2 k=some (rowOf v k):=λk hk=>cA cq (bO hk).1 (bO hk).2.1
   change WS _ _ [bB v,av p,.im (ak (ak af)) (dw v p),.di (cW G),av q,bH (Ni v p q),v6] _ _
   refine ah (jS 6 (own:=["number"]) (fr:=["web"]) (ix:=[0]) (ra:=af) (rb:=af) (p:=λ_=>true) (f:=λk=>(rowOf v k).2.2.1) (bu (so:=ag oY) (N0:=zS) rfl rfl (λx h=>aU h) (by decide +kernel)) (aT (aa 5 rfl))
    (λC s H ex=>aI 0) (λx=>⟨.inr rfl,.inl rfl,trivial⟩) (λC s H ex x hx=>cg) (λC s H ex x hx _=>ck (aN (a9 (aa 1 rfl)) (aa 0 rfl) (hk x hx))) ?_)
   rw[Pt]
   have gl:(goal v p q).length<=60:=by
    unfold goal Ni
    rw[IM]
    refine Kq (Jt _ _) ?_
    rw[aC];omega
   refine WS.freeze 6 rfl (aB (by omega)) ?_
   change WS _ _ [bB v,av p,.im (ak (ak af)) (dw v p),.di (cW G),av q,bH (Ni v p q),bH (goal v p q)] _ _
   have mem:∀z,(aV G z).isSome=true↔z∈G.map (·.1):=λz=>dN
   have QZ:=hG.le (by omega)
   refine ao (bF (TW.tv (iu (jL 3 true hu (aa 4 rfl) rfl) (λ_=>iX (TV.N6 (kD (i:=3) rfl) (bE (fc M.all (aE.im (bK (own:=["to"]) (fr:=["known"]) (ix:=[3]) (ra:=af) (rb:=aX) (p:=λ_=>true) (f:=λz=>(aV G z).isSome) (bu (so:=ag oY) (N0:=zS) rfl rfl (λx h=>aU h) (by decide +kernel)) (aT (aa 6 rfl))
    (λC s H ex=>aI 0) (λx=>⟨.inr rfl,.inl rfl,trivial⟩) (λC s H ex x hx=>cg) (λC s H ex x hx _=>sO hu (aa 0 rfl) (aa 1 rfl)))))))))) (λh=>?_) (λh=>aW ?_))
   ·obtain⟨h1,h2⟩:=Im.mp h
    have h1:q∉G.map (·.1):=λw=>by
     have:=(mem q).mpr w
     rw[← eW] at this
     simp[this] at h1
    have h2:∀z∈goal v p q,z∈G.map (·.1):=λz hz=>by
     rw[JK] at h2
     exact(mem z).mp (h2 _ (Jf.mpr ⟨z,IZ.mpr ⟨hz,rfl⟩,rfl⟩))
    have R9:∀z∈goal v p q,aV G z=some (gF G z):=λz hz=>by
     have:=(mem z).mpr (h2 z hz)
     unfold gF
     cases e:aV G z with
     | none=>rw[e] at this;cases this
     | some y=>rfl
    have Pr:(((goal v p q).filter λ_=>true).map λz=>gF G z).sum=((goal v p q).map (gF G)).sum:=by rw[Jr.mpr (by simp)]
    refine ao (kY 3 hu (aa 4 rfl) (EV.N6 (kD (i:=3) rfl) (λ_ _ _ _ _ h=>h) (EV.cast (ny M.sum (aE.im (bK (own:=["to"]) (fr:=["known"]) (ix:=[3]) (ra:=af) (rb:=af) (p:=λ_=>true) (f:=λz=>gF G z) (bu (so:=ag oY) (N0:=zS) rfl rfl (λx h=>aU h) (by decide +kernel)) (aT (aa 6 rfl))
     (λC s H ex=>aI 0) (λx=>⟨.inr rfl,.inl rfl,trivial⟩) (λC s H ex x hx=>cg) (λC s H ex x hx _=>jJ hu (aa 1 rfl) (aa 0 rfl) (R9 x hx))))) Pr)) rfl (Ko (show G.length<=1000 by omega) (by decide)) ?_)
    have ep:dO G q ((goal v p q).map (gF G)).sum=G++[(q,((goal v p q).map (gF G)).sum)]:=by
     unfold dO
     rw[if_neg (λe=>h1 ((mem q).mp e))]
    refine⟨G++[(q,((goal v p q).map (gF G)).sum)],_,_,_,by rw[ep];rfl,hG.add h1 (by omega) (by omega) h2,λz hz=>?_,by rw[IL];omega,λ_=>by rw[IL];simp;omega⟩
    rw[Jq];exact IX _ (Nt z hz)
   ·refine⟨G,_,_,_,rfl,hG,Nt,Ot,λNJ=>?_⟩
    by_cases e:qs < (i:Int)
    ·exact Qz e
    ·have eqq:q=qs:=by omega
     subst eqq
     have Ow:q∈G.map (·.1):=Iw λno=>by
      have a1:(if true=true then !gM (cW G) q else gM (cW G) q)=true:=by
       rw[if_pos rfl,eW]
       cases e2:(aV G q).isSome with
       | false=>rfl
       | true=>exact absurd ((mem q).mp e2) no
      have a2:((((goal v p q).filter λ_=>true).map λz=>(aV G z).isSome).all id)=true:=by
       rw[JK]
       intro y hy
       obtain⟨z,hz,rfl⟩:=Jf.mp hy
       exact(mem z).mpr (Nt z (sg z (IZ.mp hz).1))
      rw[a1,a2] at h
      exact absurd h (by decide)
     have:=dv (q::F.map (·.1)) (G.map (·.1)) (Jh.mpr ⟨sn,hO.nd⟩) λx hx=>by
      rcases IY.mp hx with rfl | hx
      ·exact Ow
      ·exact Nt x hx
     rw[I0,IM,IM] at this
     omega
  ·rintro Γ ⟨G,v4,v5,v6,rfl,hG,_,_,Qz⟩
   rw[ee,h9] at Qz
   have:=Qz (by omega)
   have:=hG.le (by omega)
   exact⟨_,by omega,G,_,_,_,rfl,hG,rfl⟩
 ·have h:¬(F.length:Int) < v.1.getD p.toNat 0:=by have:=of_decide_eq_false h;omega
  exact ao (ow 3 rfl ⟨hO,by omega⟩)
abbrev vY:Stmt:=top qm
abbrev nWI:Ic:=["web","part","known","told","numbers","total","number"]
theorem D8:aF nWI ["web","part"] (ag vY):=ND
theorem Et (M:bR mg)(CN:ax P w K mg base "ways_on" 2 (aG qu K))(CL:ax P w K mg base "rows_leaving" 1 (aG (wV true) K))(F:bC K "worths_in" "worths_in" vY f fd)(hm:mg "worths_in"=some (.ref f))(hb:Binds K fd ["web","part"] []):ax P w K mg base "worths_in" 3 (aG zY K):=by
 have nd:=D8.nd
 have CN:=CN.mono (show 2<=2 by decide)
 have CL:=CL.mono (show 1<=2 by decide)
 refine bM F D8 hm hb (λqs T ⟨_,_,e,_⟩=>by rw[e];rfl) (λNl A outer s H E qs T hr hS=>?_)
 obtain⟨v,p,rfl,hv,p0,p1,hR,rfl⟩:=hS
 have hu:(A.deeper (KP "worths_in" (ag vY) s.heap.objs.size f Nl)).units + 1 < cLine:=Ko (Ks (by decide:1<=64) _) hr.units
 have pl:=hv.pl
 have rl:=hv.rl
 have hs:=hv.sz (v.1.getD p.toNat 0) (by rw[IJ,IF (by omega)];exact Jb _)
 have ll:=h9 (v:=v) (p:=p)
 change WS _ _ [bB v,av p,.no,.no,.no,.no,.no] _ _
 refine ah (iU 2 CN hr (ae (aa 0 rfl) (ae (aa 1 rfl) aj)) ⟨v,p,rfl,hv,p0,p1,hR,rfl⟩ ?_)
 rintro D ⟨hD,QJ⟩
 have hE:=iY hv p0 p1 hR
 have QC:∀z,0<=z->z < v.1.getD p.toNat 0->aV D z=some (N4 v p z):=λz z0 z1=>eL.get hv p0 p1 hR hD QJ z0 z1
 generalize N4 v p=g at hE QC
 refine ah (cL 3 (r:=af) (iP (aE.im (aw (au ai aD) (by show 1<=K4;decide))) (cK M.len (a9 (aa 0 rfl))) (by omega) (by omega) (aB (by simp;omega))) ?_)
 rw[rep0,show((v.2.length:Int)).toNat=v.2.length by omega]
 have rp:∀k,0<=k->k < (v.2.length:Int)->uq v.1 (rowOf v k):=λk k0 k1=>hv.dD (by unfold rowOf;rw[IJ,IF (by omega)];exact Jb _)
 have w0:lN v p g 0 0 0 (Jd v.2.length 0):=by
  refine⟨JB,λk k0 k1=>?_⟩
  rw[IJ,JE,if_pos (by omega),if_neg]
  ·rfl
  ·rintro⟨_,z | ⟨_,z⟩⟩
   ·have:=(rp k k0 k1).s0;omega
   ·simp at z
 refine ah (cB (r:=ak af) (λi Γ=>∃xs v4 v5 v6,Γ=[bB v,av p,.im iB D,.mu af xs,v4,v5,v6]/\lN v p g (i:Int) 0 0 xs)
  (aT (aE.im (fD CL hr (ae (aa 0 rfl) (ae (aa 1 rfl) aj)) ⟨v,p,rfl,hv,p0,p1,rfl⟩))) (aI 4) ⟨_,_,_,_,rfl,w0⟩ ?_ ?_)
 ·rintro i ns Γ hq ⟨xs,v4,v5,v6,rfl,hW⟩
  obtain⟨hi,rfl⟩:=vw hq
  refine ah (aO 5 ai ?_)
  refine ao (cB (r:=af) (λj Γ=>∃xs v6,Γ=[bB v,av p,.im iB D,.mu af xs,bH (Ni v p (i:Int)),av ((((Ni v p (i:Int)).take j).map λk=>g (bh v k)).sum),v6]/\lN v p g (i:Int) (i:Int) j xs)
   (aT (aa 4 rfl)) (aI 6) ⟨xs,_,rfl,⟨hW.len,λk k0 k1=>by rw[hW.val k k0 k1];simp⟩⟩ ?_ ?_)
  ·rintro j k Γ hk ⟨xs,v6,rfl,hW⟩
   have km:=IQ hk
   obtain⟨k0,k1,kp,kq,kr⟩:=bO km
   have hl:=hW.len
   have tk:(Ni v p (i:Int)).take (j + 1)=(Ni v p (i:Int)).take j++[k]:=by rw[JD,hk];rfl
   refine ah (lS 3 (aa 5 rfl) (aa 6 rfl) rfl rfl (eP k0 (by omega)) ?_)
   have q:=hv.dD kr
   have e0:=q.e0;have en:=q.en
   rw[kp] at en
   refine ao (Dj 5 (jJ hu (aa 2 rfl) (ck (aN (a9 (aa 0 rfl)) (aa 6 rfl) (cA cq k0 k1))) (QC _ e0 en)) rfl ?_)
   have es:(((Ni v p (i:Int)).take (j + 1)).map λk=>g (bh v k)).sum=(((Ni v p (i:Int)).take j).map λk=>g (bh v k)).sum + g (rowOf v k).2.2.1:=by rw[tk,Jq,Ke];simp[bh]
   refine⟨xs.set k.toNat ((((Ni v p (i:Int)).take j).map λk=>g (bh v k)).sum),av k,by rw[es];rfl,by rw[Jp];exact hl,λm m0 m1=>?_⟩
   by_cases e:m=k
   ·subst e
    have hw:bz v p g m=(((Ni v p (i:Int)).take j).map λk=>g (bh v k)).sum:=by
     unfold bz
     rw[if_pos kp,kq,before hk]
    rw[IJ,Ji (by omega),if_pos ⟨kp,.inr ⟨kq,by rw[tk];simp⟩⟩,hw];rfl
   ·have:(xs.set k.toNat ((((Ni v p (i:Int)).take j).map λk=>g (bh v k)).sum)).getD m.toNat 0=xs.getD m.toNat 0:=by
     rw[IJ,Jk (by omega),← IJ]
    rw[this,hW.val m m0 m1,tk]
    have:m∈(Ni v p (i:Int)).take j++[k]↔m∈(Ni v p (i:Int)).take j:=by
     rw[IS,II]
     exact⟨λz=>z.resolve_right e,.inl⟩
    simp only[this]
  ·rintro Γ ⟨xs,v6,rfl,hW⟩
   refine⟨xs,_,_,_,rfl,hW.len,λk k0 k1=>?_⟩
   rw[hW.val k k0 k1,Jz]
   have PZ:((rowOf v k).1=p/\((rowOf v k).2.1 < (i:Int)∨((rowOf v k).2.1=(i:Int)/\k∈Ni v p (i:Int))))↔((rowOf v k).1=p/\((rowOf v k).2.1 < ((i + 1:Nat):Int)∨((rowOf v k).2.1=0/\k∈(Ni v p 0).take 0))):=by
    constructor
    ·rintro⟨a,b | ⟨b,_⟩⟩
     ·exact⟨a,.inl (by omega)⟩
     ·exact⟨a,.inl (by omega)⟩
    ·rintro⟨a,b | ⟨_,b⟩⟩
     ·by_cases z:(rowOf v k).2.1 < (i:Int)
      ·exact⟨a,.inl z⟩
      ·have e:(rowOf v k).2.1=(i:Int):=by omega
       refine⟨a,.inr ⟨e,?_⟩⟩
       unfold Ni
       exact IZ.mpr ⟨bj.mpr ⟨k0,k1⟩,decide_eq_true (by rw[a,e])⟩
     ·simp at b
   by_cases c:(rowOf v k).1=p/\((rowOf v k).2.1 < (i:Int)∨((rowOf v k).2.1=(i:Int)/\k∈Ni v p (i:Int)))
   ·rw[if_pos c,if_pos (PZ.mp c)]
   ·rw[if_neg c,if_neg (λz=>c (PZ.mpr z))]
 ·rintro Γ ⟨xs,v4,v5,v6,rfl,hW⟩
  rw[h9] at hW
  have hl:=hW.len
  refine ao (nQ 3 rfl (aB (by omega)) ⟨g,hE,?_⟩)
  unfold cz
  refine JP λm=>?_
  by_cases hm:m < v.2.length
  ·have hu:(ups 0 v.2.length)[m]?=some (m:Int):=iR hm
   have:=hW.val (m:Int) (by omega) (by omega)
   rw[show((m:Int)).toNat=m by omega,IJ,IF (by omega)] at this
   rw[Je,hu,IF (by omega)]
   have this:xs[m]=_:=this
   rw[this]
   congr 1
   by_cases c:(rowOf v (m:Int)).1=p
   ·have r:=rp (m:Int) (by omega) (by omega)
    have b:=r.sn
    rw[c] at b
    rw[if_pos ⟨c,.inl (by omega)⟩]
   ·rw[if_neg (λz=>c z.1)]
    unfold bz
    rw[if_neg c]
  ·rw[Ju (by omega),Ju (by rw[IM,aC];omega)]
end
section
variable {v:ay}{p:Int}
theorem rB:∀(xs:Ib),(∀x∈xs,0<=x)->0<=xs.sum
 | [],_=>by simp
 | x::xs,h=>by
   rw[JW]
   have:=h x IT
   have:=rB xs λy hy=>h y (IK _ hy)
   omega
theorem step_at (g:Nat->Int)(l:Int):∀n,g 0<=l->l < g n->∃i,i < n/\g i<=l/\l < g (i + 1)
 | 0,h0,h1=>by omega
 | n + 1,h0,h1=>by
   by_cases e:g n<=l
   ·exact⟨n,by omega,e,h1⟩
   ·obtain⟨i,h2,h3,h4⟩:=step_at g l n h0 (by omega)
    exact⟨i,by omega,h3,h4⟩
theorem tD {g:Nat->Int}{n:Nat}(h:∀i,i < n->g i<=g (i + 1)):∀{i j:Nat},i<=j->j<=n->g i<=g j:=by
 intro i j Ox
 induction Ox with
 | refl=>intro _;exact ID _
 | step _ ih=>intro hj;exact IA (ih (by omega)) (h _ (by omega))
theorem mH (hv:aY v)(p0:0<=p)(hR:dQ v.2 p.toNat){r:Row}(hr:r∈v.2)(hp:r.1=p):fq (fwd v.2 p) r.2.2.1 < fq (fwd v.2 p) r.2.1:=by
 have ht:(r.2.1,r.2.2.1)∈fwd v.2 p:=gr.mpr ⟨r,hr,hp,rfl,rfl⟩
 have rp:=hv.dD hr
 have s0:=rp.s0;have sn:=rp.sn;have q1:=rp.p1;have q0:=rp.p0
 have sz:=hv.sz (v.1.getD r.1.toNat 0) (by rw[IJ,IF (by omega)];exact Jb _)
 exact sN ht ((y6 hv p0).mp hR _ ht) s0 (by omega)
theorem uV {v:ay}(hv:aY v){p:Int}(p0:0<=p)(hR:dQ v.2 p.toNat){g:Int->Int}(hE:eE v p g):∀(n:Nat) (q:Int),fq (fwd v.2 p) q < n->0<=q->q < v.1.getD p.toNat 0->0<=g q
 | 0,q,h,_,_=>by omega
 | n + 1,q,h,q0,q1=>by
   by_cases e:q=1
   ·rw[e,hE.one];decide
   ·rw[hE.step q q0 q1 e]
    refine rB _ λy hy=>?_
    obtain⟨z,hz,rfl⟩:=Jf.mp hy
    obtain⟨z0,z1,_,r,hr,r1,r2,r3⟩:=mG hv hz
    have:=mH hv p0 hR hr r1
    rw[r2,r3] at this
    exact uV hv p0 hR hE n z (by omega) z0 z1
theorem fi {g:Int->Int}{k:Int}(k0:0<=k)(k1:k < (v.2.length:Int)):(cz v p g).getD k.toNat 0=bz v p g k:=by
 unfold cz
 rw[IJ,Je]
 unfold ups
 rw[Je,JZ (by omega)]
 simp only[KI,Option.getD_some]
 rw[show(0:Int) + (k.toNat:Int)=k by omega]
def cV (v:ay)(p:Int)(g:Int->Int)(left:Int)(k:Int):Bool:=decide ((cz v p g).getD k.toNat 0<=left)
theorem x6 (hv:aY v)(p0:0<=p)(hR:dQ v.2 p.toNat){g:Int->Int}(hE:eE v p g){q left:Int}(q0:0<=q)(q1:q < v.1.getD p.toNat 0)(qn:q≠1)(l0:0<=left)(l1:left < g q):
 ∃k,k∈Ni v p q/\bz v p g k<=left/\left - bz v p g k < g (bh v k)/\k∈(Ni v p q).filter (cV v p g left)/\∀x∈(Ni v p q).filter (cV v p g left),x<=k:=by
 have hg:g q=((Ni v p q).map λk=>g (bh v k)).sum:=by
  rw[hE.step q q0 q1 qn]
  unfold goal
  rw[JO];rfl
 have gn:∀k∈Ni v p q,0<=g (bh v k):=λk hk=>by
  obtain⟨_,_,h1,h2,h3⟩:=bO hk
  have r:=hv.dD h3
  have a:=r.e0;have b:=r.en
  rw[h1] at b
  exact uV hv p0 hR hE _ _ (Kx _) a b
 have tk:∀(i:Nat) (k:Int),(Ni v p q)[i]?=some k->(((Ni v p q).take (i + 1)).map λk=>g (bh v k)).sum=(((Ni v p q).take i).map λk=>g (bh v k)).sum + g (bh v k):=λi k hk=>by
  rw[JD,hk,Jq,Ke];simp
 obtain⟨j,hj,h1,h2⟩:=step_at (λi=>(((Ni v p q).take i).map λk=>g (bh v k)).sum) left (Ni v p q).length (by simpa using l0) (by rw[Jz,← hg];exact l1)
 have h1:(((Ni v p q).take j).map λk=>g (bh v k)).sum<=left:=h1
 have h2:left < (((Ni v p q).take (j + 1)).map λk=>g (bh v k)).sum:=h2
 obtain⟨k,hk⟩:∃k,(Ni v p q)[j]?=some k:=⟨_,IF hj⟩
 have wa:∀(i:Nat) (x:Int),(Ni v p q)[i]?=some x->bz v p g x=(((Ni v p q).take i).map λk=>g (bh v k)).sum:=λi x hx=>by
  obtain⟨_,_,e1,e2,_⟩:=bO (IQ hx)
  unfold bz
  rw[if_pos e1,e2,before hx]
 have wf:∀(i:Nat) (x:Int),(Ni v p q)[i]?=some x->(cz v p g).getD x.toNat 0=(((Ni v p q).take i).map λk=>g (bh v k)).sum:=λi x hx=>by
  obtain⟨e0,e1,_⟩:=bO (IQ hx)
  rw[fi e0 e1,wa i x hx]
 have h3:=tk j k hk
 refine⟨k,IQ hk,by rw[wa j k hk];exact h1,by rw[wa j k hk];omega,IZ.mpr ⟨IQ hk,?_⟩,λx hx=>?_⟩
 ·unfold cV
  rw[wf j k hk];exact decide_eq_true h1
 ·obtain⟨R6,PR⟩:=IZ.mp hx
  obtain⟨i,hi⟩:=Ja.mp R6
  unfold cV at PR
  have PR:=of_decide_eq_true PR
  rw[wf i x hi] at PR
  have il:=(IG.mp hi).1
  have mono:∀m,m < (Ni v p q).length->(((Ni v p q).take m).map λk=>g (bh v k)).sum<=(((Ni v p q).take (m + 1)).map λk=>g (bh v k)).sum:=λm hm=>by
   rw[tk m _ (IF hm)]
   have:=gn _ (Jb hm)
   omega
  have ij:i<=j:=Nat.le_of_not_lt λz=>by
   have:=tD (g:=λi=>(((Ni v p q).take i).map λk=>g (bh v k)).sum) mono (i:=j + 1) (j:=i) (by omega) (by omega)
   have this:(((Ni v p q).take (j + 1)).map λk=>g (bh v k)).sum<=(((Ni v p q).take i).map λk=>g (bh v k)).sum:=this
   omega
  have hp:=lB v p q
  rcases Kw i j with z | z
  ·have a1:=IG.mp hi
   have a2:=IG.mp hk
   have:=List.pairwise_iff_getElem.mp hp i j a1.1 a2.1 z
   rw[a1.2,a2.2] at this
   omega
  ·have:i=j:=by omega
   subst this
   rw[hk] at hi;cases hi;exact ID _
theorem xC (es:Ij)(a:Int):fq es a<=16:=by
 unfold fq
 refine Kq (Jt _ _) ?_
 rw[aC];exact Kp _
def fR (v:ay)(p:Int)(g:Int->Int):Nat->Int->Int->Ib
 | 0,_,_=>[]
 | m + 1,q,left=>if q=1 then[] else most ((Ni v p q).filter (cV v p g left))::fR v p g m (bh v (most ((Ni v p q).filter (cV v p g left)))) (left - bz v p g (most ((Ni v p q).filter (cV v p g left))))
end
section
variable {C:Addr}
abbrev xK:Stmt:=top wo
abbrev G6:Ic:=["web","known","leaving","number","way","place","left","row"]
theorem Cv:aF G6 ["web","known","leaving","number"] (ag xK):=ND
def Ha:cf:=λK ps T=>∃(v:ay) (p:Int) (g:Int->Int) (n:Int),ps=[⟨br,v⟩,⟨ak af,cz v p g⟩,⟨ak (ak af),dw v p⟩,⟨af,n⟩]/\aY v/\0<=p/\p < (v.1.length:Int)/\dQ v.2 p.toNat/\eE v p g/\0<=n/\n < g 0/\T=bL K (ak af) (· =fR v p g 17 0 n)
theorem F9 (M:bR mg)(F:bC K "way_by" "way_by" xK f fd)(hm:mg "way_by"=some (.ref f))(hb:Binds K fd ["web","known","leaving","number"] []):ax P w K mg base "way_by" 1 (aG Ha K):=by
 have nd:=Cv.nd
 have OO:Jl [("choice":Str),"known","left"]:=by decide
 obtain⟨t1,hB⟩:=M.begin_
 obtain⟨t2,OC⟩:=M.end_
 refine bM F Cv hm hb (λqs T ⟨_,_,_,_,e,_⟩=>by rw[e];rfl) (λNl A outer s H E qs T hr hS=>?_)
 obtain⟨v,p,g,n,rfl,hv,p0,p1,hR,hE,n0,n1,rfl⟩:=hS
 have rl:=hv.rl
 have hs:=hv.sz (v.1.getD p.toNat 0) (by rw[IJ,IF (by omega)];exact Jb _)
 have ll:=h9 (v:=v) (p:=p)
 have wl:(cz v p g).length=v.2.length:=by unfold cz;rw[IM,aC]
 change WS _ _ [bB v,bH (cz v p g),.im (ak (ak af)) (dw v p),av n,.no,.no,.no,.no] _ _
 refine ah (cL 4 (r:=af) (aw aD (by decide)) ?_)
 refine ah (aO 5 (bV hB) ?_)
 refine ah (aO 6 (aa 3 rfl) ?_)
 refine ah (iV (λm Γ=>∃way q left v7,Γ=[bB v,bH (cz v p g),.im (ak (ak af)) (dw v p),av n,.mu af way,av q,av left,v7]/\0<=q/\q < v.1.getD p.toNat 0/\0<=left/\left < g q/\m=fq (fwd v.2 p) q/\way.length + fq (fwd v.2 p) q<=16/\fR v p g 17 0 n=way++fR v p g (17 - way.length) q left) (m0:=fq (fwd v.2 p) 0) ⟨_,_,_,_,rfl,by decide,by omega,n0,n1,rfl,by have:=xC (fwd v.2 p) 0;simpa using this,rfl⟩ ?_)
 rintro m Γ ⟨way,q,left,v7,rfl,q0,q1,l0,l1,rfl,hl,hw⟩
 have ew:fR v p g (17 - way.length) q left=if q=1 then[] else most ((Ni v p q).filter (cV v p g left))::fR v p g (16 - way.length) (bh v (most ((Ni v p q).filter (cV v p g left)))) (left - bz v p g (most ((Ni v p q).filter (cV v p g left)))):=by
  rw[show 17 - way.length=(16 - way.length) + 1 by omega];rfl
 rw[ew] at hw
 refine⟨_,_,aK nR (aa 5 rfl) (bV OC),λh=>?_,λh=>?_⟩
 ·have h:q≠1:=by simpa using h
  obtain⟨k,km,w1,w2,kf,kx⟩:=x6 hv p0 hR hE q0 q1 h l0 l1
  obtain⟨k0,k1,kp,kq,kr⟩:=bO km
  have lat:cS (dw v p) q=some (Ni v p q):=by
   rw[fX q0 (by omega)]
   unfold dw
   rw[Je,iR (by omega)]
   simp only[KI]
   rw[show((q.toNat:Nat):Int)=q by omega]
  have w0:0<=bz v p g k:=by
   unfold bz
   rw[if_pos kp]
   refine rB _ λy hy=>?_
   obtain⟨j,hj,rfl⟩:=Jf.mp hy
   rw[kq] at hj
   obtain⟨_,_,j1,j2,j3⟩:=bO (IZ.mp hj).1
   have r:=hv.dD j3
   have a:=r.e0;have b:=r.en
   rw[j1] at b
   exact uV hv p0 hR hE _ _ (Kx _) a b
  refine ah (aO 7 (y:=k) (EV.cast (AH M.max (aE.im (bK (own:=["choice"]) (fr:=["known","left"]) (ix:=[1,6]) (ra:=af) (rb:=af) (p:=cV v p g left) (f:=λx=>x) (bu (so:=ag xK) (N0:=G6) rfl rfl (λx h=>aU h) (by decide +kernel)) (aT (aN (aa 2 rfl) (aa 5 rfl) lat))
   (λC s H ex=>aI 0) (λx=>⟨.inr rfl,.inl rfl,.inl rfl,trivial⟩) (λC s H ex x hx=>i5 (aK f6 (aN (aa 1 rfl) (aa 0 rfl) (by have:=bO hx;exact bY this.1 (by omega))) (aa 2 rfl))) (λC s H ex x hx _=>aa 0 rfl))) (by rw[map_id'];exact Kn kf)) (by rw[map_id'];exact lI kf kx)) ?_)
  refine ah (w_subN 6 (c:=bz v p g k) (aN (aa 1 rfl) (aa 7 rfl) (by rw[bY k0 (by omega),fi k0 k1])) rfl ?_)
  refine ah (bU 4 (aa 7 rfl) rfl rfl (Ko (show way.length<=1000 by omega) (by decide)) ?_)
  refine ao (aO 5 (ck (aN (y:=rowOf v k) (a9 (aa 0 rfl)) (aa 7 rfl) (cA cq k0 k1))) ?_)
  have cd:=mH hv p0 hR kr kp
  rw[kq] at cd
  have r:=hv.dD kr
  have a:=r.e0;have b:=r.en
  rw[kp] at b
  refine⟨fq (fwd v.2 p) (rowOf v k).2.2.1,cd,_,_,_,_,rfl,a,b,by omega,w2,rfl,?_,?_⟩
  ·rw[IL,Jo];omega
  ·rw[if_neg h,lI kf kx] at hw
   rw[hw,Jv,IL,Jo,show 17 - (way.length + 1)=16 - way.length by omega];rfl
 ·have h:q=1:=by simpa using h
  rw[if_pos h,Jj] at hw
  exact ao (bT (dm 4 rfl (aB (by omega))) hw.symm)
end
def oQ (v:ay)(p q k:Int):Bool:=(decide (0<=k)&&decide (k < (v.2.length:Int)))&&decide (((rowOf v k).1,(rowOf v k).2.1)=(p,q))
def bD (v:ay)(p:Int):Int->Ib->Bool
 | q,[]=>decide (q=1)
 | q,k::ks=>oQ v p q k&&bD v p (bh v k) ks
theorem iW {v:ay}{p:Int}:∀{xs:Ib} {q:Int},bD v p q xs=true->∀k∈xs,0<=k/\k < (v.2.length:Int)
 | [],_,_,k,hk=>by cases hk
 | x::xs,q,h,k,hk=>by
   rw[bD,Io] at h
   rcases IY.mp hk with rfl | hk
   ·have:=Im.mp (Im.mp h.1).1
    exact⟨of_decide_eq_true this.1,of_decide_eq_true this.2⟩
   ·exact iW h.2 k hk
section
variable {C:Addr}
abbrev zX:Stmt:=top vN
theorem Br:aF ["web","number"] ["web","number"] (ag zX):=ND
def GX:cf:=λK ps T=>∃(v:ay) (k:Int),ps=[⟨br,v⟩,⟨af,k⟩]/\T=bL K aX (· =(decide (0<=k)&&decide (k < (v.2.length:Int))))
theorem E7 (M:bR mg)(CI:ax P w K mg base "is_whole" 1 (aG qq K))(F:bC K "is_row" "is_row" zX f fd)(hm:mg "is_row"=some (.ref f))(hb:Binds K fd ["web","number"] []):ax P w K mg base "is_row" 2 (aG GX K):=by
 have nd:=Br.nd
 refine bM F Br hm hb (λqs T ⟨_,_,e,_⟩=>by rw[e];rfl) (λNl A outer s H E qs T hr hS=>?_)
 obtain⟨v,k,rfl,rfl⟩:=hS
 change WS _ _ [bB v,av k] _ _
 exact ao (bT (fz (bc CI hr (ae (aa 1 rfl) aj) ⟨k,rfl,rfl⟩) (λ_=>fG (f7 f6 dX ai (aa 1 rfl) (cK M.len (a9 (aa 0 rfl)))))) (Bool.true_and _))
abbrev xA:Stmt:=top wM
abbrev nCG:Ic:=["web","stack","number","row"]
theorem Dq:aF nCG ["web","stack","number"] (ag xA):=ND
def BS:cf:=λK ps T=>∃(v:ay) (p q k:Int),ps=[⟨br,v⟩,⟨ak (aP af af),[(p,q)]⟩,⟨af,k⟩]/\T=bL K aX (· =oQ v p q k)
theorem DZ (CI:ax P w K mg base "is_row" 2 (aG GX K))(F:bC K "can_go" "can_go" xA f fd)(hm:mg "can_go"=some (.ref f))(hb:Binds K fd ["web","stack","number"] []):ax P w K mg base "can_go" 3 (aG BS K):=by
 have nd:=Dq.nd
 refine bM F Dq hm hb (λqs T ⟨_,_,_,_,e,_⟩=>by rw[e];rfl) (λNl A outer s H E qs T hr hS=>?_)
 obtain⟨v,p,q,k,rfl,rfl⟩:=hS
 have QS:(A.deeper (KP "can_go" (ag xA) s.heap.objs.size f Nl)).units + (0 + 1) < cLine:=Ko (Ks (by decide:1<=64) _) hr.units
 change WS _ _ [bB v,.im (ak (aP af af)) [(p,q)],av k,.no] _ _
 refine ah (bF (TW.tv (ig (cw (EJ 1 rfl)) λ_=>fY (cw (bE (bc CI hr (ae (aa 0 rfl) (ae (aa 2 rfl) aj)) ⟨v,k,rfl,rfl⟩))))) (λh=>?_) (λh=>aW ?_))
 ·have h:(decide (0<=k)&&decide (k < (v.2.length:Int)))=false:=by
   cases z:(decide (0<=k)&&decide (k < (v.2.length:Int))) with
   | false=>rfl
   | true=>rw[z] at h;simp at h
  refine ao (bT dC ?_)
  unfold oQ
  rw[h];rfl
 ·have h:(decide (0<=k)&&decide (k < (v.2.length:Int)))=true:=by simpa using h
  have h':=Im.mp h
  refine ah (aO 3 (y:=rowOf v k) (aN (a9 (aa 0 rfl)) (aa 2 rfl) (cA cq (of_decide_eq_true h'.1) (of_decide_eq_true h'.2))) ?_)
  refine ao (bT (fF (zD (r:=af) (r':=af) eq_int eq_int QS QS) (bS (ae (gk (aa 3 rfl)) (ae (dA (aa 3 rfl)) aj))) (aN (y:=(p,q)) (aa 1 rfl) (bW ai) rfl)) ?_)
  unfold oQ
  rw[h];rfl
abbrev zP:Stmt:=top mz
abbrev nLT:Ic:=["web","part","rows","place","number"]
theorem Dm:aF nLT ["web","part","rows"] (ag zP):=ND
def DA:cf:=λK ps T=>∃(v:ay) (p:Int) (xs:Ib),ps=[⟨br,v⟩,⟨af,p⟩,⟨ak af,xs⟩]/\xs.length<=1000/\T=bL K aX (· =bD v p 0 xs)
theorem Ey (M:bR mg)(CG:ax P w K mg base "can_go" 3 (aG BS K))(F:bC K "leads_through" "leads_through" zP f fd)(hm:mg "leads_through"=some (.ref f))(hb:Binds K fd ["web","part","rows"] []):ax P w K mg base "leads_through" 4 (aG DA K):=by
 have nd:=Dm.nd
 obtain⟨t1,hB⟩:=M.begin_
 obtain⟨t2,OC⟩:=M.end_
 refine bM F Dm hm hb (λqs T ⟨_,_,_,e,_⟩=>by rw[e];rfl) (λNl A outer s H E qs T hr hS=>?_)
 obtain⟨v,p,xs,rfl,hl,rfl⟩:=hS
 change WS _ _ [bB v,av p,bH xs,.no,.no] _ _
 refine ah (bF (cw (bE (fC M.isinstance M.list KQ (aa 2 rfl) ty_list (b:=true)))) (λh=>absurd h (by decide)) (λ_=>aW ?_))
 refine ah (aO 3 (bV hB) ?_)
 refine ah (cB (r:=af) (λi Γ=>∃q v4,Γ=[bB v,av p,bH xs,av q,v4]/\bD v p 0 xs=bD v p q (xs.drop i)) (aT (aa 2 rfl)) (aI 4) ⟨0,_,rfl,rfl⟩ ?_ ?_)
 ·rintro i k Γ hk ⟨q,v4,rfl,hc⟩
  have hd:xs.drop i=k::xs.drop (i + 1):=by
   obtain⟨h1,h2⟩:=IG.mp hk
   rw[JF h1,h2]
  rw[hd,bD] at hc
  refine ah (bF (cw (bE (bc CG hr (ae (aa 0 rfl) (ae (aE.im (aw (r:=aP af af) (au (bS (ae (aa 1 rfl) (ae (aa 3 rfl) aj))) aD) (by show 1<=K4;decide))) (ae (aa 4 rfl) aj))) ⟨v,p,q,k,rfl,rfl⟩))) (λh=>?_) (λh=>aW ?_))
  ·have h:oQ v p q k=false:=by simpa using h
   refine ao (bT dC ?_)
   rw[hc,h];rfl
  ·have h:oQ v p q k=true:=by simpa using h
   have h':=Im.mp (Im.mp h).1
   refine ao (aO 3 (y:=bh v k) (ck (aN (y:=rowOf v k) (a9 (aa 0 rfl)) (aa 4 rfl) (cA cq (of_decide_eq_true h'.1) (of_decide_eq_true h'.2)))) ?_)
   exact⟨bh v k,_,rfl,by rw[hc,h];rfl⟩
 ·rintro Γ ⟨q,v4,rfl,hc⟩
  rw[J7] at hc
  refine ao (bT (fF cT (aa 3 rfl) (bV OC)) ?_)
  rw[hc,bD]
end
section
variable {v:ay}{p:Int}{F:Ij}{q:Int}
theorem Aj (hv:aY v)(p0:0<=p)(p1:p < (v.1.length:Int))(q0:0<=q)(q1:q < v.1.getD p.toNat 0)(qn:q≠1):∃k,(Ni v p q)[0]?=some k:=by
 have hm:v.1[p.toNat]?=some (v.1.getD p.toNat 0):=by rw[IJ,IF (by omega)];rfl
 have h:=hv.toEnd hm q0 q1
 have:∃r∈v.2,r.1=p/\r.2.1=q:=by
  cases h with
  | base=>exact absurd rfl qn
  | step _ m=>
    unfold bwd at m
    obtain⟨r,hr,e⟩:=Jf.mp m
    obtain⟨h1,h2⟩:=IZ.mp hr
    have h2:=of_decide_eq_true h2
    exact⟨r,h1,by omega,congrArg KL e⟩
 obtain⟨r,hr,r1,r2⟩:=this
 obtain⟨j,hj⟩:=Ja.mp hr
 have jl:=(IG.mp hj).1
 have er:rowOf v (j:Int)=r:=by unfold rowOf;rw[show((j:Int)).toNat=j by omega,IJ,hj];rfl
 have hm:(j:Int)∈Ni v p q:=by
  unfold Ni
  exact IZ.mpr ⟨bj.mpr ⟨by omega,by omega⟩,decide_eq_true (by rw[er,r1,r2])⟩
 cases e:Ni v p q with
 | nil=>rw[e] at hm;cases hm
 | cons a l=>exact⟨a,rfl⟩
theorem fo {k:Int}:oQ v p q k=decide (k∈Ni v p q):=by
 unfold oQ Ni
 by_cases h:k∈(ups 0 v.2.length).filter λk=>decide (((rowOf v k).1,(rowOf v k).2.1)=(p,q))
 ·rw[decide_eq_true h]
  obtain⟨h1,h2⟩:=IZ.mp h
  have:=bj.mp h1
  rw[h2,decide_eq_true this.1,decide_eq_true (show k < (v.2.length:Int) by omega)];rfl
 ·rw[decide_eq_false h]
  refine Iu.mpr λh'=>h ?_
  obtain⟨a,c⟩:=Im.mp h'
  obtain⟨a,b⟩:=Im.mp a
  exact IZ.mpr ⟨bj.mpr ⟨of_decide_eq_true a,by have:=of_decide_eq_true b;omega⟩,c⟩
structure fK (v:ay) (p:Int) (F:Ij):Prop where
 nd:(F.map (·.1)).Nodup
 one:aV F 1=some 0
 bd:∀k∈F.map (·.1),0<=k/\k < v.1.getD p.toNat 0
 val:∀k d,aV F k=some d->0<=d/\d < (F.length:Int)/\(k=1∨∃r∈v.2,r.1=p/\r.2.1=k/\∃d',aV F r.2.2.1=some d'/\d' < d)
theorem p8 (F:Ij)(k y:Int):(dO F k y).map (·.1)=if(aV F k).isSome=true then F.map (·.1) else F.map (·.1)++[k]:=by
 unfold dO
 split
 ·rw[JO]
  refine Jx λx _=>?_
  show(if x.1=k then(x.1,y) else x).1=x.1
  split<;>rfl
 ·rw[Jq];rfl
theorem fK.put (hv:aY v)(h:fK v p F){r:Row}(hr:r∈v.2)(rp:r.1=p){d:Int}(hd:aV F r.2.2.1=some d)(NJ:d + 1 < (aV F r.2.1).getD 99):fK v p (dO F r.2.1 (d + 1)):=by
 have R:=hv.dD hr
 have s1:=R.s1;have s0:=R.s0;have sn:=R.sn
 rw[rp] at sn
 have vd:=h.val _ _ hd
 have NO:r.2.2.1≠r.2.1:=λe=>by rw[← e,hd] at NJ;simp at NJ;omega
 have gp:∀j,aV (dO F r.2.1 (d + 1)) j=if j=r.2.1 then some (d + 1) else aV F j:=λj=>kj F _ _ j
 have keys:=p8 F r.2.1 (d + 1)
 have len:((dO F r.2.1 (d + 1)).length:Int)=if(aV F r.2.1).isSome=true then(F.length:Int) else(F.length:Int) + 1:=by
  have:=congrArg List.length keys
  rw[IM] at this
  rw[this]
  split
  ·rw[IM]
  ·rw[IL,IM];rfl
 refine⟨?_,?_,λk hk=>?_,λk e he=>?_⟩
 ·rw[keys]
  split
  ·exact h.nd
  ·rename_i z
   exact gz h.nd λw=>z (dN.mpr w)
 ·rw[gp,if_neg (λe=>s1 e.symm)];exact h.one
 ·rw[keys] at hk
  split at hk
  ·exact h.bd k hk
  ·rcases IS.mp hk with z | z
   ·exact h.bd k z
   ·rw[II.mp z];exact⟨s0,sn⟩
 ·rw[gp] at he
  have old:∀d0,aV F r.2.1=some d0->d + 1 < d0:=λd0 O1=>by rw[O1] at NJ;exact NJ
  by_cases z:k=r.2.1
  ·rw[if_pos z] at he
   have he:e=d + 1:=(Option.some.inj he).symm
   subst he
   refine⟨by omega,?_,.inr ⟨r,hr,rp,z.symm,d,by rw[gp,if_neg NO];exact hd,by omega⟩⟩
   rw[len]
   cases e2:aV F r.2.1 with
   | none=>rw[if_neg (by simp)];omega
   | some d0=>
     have:=old d0 e2
     have:=(h.val _ _ e2).2.1
     rw[if_pos (show(some d0).isSome=true from rfl)];omega
  ·rw[if_neg z] at he
   obtain⟨a,b,c⟩:=h.val k e he
   refine⟨a,?_,c.imp id ?_⟩
   ·rw[len];split<;>omega
   ·rintro⟨r2,Pe,r2p,r2k,d2,hd2,l2⟩
    refine⟨r2,Pe,r2p,r2k,?_⟩
    rw[gp]
    by_cases y:r2.2.2.1=r.2.1
    ·rw[if_pos y]
     rw[y] at hd2
     have:=old d2 hd2
     exact⟨d + 1,rfl,by omega⟩
    ·rw[if_neg y];exact⟨d2,hd2,l2⟩
theorem fK.le (h:fK v p F)(hs:0<=v.1.getD p.toNat 0):(F.length:Int)<=v.1.getD p.toNat 0:=by
 have:=dv (F.map (·.1)) (ups 0 (v.1.getD p.toNat 0).toNat) h.nd λx hx=>bj.mpr (by have:=h.bd x hx;omega)
 rw[IM,aC] at this
 omega
theorem fK.get (h:fK v p F)(hs:v.1.getD p.toNat 0<=(F.length:Int))(q0:0<=q)(q1:q < v.1.getD p.toNat 0):aV F q=some (gF F q):=by
 have Ow:q∈F.map (·.1):=Iw λno=>by
  have:=dv (q::F.map (·.1)) (ups 0 (v.1.getD p.toNat 0).toNat) (Jh.mpr ⟨no,h.nd⟩) λx hx=>by
   rcases IY.mp hx with rfl | hx
   ·exact bj.mpr (by omega)
   ·exact bj.mpr (by have:=h.bd x hx;omega)
  rw[I0,IM,aC] at this
  omega
 have:=dN.mpr Ow
 unfold gF
 cases e:aV F q with
 | none=>rw[e] at this;cases this
 | some y=>rfl
theorem fK.next (hv:aY v)(p0:0<=p)(p1:p < (v.1.length:Int))(h:fK v p F)(hs:(F.length:Int) < v.1.getD p.toNat 0):∃r∈v.2,r.1=p/\r.2.2.1∈F.map (·.1)/\r.2.1∉F.map (·.1):=by
 refine Iw λno=>?_
 have hm:v.1[p.toNat]?=some (v.1.getD p.toNat 0):=by rw[IJ,IF (by omega)];rfl
 have one:(1:Int)∈F.map (·.1):=dN.mp (by rw[h.one];rfl)
 have all:∀q,0<=q->q < v.1.getD p.toNat 0->q∈F.map (·.1):=λq q0 q1=>by
  have hr:=hv.toEnd hm q0 q1
  rw[show((p.toNat:Nat):Int)=p by omega] at hr
  exact Reach.sub (P:=λx=>x∈F.map (·.1)) one (λa b ha NY=>Iw λnb=>by
   obtain⟨r,r0,r1,r2,r3⟩:=og.mp NY
   exact no ⟨r,r0,r1,by rw[r2];exact ha,by rw[r3];exact nb⟩) hr
 have:=dv _ (F.map (·.1)) (d6 (v.1.getD p.toNat 0).toNat) λq hq=>by have:=bj.mp hq;exact all q this.1 (by omega)
 rw[aC,IM] at this
 omega
def xm:Stmt->List Stmt
 | .While _ b _ _=>b
 | _=>[]
end
section
abbrev vo:Stmt:=top rS
abbrev nNE:Ic:=["_law_web_here","_law_part_here","_law_near_here","_law_row"]
theorem B8:aF nNE ["_law_web_here","_law_part_here"] (ag vo):=ND
def Gw:cf:=λK ps T=>∃(v:ay) (p:Int),ps=[⟨br,v⟩,⟨af,p⟩]/\aY v/\0<=p/\p < (v.1.length:Int)/\T=bL K iB (λF=>fK v p F/\v.1.getD p.toNat 0<=(F.length:Int))
theorem Gd (M:bR mg)(F:bC K "_law_near" "_law_near" vo f fd)(hm:mg "_law_near"=some (.ref f))(hb:Binds K fd ["_law_web_here","_law_part_here"] []):ax P w K mg base "_law_near" 1 (aG Gw K):=by
 have nd:=B8.nd
 refine bM F B8 hm hb (λqs T ⟨_,_,e,_⟩=>by rw[e];rfl) (λNl A outer s H E qs T hr hS=>?_)
 obtain⟨v,p,rfl,hv,p0,p1,rfl⟩:=hS
 have hu:(A.deeper (KP "_law_near" (ag vo) s.heap.objs.size f Nl)).units + 1 < cLine:=Ko (Ks (by decide:1<=64) _) hr.units
 have hs:=hv.sz (v.1.getD p.toNat 0) (by rw[IJ,IF (by omega)];exact Jb _)
 change WS _ _ [bB v,av p,.no,.no] _ _
 refine ah (lV 2 oO eU ?_)
 have o0:fK v p [(1,0)]:=by
  refine⟨by simp,rfl,λq hq=>by(have:q=1:=by simpa using hq);omega,λk d h=>?_⟩
  have:(1:Int)=k/\(0:Int)=d:=by
   unfold aV at h
   by_cases z:(1:Int)=k
   ·simp[z] at h;exact⟨z,h⟩
   ·simp[z] at h
  exact⟨by omega,by rw[← this.2];decide,.inl this.1.symm⟩
 refine ah (iV (λm Γ=>∃F v3,Γ=[bB v,av p,.di (cW F),v3]/\fK v p F/\m=(v.1.getD p.toNat 0 - (F.length:Int)).toNat) ⟨[(1,0)],_,rfl,o0,rfl⟩ ?_)
 rintro m Γ ⟨F,v3,rfl,hO,rfl⟩
 have hle:=hO.le (by omega)
 refine⟨_,_,TV.N6 (kD (i:=2) rfl) (aK dX (mx M.len (aa 2 rfl)) (aN (c8 (aa 0 rfl)) (aa 1 rfl) (bY p0 p1))),λh=>?_,λh=>?_⟩
 ·have h:(F.length:Int) < v.1.getD p.toNat 0:=of_decide_eq_true h
  obtain⟨rx,rx0,rx1,rx2,rx3⟩:=hO.next hv p0 p1 h
  refine ao (cB (r:=bA) (λi Γ=>∃G v3,Γ=[bB v,av p,.di (cW G),v3]/\fK v p G/\(∀z∈F.map (·.1),z∈G.map (·.1))/\F.length<=G.length/\∀r∈v.2.take i,r.1=p->r.2.2.1∈F.map (·.1)->r.2.1∈G.map (·.1))
   (aT (a9 (aa 0 rfl))) (aI 3) ⟨F,_,rfl,hO,λz hz=>hz,Kp _,λr hr=>by simp at hr⟩ ?_ ?_)
  ·rintro i r Γ hri ⟨G,v3,rfl,hG,Nt,Ot,O0⟩
   have hrm:=IQ hri
   have tk:v.2.take (i + 1)=v.2.take i++[r]:=by rw[JD,hri];rfl
   have QZ:=hG.le (by omega)
   have mem:∀z,(aV G z).isSome=true↔z∈G.map (·.1):=λz=>dN
   have Qi:∀z,(aV G z).isSome=true->aV G z=some (gF G z):=λz hz=>by
    unfold gF
    cases e:aV G z with
    | none=>rw[e] at hz;cases hz
    | some y=>rfl
   refine ao (bF (TW.tv (iu (aK cT (gk (aa 3 rfl)) (aa 1 rfl)) (λ_=>iu (jL 2 false hu (ck (aa 3 rfl)) rfl) (λOw=>iX (aK dX (bX (lE 2 hu (ck (aa 3 rfl)) rfl (Qi _ (by rw[← eW];exact Ow))) ai) (yK 2 hu (dA (aa 3 rfl)) ai rfl)))))) (λh=>?_) (λh=>aW ?_))
   ·obtain⟨h1,h2⟩:=Im.mp h
    obtain⟨h2,h3⟩:=Im.mp h2
    have h1:r.1=p:=of_decide_eq_true h1
    have h2:(aV G r.2.2.1).isSome=true:=by rw[← eW];exact h2
    have h3:gF G r.2.2.1 + 1 < (aV G r.2.1).getD 99:=of_decide_eq_true h3
    have hg:=Qi _ h2
    refine ao (kY 2 hu (dA (aa 3 rfl)) (bX (lE 2 hu (ck (aa 3 rfl)) rfl hg) ai) rfl (Ko (show G.length<=1000 by omega) (by decide)) ?_)
    have keys:=p8 G r.2.1 (gF G r.2.2.1 + 1)
    have SH:∀z∈G.map (·.1),z∈(dO G r.2.1 (gF G r.2.2.1 + 1)).map (·.1):=λz hz=>by
     rw[keys];split
     ·exact hz
     ·exact IX _ hz
    have Qx:r.2.1∈(dO G r.2.1 (gF G r.2.2.1 + 1)).map (·.1):=dN.mp (by rw[kj,if_pos rfl];rfl)
    refine⟨dO G r.2.1 (gF G r.2.2.1 + 1),_,rfl,hG.put hv hrm h1 hg h3,λz hz=>SH z (Nt z hz),?_,λx hx xp xt=>?_⟩
    ·have:=congrArg List.length keys
     rw[IM] at this
     rw[this]
     split
     ·rw[IM];exact Ot
     ·rw[IL,IM];omega
    ·rw[tk] at hx
     rcases IS.mp hx with z | z
     ·exact SH _ (O0 x z xp xt)
     ·rw[II.mp z];exact Qx
   ·refine⟨G,_,rfl,hG,Nt,Ot,λx hx xp xt=>?_⟩
    rw[tk] at hx
    rcases IS.mp hx with z | z
    ·exact O0 x z xp xt
    ·rw[II.mp z] at xp xt ⊢
     refine Iw λno=>?_
     have a1:(aV G r.2.2.1).isSome=true:=(mem _).mpr (Nt _ xt)
     have a2:aV G r.2.1=none:=by
      cases e:aV G r.2.1 with
      | none=>rfl
      | some y=>exact absurd ((mem _).mp (by rw[e];rfl)) no
     have a3:=(hG.val _ _ (Qi _ a1)).2.1
     have a4:gM (cW G) r.2.2.1=true:=by rw[eW];exact a1
     rw[decide_eq_true xp] at h
     have h:(gM (cW G) r.2.2.1&&decide (gF G r.2.2.1 + 1 < (aV G r.2.1).getD 99))=false:=h
     rw[a4,a2,decide_eq_true (show gF G r.2.2.1 + 1 < (none:Option Int).getD 99 by show _ < (99:Int);omega)] at h
     exact absurd h (by decide)
  ·rintro Γ ⟨G,v3,rfl,hG,Nt,Ot,O0⟩
   rw[Jz] at O0
   have Ow:=O0 rx rx0 rx1 rx2
   have:=dv (rx.2.1::F.map (·.1)) (G.map (·.1)) (Jh.mpr ⟨rx3,hO.nd⟩) λx hx=>by
    rcases IY.mp hx with rfl | hx
    ·exact Ow
    ·exact Nt x hx
   rw[I0,IM,IM] at this
   have:=hG.le (by omega)
   exact⟨_,by omega,G,_,rfl,hG,rfl⟩
 ·have h:¬(F.length:Int) < v.1.getD p.toNat 0:=of_decide_eq_false h
  exact ao (ow 2 rfl ⟨hO,by omega⟩)
abbrev oX:Stmt:=top ni
abbrev B4:Ic:=["_law_purse_here","_law_web_here","_law_part_here","_law_most","_law_near_here","_law_found","_law_here","_law_some"]
abbrev GN:Ic:=["_law_purse_here","_law_web_here","_law_part_here","_law_most"]
theorem BR:aF B4 GN (ag oX):=ND
def Gy:jw Pu:=λK s ps T=>∃(n:Int) (v:ay) (p most:Int),cR n s/\0<=n/\n<=900000/\ps=[⟨br,v⟩,⟨af,p⟩,⟨af,most⟩]/\aY v/\0<=p/\p < (v.1.length:Int)/\0<=most/\most<=40/\T=λs'=>bL K (ak af) λxs=>cR (n + (xs.length:Int)) s'/\bD v p 0 xs=true/\(xs.length:Int)<=most + 15
theorem FI (M:bR mg)(CD:ax P w K mg base "_law_draw" 1 (eo bg me K))(CF:ax P w K mg base "_law_from" 1 (aG tP K))(CN:ax P w K mg base "_law_near" 1 (aG Gw K))(F:bC K "_law_own_run" "_law_own_run" oX f fd)(hm:mg "_law_own_run"=some (.ref f))(hb:Binds K fd GN []):ax P w K mg base "_law_own_run" 2 (eo bg Gy K):=by
 have nd:=BR.nd
 have OO:Jl [("_law_k":Str),"_law_here","_law_near_here","_law_web_here"]:=by decide
 refine jh F BR hm hb (λxs qs T ⟨_,_,_,_,_,_,_,e,_⟩=>by rw[e];rfl) (λNl A outer s H E a b st qs T hr hS=>?_)
 obtain⟨n,v,p,most,hP,n0,n1,rfl,hv,p0,p1,mo0,mo1,rfl⟩:=hS
 have hu:(A.deeper (KP "_law_own_run" (ag oX) s.heap.objs.size f Nl)).units + 1 < cLine:=Ko (Ks (by decide:1<=64) _) hr.units
 have rl:=hv.rl
 have hs:=hv.sz (v.1.getD p.toNat 0) (by rw[IJ,IF (by omega)];exact Jb _)
 change WS _ _ [.ob (bg.bx a b st),bB v,av p,av most,.no,.no,.no,.no] _ _
 refine ah (iU 4 CN hr (ae (aa 1 rfl) (ae (aa 2 rfl) aj)) ⟨v,p,rfl,hv,p0,p1,rfl⟩ ?_)
 rintro D ⟨hD,QJ⟩
 have hDle:=hD.le (by omega)
 have gv:∀q,0<=q->q < v.1.getD p.toNat 0->0<=gF D q/\gF D q < 16:=λq q0 q1=>by
  have:=hD.val q _ (hD.get QJ q0 q1)
  exact⟨this.1,by omega⟩
 refine ah (cL 5 (r:=af) (aw aD (by decide)) (ah (aO 6 ai ?_)))
 refine ah (iV (λm Γ=>∃st xs here v7,Γ=[.ob (bg.bx a b st),bB v,av p,av most,.im iB D,.mu af xs,av here,v7]/\cR (n + (xs.length:Int)) st/\0<=here/\here < v.1.getD p.toNat 0/\(∀ys,bD v p 0 (xs++ys)=bD v p here ys)/\m + xs.length<=816/\m=(most - (xs.length:Int)).toNat * 20 + (gF D here).toNat/\((xs.length:Int)<=most∨(xs.length:Int) + gF D here<=most + 15)) (m0:=most.toNat * 20 + (gF D 0).toNat) ⟨st,[],0,_,rfl,hP.mono (by simp),by decide,by omega,λys=>rfl,by have:=gv 0 (by decide) (by omega);simp;omega,by simp,.inl (by simpa using mo0)⟩ ?_)
 rintro m Γ ⟨OT,xs,here,v7,rfl,OK,h0,h1,QW,hmx,hm',hJ⟩
 refine⟨_,_,aK nR (aa 6 rfl) ai,λh=>?_,λh=>?_⟩
 ·have hn:here≠1:=by simpa using h
  refine ah (aO 7 (bc CF hr (ae (aa 1 rfl) (ae (aa 2 rfl) (ae (aa 6 rfl) aj))) ⟨v,p,here,rfl,rl.2,rfl⟩) ?_)
  have fle:(Ni v p here).length<=60:=by
   unfold Ni
   refine Kq (Jt _ _) ?_
   rw[aC];omega
  have gd:∀k∈Ni v p here,0<=bh v k/\bh v k < v.1.getD p.toNat 0:=λk hk=>by
   obtain⟨_,_,kp,_,kr⟩:=bO hk
   have R:=hv.dD kr
   have e0:=R.e0;have en:=R.en
   rw[kp] at en
   exact⟨e0,en⟩
  have step:∀(ks:Ib),ks≠[]->ks.length<=60->(∀k∈ks,k∈Ni v p here/\((xs.length:Int) < most∨gF D (bh v k) < gF D here))->WS (bQ dW P w K mg base B4 "_law_own_run" (ag oX) f Nl A outer s H E).cO ((xm ((bG oX).getD 3 (.Pass ⟨0,0,0,0⟩))).drop 2) [.ob (bg.bx a b OT),bB v,av p,av most,.im iB D,.mu af xs,av here,bH ks] (λΓ=>∃m',m' < m/\∃st xs here v7,Γ=[.ob (bg.bx a b st),bB v,av p,av most,.im iB D,.mu af xs,av here,v7]/\cR (n + (xs.length:Int)) st/\0<=here/\here < v.1.getD p.toNat 0/\(∀ys,bD v p 0 (xs++ys)=bD v p here ys)/\m' + xs.length<=816/\m'=(most - (xs.length:Int)).toNat * 20 + (gF D here).toNat/\((xs.length:Int)<=most∨(xs.length:Int) + gF D here<=most + 15)) (xB K bg a b λs'=>bL K (ak af) λxs=>cR (n + (xs.length:Int)) s'/\bD v p 0 xs=true/\(xs.length:Int)<=most + 15):=by
   intro ks kne kl hks
   have kpos:=Kl.mpr kne
   obtain⟨z,OB,z0,z1,OJ,O2⟩:=bP OK (by omega) (b:=(ks.length:Int)) (by omega) (by omega)
   have hz:cS ks z=some (ks.getD z.toNat 0):=bY z0 z1
   have hzm:=hks (ks.getD z.toNat 0) (by rw[IJ,IF (by omega)];exact Jb _)
   generalize ks.getD z.toNat 0=c at hz hzm
   obtain⟨hc,RH⟩:=hzm
   obtain⟨c0,c1,_⟩:=bO hc
   obtain⟨e0,en⟩:=gd c hc
   refine ah (bU 5 (aN (aa 7 rfl) (bo 0 CD hr (ae (cK M.len (aa 7 rfl)) aj) rfl rfl (O2 _)) hz) rfl rfl (Ko (show xs.length<=1000 by omega) (by decide)) ?_)
   refine ao (aO 6 (y:=bh v c) (ck (aN (y:=rowOf v c) (a9 (aa 1 rfl)) (eV 5 (bW ai) rfl rfl (jc (by simp))) (cA cq c0 c1))) ?_)
   have ll:(xs++[c]).length=xs.length + 1:=by rw[IL];rfl
   have g1:=gv _ e0 en
   have g2:=gv _ h0 h1
   refine⟨(most - ((xs++[c]).length:Int)).toNat * 20 + (gF D (bh v c)).toNat,?_,OB,xs++[c],bh v c,_,rfl,OJ.mono (by rw[ll];omega),e0,en,λys=>?_,?_,rfl,?_⟩
   ·rw[ll]
    rcases RH with z | z
    ·omega
    ·omega
   ·rw[Jv,QW]
    show bD v p here (c::ys)=_
    rw[bD,fo,decide_eq_true hc];rfl
   ·rw[ll]
    rcases RH with z | z
    ·omega
    ·omega
   ·rw[ll]
    rcases RH with z | z
    ·exact .inl (by omega)
    ·rcases hJ with y | y
     ·by_cases x:(xs.length:Int) < most
      ·exact .inl (by omega)
      ·exact .inr (by omega)
     ·exact .inr (by omega)
  refine ah (bF (aK Dk (eA 5 M.len rfl) (aa 3 rfl)) (λh=>?_) (λh=>aW ?_))
  ·have h:most<=(xs.length:Int):=of_decide_eq_true h
   refine ao (jS 7 (own:=["_law_k"]) (fr:=["_law_here","_law_near_here","_law_web_here"]) (ix:=[6,4,1]) (ra:=af) (rb:=af) (p:=λk=>decide (gF D (bh v k) < gF D here)) (f:=λk=>k) (bu (so:=ag oX) (N0:=B4) rfl rfl (λx h=>aU h) (by decide +kernel)) (aT (aa 7 rfl))
    (λC s H ex=>aI 0) (λx=>⟨.inr rfl,.inl rfl,.inl rfl,.inl rfl,trivial⟩) (λC s H ex x hx=>i5 (aK dX (jJ hu (aa 2 rfl) (ck (aN (y:=rowOf v x) (a9 (aa 3 rfl)) (aa 0 rfl) (by have:=bO hx;exact cA cq this.1 this.2.1))) (hD.get QJ (gd x hx).1 (gd x hx).2)) (jJ hu (aa 2 rfl) (aa 1 rfl) (hD.get QJ h0 h1)))) (λC s H ex x hx _=>aa 0 rfl) ?_)
   rw[map_id']
   refine WS.freeze 7 rfl (aB (by have:=Jt (λk=>decide (gF D (bh v k) < gF D here)) (Ni v p here);omega)) ?_
   refine step _ ?_ (Kq (Jt _ _) fle) (λk hk=>⟨(IZ.mp hk).1,.inr (of_decide_eq_true (IZ.mp hk).2)⟩)
   obtain⟨_,_,hw⟩:=hD.val here _ (hD.get QJ h0 h1)
   obtain⟨r,hr,rp,rk,d',hd',dl⟩:=hw.resolve_left hn
   obtain⟨j,hj⟩:=Ja.mp hr
   have jl:=(IG.mp hj).1
   have er:rowOf v (j:Int)=r:=by unfold rowOf;rw[show((j:Int)).toNat=j by omega,IJ,hj];rfl
   refine Kn (a:=(j:Int)) (IZ.mpr ⟨?_,decide_eq_true ?_⟩)
   ·unfold Ni
    exact IZ.mpr ⟨bj.mpr (by omega),decide_eq_true (by rw[er,rp,rk])⟩
   ·unfold bh
    rw[er]
    have:gF D r.2.2.1=d':=by unfold gF;rw[hd'];rfl
    omega
  ·have h:¬most<=(xs.length:Int):=of_decide_eq_false h
   obtain⟨k0,hk0⟩:=Aj hv p0 p1 h0 h1 hn
   exact step _ (Kn (IQ hk0)) fle (λk hk=>⟨hk,.inl (by omega)⟩)
 ·have he:here=1:=by simpa using h
  have:=QW []
  rw[Jj,he,bD] at this
  exact ao (eQ 0 (B:=bg) (dm 5 rfl (aB (by omega))) rfl ⟨OK,this,by have:=gv _ h0 h1;rcases hJ with y | y<;>omega⟩)
end
section
variable {l:Ib}{v:ay}{p q:Int}{st ks c l1 c1:Ib}{n:Nat}
def dst (v:ay)(k:Int):Int:=(rowOf v k).2.2.1
inductive Go (v:ay) (p:Int):Ib->Int->Ib->Ib->Ib->Ib->Ib->Prop
 | done {st:Ib} {q:Int} {l c:Ib}:Go v p st q [] l c (l++[q]) c
 | cut {st:Ib} {q k:Int} {ks l c l' c':Ib}:dst v k∈st++[q]->Go v p st q ks l (c++[k]) l' c'->Go v p st q (k::ks) l c l' c'
 | look {st:Ib} {q k:Int} {ks l c l' c':Ib}:dst v k∉st++[q]->dst v k∈l->Go v p st q ks l c l' c'->Go v p st q (k::ks) l c l' c'
 | down {st:Ib} {q k:Int} {ks l c l1 c1 l' c':Ib}:dst v k∉st++[q]->dst v k∉l->Go v p (st++[q]) (dst v k) (Ni v p (dst v k)) l c l1 c1->Go v p st q ks l1 c1 l' c'->Go v p st q (k::ks) l c l' c'
theorem Go.det (h:Go v p st q ks l c l1 c1):∀{l2 c2:Ib},Go v p st q ks l c l2 c2->l1=l2/\c1=c2:=by
 induction h with
 | done=>intro l2 c2 h2;cases h2;exact⟨rfl,rfl⟩
 | cut a _ ih=>
   intro l2 c2 h2
   cases h2 with
   | cut _ b=>exact ih b
   | look x _ _=>exact absurd a x
   | down x _ _ _=>exact absurd a x
 | look a b _ ih=>
   intro l2 c2 h2
   cases h2 with
   | cut x _=>exact absurd x a
   | look _ _ y=>exact ih y
   | down _ x _ _=>exact absurd b x
 | down a b _ _ Ro QR=>
   intro l2 c2 h2
   cases h2 with
   | cut x _=>exact absurd x a
   | look _ x _=>exact absurd x b
   | down _ _ y z=>
     obtain⟨rfl,rfl⟩:=Ro y
     exact QR z
theorem Go.sub (h:Go v p st q ks l c l1 c1):(∀x∈l,x∈l1)/\q∈l1:=by
 induction h with
 | done=>exact⟨λx hx=>IX _ hx,by simp⟩
 | cut _ _ ih=>exact ih
 | look _ _ _ ih=>exact ih
 | down _ _ _ _ Ro QR=>exact⟨λx hx=>QR.1 x (Ro.1 x hx),QR.2⟩
def eI (w:Int->Nat)(n:Nat)(l st:Ib):Nat:=(((ups 0 n).filter λg=>decide (g∉l/\g∉st)).map w).sum
theorem sZ {w:Int->Nat}{P:Int->Prop} [DecidablePred P]{g:Int}:∀{xs:Ib},xs.Nodup->g∈xs->P g->((xs.filter λx=>decide (P x/\x≠g)).map w).sum + w g=((xs.filter λx=>decide (P x)).map w).sum
 | [],_,h,_=>by cases h
 | a::xs,hn,hg,hP=>by
   obtain⟨n1,n2⟩:=Jh.mp hn
   by_cases e:a=g
   ·subst e
    rw[JV (by simp),JU (by simpa using hP),Js,JW]
    have:(xs.filter λx=>decide (P x/\x≠a))=xs.filter λx=>decide (P x):=by
     apply Kj
     intro x hx
     have:x≠a:=λe=>n1 (e▸hx)
     simp[this]
    rw[this];omega
   ·have hg':g∈xs:=by
     rcases IY.mp hg with z | z
     ·exact absurd z.symm e
     ·exact z
    have ih:=sZ (w:=w) (P:=P) n2 hg' hP
    by_cases c:P a
    ·rw[JU (by simp[c,e]),JU (by simpa using c),Js,Js,JW,JW]
     omega
    ·rw[JV (by simp[c]),JV (by simpa using c)]
     exact ih
theorem ft {w:Int->Nat}{g:Int}(g0:0<=g)(g1:g < (n:Int))(hl:g∉l)(hs:g∉st):eI w n l (st++[g]) + w g=eI w n l st:=by
 unfold eI
 rw[← sZ (w:=w) (P:=λx=>x∉l/\x∉st) (d6 n) (bj.mpr ⟨g0,g1⟩) ⟨hl,hs⟩]
 congr 3
 apply Kj
 intro x _
 simp[and_assoc]
theorem qU (w:Int->Nat)(n:Nat)(l st:Ib)(q:Int):eI w n (l++[q]) st=eI w n l (st++[q]):=by
 unfold eI
 congr 2
 apply Kj
 intro x _
 simp only[IS,II,decide_eq_decide]
 constructor
 ·rintro⟨a,b⟩;exact⟨λz=>a (.inl z),λz=>z.elim b λz=>a (.inr z)⟩
 ·rintro⟨a,b⟩;exact⟨λz=>z.elim a λz=>b (.inr z),λz=>b (.inl z)⟩
theorem qh {w:Int->Nat}{l':Ib}(h:∀x∈l,x∈l'):eI w n l' st<=eI w n l st:=by
 unfold eI
 have:(ups 0 n).filter (λg=>decide (g∉l'/\g∉st))=((ups 0 n).filter λg=>decide (g∉l/\g∉st)).filter λg=>decide (g∉l'):=by
  rw[List.filter_filter]
  apply Kj
  intro x _
  simp only[Bool.decide_and]
  by_cases a:x∈l
  ·simp[a,h x a]
  ·simp[a]
 rw[this]
 generalize (ups 0 n).filter (λg=>decide (g∉l/\g∉st))=xs
 induction xs with
 | nil=>simp
 | cons a xs ih=>
   rw[J1]
   split
   ·rw[Js,Js,JW,JW];omega
   ·rw[Js,JW];omega
theorem jd (hv:aY v){k:Int}(h:k∈Ni v p q):0<=k/\k < (v.2.length:Int)/\0<=dst v k/\dst v k < v.1.getD p.toNat 0:=by
 unfold Ni at h
 obtain⟨h1,h2⟩:=IZ.mp h
 have kb:=bj.mp h1
 have h2:=of_decide_eq_true h2
 have hr:rowOf v k∈v.2:=by
  unfold rowOf
  rw[IJ,IF (by omega)]
  exact Jb _
 have r:=hv.dD hr
 have a:=r.e0;have b:=r.en
 rw[show(rowOf v k).1=p from congrArg KN h2] at b
 exact⟨kb.1,kb.2,a,b⟩
theorem Go.GB (hv:aY v)(hn:v.1.getD p.toNat 0<=(n:Int))(h:Go v p st q ks l c l1 c1):(∀k∈ks,∃q,k∈Ni v p q)->
 c1.length + eI (λg=>(Ni v p g).length) n l1 st<=c.length + ks.length + eI (λg=>(Ni v p g).length) n l (st++[q])/\l1.length + eI (λ_=>1) n l1 st<=l.length + 1 + eI (λ_=>1) n l (st++[q]):=by
 induction h with
 | done=>intro _;rw[qU,qU];simp
 | cut _ _ ih=>
   intro hk
   have:=ih λk h=>hk k (IK _ h)
   rw[IL] at this
   simp at this ⊢
   omega
 | look _ _ _ ih=>
   intro hk
   have:=ih λk h=>hk k (IK _ h)
   simp at this ⊢
   omega
 | down a b _ _ Ro QR=>
   rename_i st q k ks l c l1 c1 l' c' _ _
   intro hk
   obtain⟨q',SU⟩:=hk k IT
   obtain⟨_,_,g0,g1⟩:=jd hv SU
   have i1:=Ro λk h=>⟨_,h⟩
   have i2:=QR λk h=>hk k (IK _ h)
   have w1:=ft (w:=λg=>(Ni v p g).length) (n:=n) (l:=l) (st:=st++[q]) (g:=dst v k) g0 (by omega) b a
   have w2:=ft (w:=λ_=>1) (n:=n) (l:=l) (st:=st++[q]) (g:=dst v k) g0 (by omega) b a
   simp only[I0] at i1 i2 ⊢
   omega
inductive Res (v:ay) (p:Int):List (Int×Ib)->Ib->Ib->Ib->Ib->Prop
 | nil {l c:Ib}:Res v p [] l c l c
 | cons {q:Int} {ks:Ib} {NG:List (Int×Ib)} {l c l1 c1 l' c':Ib}:Go v p ((NG.map (·.1)).reverse) q ks l c l1 c1->Res v p NG l1 c1 l' c'->Res v p ((q,ks)::NG) l c l' c'
def iD (lv:List Ib):Nat:=(lv.map List.length).sum
theorem lT:∀{lv:List Ib} {j:Nat} {xs ys:Ib},lv[j]?=some xs->iD (lv.set j ys) + xs.length=iD lv + ys.length
 | [],j,_,_,h=>by simp at h
 | a::lv,0,xs,ys,h=>by
   have:a=xs:=by simpa using h
   subst this
   simp[iD];omega
 | a::lv,j + 1,xs,ys,h=>by
   have:=lT (lv:=lv) (j:=j) (xs:=xs) (ys:=ys) (by simpa using h)
   simp[iD] at this ⊢
   omega
theorem n8 {v:ay}(hv:aY v){p:Int}:∀i,i<=v.2.length->iD (e7 v p (v.1.getD p.toNat 0).toNat i)<=i
 | 0,_=>by
   unfold e7 iD
   rw[JO]
   have:∀xs:Ib,(xs.map (List.length ∘ gJ v p 0)).sum=0:=by
    intro xs
    induction xs with
    | nil=>rfl
    | cons a xs ih=>rw[Js,JW,ih];rfl
   rw[this];exact Kp _
 | i + 1,hi=>by
   have ih:=n8 hv (p:=p) i (by omega)
   have hr:rowOf v (i:Int)∈v.2:=by
    unfold rowOf
    rw[IJ,IF (by omega)]
    exact Jb _
   have rp:=hv.dD hr
   by_cases h:(rowOf v (i:Int)).1=p
   ·have s0:=rp.s0;have sn:=rp.sn
    rw[h] at sn
    rw[← rJ h s0 (by omega)]
    have:=lT (ys:=gJ v p i (rowOf v (i:Int)).2.1++[(i:Int)]) (jY (v:=v) (p:=p) (n:=(v.1.getD p.toNat 0).toNat) (i:=i) (j:=(rowOf v (i:Int)).2.1.toNat) (by omega))
    rw[show(((rowOf v (i:Int)).2.1.toNat:Nat):Int)=(rowOf v (i:Int)).2.1 by omega,IL,Jo] at this
    omega
   ·rw[oH h];omega
structure CI (v:ay) (p:Int) (lv:List Ib) (NG:List (Int×Ib)) (Oh:Ib) (l found:Ib):Prop where
 len:lv.length=(v.1.getD p.toNat 0).toNat
 OM:∀x∈NG.map (·.1),0<=x/\x < v.1.getD p.toNat 0
 nd:(NG.map (·.1)).Nodup
 on:∀x∈NG,lv[x.1.toNat]?=some x.2/\∀k∈x.2,k∈Ni v p x.1
 off:∀g∈l,0<=g/\g < v.1.getD p.toNat 0/\lv[g.toNat]?=some []/\g∉NG.map (·.1)
 new:∀g,0<=g->g < v.1.getD p.toNat 0->g∉l->g∉NG.map (·.1)->lv[g.toNat]?=some (Ni v p g)
 fk:Oh=[]∨∃g,Oh=[g]/\g∈l
 res:∀l' c',Res v p NG l found l' c'->Res v p [(0,Ni v p 0)] [] [] l' c'
 bd:found.length + iD lv<=60
theorem CI.pop {lv:List Ib}{NG:List (Int×Ib)}{found:Ib}(h:CI v p lv ((q,[])::NG) [] l found):CI v p lv NG [] (l++[q]) found:=by
 obtain⟨n1,n2⟩:=Jh.mp h.nd
 refine⟨h.len,λx hx=>h.OM x (IK _ hx),n2,λx hx=>h.on x (IK _ hx),λg hg=>?_,λg g0 g1 gl gs=>?_,.inl rfl,λl' c' hr=>h.res l' c' (.cons .done hr),h.bd⟩
 ·rcases IS.mp hg with z | z
  ·obtain⟨a,b,c,d⟩:=h.off g z
   exact⟨a,b,c,λw=>d (IK _ w)⟩
  ·rw[II.mp z]
   have:=h.OM q IT
   exact⟨this.1,this.2,(h.on _ IT).1,n1⟩
 ·refine h.new g g0 g1 (λw=>gl (IX _ w)) λw=>?_
  rcases IY.mp w with z | z
  ·exact gl (IU _ (II.mpr z))
  ·exact gs z
theorem CI.take {lv:List Ib}{k:Int}{NG:List (Int×Ib)}{found:Ib}(h:CI v p lv ((q,k::ks)::NG) [] l found):(lv.set q.toNat ks).length=(v.1.getD p.toNat 0).toNat/\(∀x∈(q,ks)::NG,(lv.set q.toNat ks)[x.1.toNat]?=some x.2/\∀k∈x.2,k∈Ni v p x.1)/\(∀g∈l,0<=g/\g < v.1.getD p.toNat 0/\(lv.set q.toNat ks)[g.toNat]?=some []/\g∉((q,ks)::NG).map (·.1))/\
 (∀g,0<=g->g < v.1.getD p.toNat 0->g∉l->g∉((q,ks)::NG).map (·.1)->(lv.set q.toNat ks)[g.toNat]?=some (Ni v p g))/\found.length + 1 + iD (lv.set q.toNat ks)<=60:=by
 obtain⟨n1,n2⟩:=Jh.mp h.nd
 have hq:=h.OM q IT
 have o:=h.on _ IT
 have hlv:lv[q.toNat]?=some (k::ks):=o.1
 have il:=(IG.mp hlv).1
 have ne:∀g,0<=g->g≠q->(lv.set q.toNat ks)[g.toNat]?=lv[g.toNat]?:=λg g0 gn=>Jk (by omega)
 refine⟨by rw[Jp];exact h.len,λx hx=>?_,λg hg=>?_,λg g0 g1 gl gs=>?_,?_⟩
 ·rcases IY.mp hx with rfl | hx
  ·exact⟨Ji il,λj hj=>o.2 j (IK _ hj)⟩
  ·have a:=h.on x (IK _ hx)
   have b:=h.OM x.1 (IK _ (Jf.mpr ⟨x,hx,rfl⟩))
   rw[ne x.1 b.1 (λe=>n1 (e▸Jf.mpr ⟨x,hx,rfl⟩))]
   exact a
 ·obtain⟨a,b,c,d⟩:=h.off g hg
  rw[ne g a (λe=>d (by rw[e];exact IT))]
  exact⟨a,b,c,d⟩
 ·rw[ne g g0 (λe=>gs (by rw[e];exact IT))]
  exact h.new g g0 g1 gl gs
 ·have:=lT (ys:=ks) hlv
  have:=h.bd
  simp only[I0] at *
  omega
end
section
abbrev vp:Stmt:=top Ao
abbrev nCU:Ic:=["web","part","left","way","found","number","to"]
theorem uU:aF nCU ["web","part"] (ag vp):=ND
def zC:cf:=λK ps T=>∃(v:ay) (p:Int),ps=[⟨br,v⟩,⟨af,p⟩]/\aY v/\0<=p/\p < (v.1.length:Int)/\T=iF K af (λys=>∃l c,Go v p [] 0 (Ni v p 0) [] [] l c/\ys=sortI c)
theorem Fg (M:bR mg)(CN:ax P w K mg base "need_part" 7 (aG zo K))(CV:ax P w K mg base "rows_leaving" 1 (aG (wV false) K))(F:bC K "cuts" "cuts" vp f fd)(hm:mg "cuts"=some (.ref f))(hb:Binds K fd ["web","part"] []):ax P w K mg base "cuts" 8 (aG zC K):=by
 have nd:=uU.nd
 have CV:=CV.mono (show 1<=7 by decide)
 obtain⟨t1,hB⟩:=M.begin_
 refine bM F uU hm hb (λqs T ⟨_,_,e,_⟩=>by rw[e];rfl) (λNl A outer s H E qs T hr hS=>?_)
 obtain⟨v,p,rfl,hv,p0,p1,rfl⟩:=hS
 have pl:=hv.pl
 have rl:=hv.rl
 have nb:=hv.sz (v.1.getD p.toNat 0) (by rw[IJ,IF (by omega)];exact Jb _)
 change WS _ _ [bB v,av p,.no,.no,.no,.no,.no] _ _
 refine ah (jN CN hr (ae (aa 0 rfl) (ae (aa 1 rfl) aj)) ⟨v,p,rfl,hv,p0,p1,rfl⟩ ?_)
 refine ah (A3 2 CV hr (ae (aa 0 rfl) (ae (aa 1 rfl) aj)) ⟨v,p,rfl,hv,p0,p1,rfl⟩ ?_)
 rintro a as _ rfl
 refine ah (cL 3 (r:=af) (aw (au (bV hB) aD) (by show 1<=K4;decide)) ?_)
 refine ah (cL 4 (r:=af) (aw aD (by decide)) ?_)
 have t0:iD (dw v p)<=60:=by
  have:=n8 hv (p:=p) v.2.length (Kp _)
  have e:e7 v p (v.1.getD p.toNat 0).toNat v.2.length=dw v p:=rfl
  rw[e] at this
  omega
 have at0:∀g,0<=g->g < v.1.getD p.toNat 0->(dw v p)[g.toNat]?=some (Ni v p g):=λg g0 g1=>yv g0 g1
 have c0:CI v p (dw v p) [(0,Ni v p 0)] [] [] []:=by
  refine⟨by unfold dw;rw[IM,aC],λx hx=>?_,by simp,λx hx=>?_,λg hg=>(by cases hg),λg g0 g1 _ _=>at0 g g0 g1,.inl rfl,λl' c' h=>h,by simpa using t0⟩
  ·have:x=0:=by simpa using hx
   omega
  ·rw[II.mp hx]
   exact⟨at0 0 (by decide) (by omega),λk hk=>hk⟩
 refine ah (yn (λm Γ=>∃lv NG Oh l found v5 v6,Γ=[bB v,av p,.ob (eK af a as lv),.mu af ((NG.map (·.1)).reverse++Oh),.mu af found,v5,v6]/\CI v p lv NG Oh l found/\m=2 * iD lv + ((NG.map (·.1)).reverse++Oh).length/\m<=121) (m0:=2 * iD (dw v p) + 1)
  ⟨dw v p,[(0,Ni v p 0)],[],[],[],_,_,rfl,c0,rfl,by omega⟩ ?_)
 ·rintro m Γ ⟨lv,NG,Oh,l,found,v5,v6,rfl,hC,rfl,R7⟩
  refine⟨_,_,wB 3 rfl,λNO=>?_,λhe=>?_⟩
  ·-- PB place where one is
   have ll:=hC.len
   have main:∀(w:Ib) (t:Int) (xs:Ib),(NG.map (·.1)).reverse++Oh=w++[t]->0<=t->t < v.1.getD p.toNat 0->lv[t.toNat]?=some xs->
    ((xs=[]->∃N9 l',CI v p lv N9 [] l' found/\(N9.map (·.1)).reverse=w)/\(∀k ks,xs=k::ks->0<=k/\k < (v.2.length:Int)/\
      (dst v k∈w++[t]->∃N9 l',CI v p (lv.set t.toNat ks) N9 [] l' (found++[k])/\(N9.map (·.1)).reverse=w++[t])/\
      (dst v k∉w++[t]->∃N9 Pn l',CI v p (lv.set t.toNat ks) N9 Pn l' found/\(N9.map (·.1)).reverse++Pn=w++[t]++[dst v k]))):=by
    intro w t xs hw tt0 tt1 hx
    rcases hC.fk with rfl | ⟨g,rfl,hg⟩
    ·rw[Jj] at hw
     cases NG with
     | nil=>simp at hw
     | cons top NG=>
       obtain⟨q,ks0⟩:=top
       rw[Js,JX] at hw
       obtain⟨e1,e2⟩:=Kk hw rfl
       have e2:q=t:=by simpa using e2
       subst e2
       have o:=hC.on _ IT
       have exs:ks0=xs:=Option.some.inj (o.1.symm.trans hx)
       subst exs
       refine⟨λz=>?_,λk ks z=>?_⟩
       ·subst z
        exact⟨NG,_,hC.pop,e1⟩
       ·subst z
        obtain⟨f1,f2,f3,f4,f5⟩:=hC.take
        have hk:=o.2 k IT
        obtain⟨k0,k1,d0,d1⟩:=jd hv hk
        have OA:((NG.map (·.1)).reverse++[q])=w++[q]:=by rw[e1]
        refine⟨k0,k1,λz=>⟨(q,ks)::NG,l,⟨f1,hC.OM,hC.nd,f2,f3,f4,.inl rfl,λl' c' hr=>hC.res l' c' ?_,by rw[IL,Jo];omega⟩,by rw[Js,JX,e1]⟩,λz=>?_⟩
        ·cases hr with
         | cons hg hr=>exact .cons (.cut (by rw[OA];exact z) hg) hr
        ·by_cases c:dst v k∈l
         ·refine⟨(q,ks)::NG,[dst v k],l,⟨f1,hC.OM,hC.nd,f2,f3,f4,.inr ⟨_,rfl,c⟩,λl' c' hr=>hC.res l' c' ?_,by omega⟩,by rw[Js,JX,e1]⟩
          cases hr with
          | cons hg hr=>exact .cons (.look (by rw[OA];exact z) c hg) hr
         ·have ns:dst v k∉((q,ks)::NG).map (·.1):=λy=>z (by rw[← OA];simpa[or_comm] using y)
          refine⟨(dst v k,Ni v p (dst v k))::(q,ks)::NG,[],l,⟨f1,λx hx=>?_,Jh.mpr ⟨ns,hC.nd⟩,λx hx=>?_,λg hg=>?_,λg g0 g1 gl gs=>f4 g g0 g1 gl λy=>gs (IK _ y),.inl rfl,λl' c' hr=>hC.res l' c' ?_,by omega⟩,by rw[Jj,Js,JX,Js,JX,e1]⟩
          ·rcases IY.mp hx with y | y
           ·rw[y];exact⟨d0,d1⟩
           ·exact hC.OM x y
          ·rcases IY.mp hx with y | y
           ·rw[y];exact⟨f4 _ d0 d1 c ns,λj hj=>hj⟩
           ·exact f2 x y
          ·obtain⟨a1,a2,a3,a4⟩:=f3 g hg
           refine⟨a1,a2,a3,λy=>?_⟩
           rcases IY.mp y with y | y
           ·exact c ((show g=dst v k from y)▸hg)
           ·exact a4 y
          ·cases hr with
           | cons Tb hr=>
             cases hr with
             | cons R9 hr=>
               rw[Js,JX] at Tb
               exact .cons (.down (by rw[OA];exact z) c Tb R9) hr
    ·obtain⟨e1,e2⟩:=Kk hw rfl
     have e2:g=t:=by simpa using e2
     subst e2
     obtain⟨_,_,o3,_⟩:=hC.off g hg
     have exs:([]:Ib)=xs:=Option.some.inj (o3.symm.trans hx)
     subst exs
     refine⟨λ_=>⟨NG,l,⟨hC.len,hC.OM,hC.nd,hC.on,hC.off,hC.new,.inl rfl,hC.res,hC.bd⟩,e1⟩,λk ks z=>by cases z⟩
   -- PB place is there
   have hwne:(NG.map (·.1)).reverse++Oh≠[]:=λe=>by rw[e] at NO;exact absurd NO (by decide)
   obtain⟨w,t,hw⟩:∃w t,(NG.map (·.1)).reverse++Oh=w++[t]:=⟨_,_,(List.dropLast_concat_getLast hwne).symm⟩
   have tr:0<=t/\t < v.1.getD p.toNat 0:=by
    have hm:t∈(NG.map (·.1)).reverse++Oh:=by rw[hw];simp
    rcases IS.mp hm with z | z
    ·exact hC.OM t (mem_reverse.mp z)
    ·rcases hC.fk with e | ⟨g,e,hg⟩
     ·rw[e] at z;cases z
     ·rw[e] at z
      rw[II.mp z]
      exact⟨(hC.off g hg).1,(hC.off g hg).2.1⟩
   obtain⟨xs,hx⟩:∃xs,lv[t.toNat]?=some xs:=⟨_,IF (by omega)⟩
   obtain⟨m1,m2⟩:=main w t xs hw tr.1 tr.2 hx
   have OF:(w++[t])[(w++[t]).length - 1]?=some t:=by simp
   have S8:eR lv.length t=some t.toNat:=eP tr.1 (by omega)
   have wl:(w++[t]).length<=121:=by rw[← hw];omega
   rw[hw] at R7 ⊢
   refine z4.ifc (cw (Fl 2 (eV 3 (bW ai) rfl rfl (jc OF)) rfl S8 hx)) (λh=>?_) (λh=>?_)
   ·have hxe:xs=[]:=by
     cases xs with
     | nil=>rfl
     | cons _ _=>exact absurd h (by simp)
    obtain⟨N9,l',RL,ew⟩:=m1 hxe
    refine rP (vJ 3 rfl OF) ?_
    refine⟨2 * iD lv + w.length,by rw[IL];simp,lv,N9,[],l',found,v5,v6,?_,RL,by rw[Jj,ew],by rw[IL] at R7;simp at R7;omega⟩
    rw[List.dropLast_concat,Jj,ew];rfl
   ·obtain⟨k,ks,rfl⟩:∃k ks,xs=k::ks:=by
     cases xs with
     | nil=>exact absurd h (by simp)
     | cons k ks=>exact⟨k,ks,rfl⟩
    obtain⟨k0,k1,g1,g2⟩:=m2 k ks rfl
    have ts:=lT (ys:=ks) hx
    rw[I0] at ts
    refine ah (aO 5 (wq 2 (eV 3 (bW ai) rfl rfl (jc OF)) rfl S8 hx) ?_)
    refine ah (aO 6 (ck (aN (a9 (aa 0 rfl)) (aa 5 rfl) (cA cq k0 k1))) ?_)
    change WS _ _ [bB v,av p,.ob (eK af a as (lv.set t.toNat ks)),.mu af (w++[t]),.mu af found,av k,av (dst v k)] _ _
    have fb:=hC.bd
    refine ao (bF (TV.N6 (pT (i:=3) rfl (aB (by omega))) (aK yz (aa 6 rfl) (aa 3 rfl))) (λh=>?_) (λh=>?_))
    ·obtain⟨N9,l',RL,ew⟩:=g1 (of_decide_eq_true h)
     refine ao (bU 4 (aa 5 rfl) rfl rfl (Ko (show _<=1000 by omega) (by decide)) ?_)
     refine⟨2 * iD (lv.set t.toNat ks) + (w++[t]).length,by omega,lv.set t.toNat ks,N9,[],l',found++[k],av k,av (dst v k),?_,RL,by rw[Jj,ew],by omega⟩
     rw[Jj,ew];rfl
    ·obtain⟨N9,Pn,l',RL,ew⟩:=g2 (of_decide_eq_false h)
     refine ao (bU 3 (aa 6 rfl) rfl rfl (Ko (show _<=1000 by omega) (by decide)) ?_)
     refine⟨2 * iD (lv.set t.toNat ks) + (w++[t]++[dst v k]).length,by rw[IL (as:=w++[t])];simp only[Jo];omega,lv.set t.toNat ks,N9,Pn,l',found,av k,av (dst v k),?_,RL,by rw[ew],by rw[IL (as:=w++[t])];simp only[Jo];omega⟩
     rw[ew];rfl
  ·have hwe:(NG.map (·.1)).reverse++Oh=[]:=by
    cases e:(NG.map (·.1)).reverse++Oh with
    | nil=>rfl
    | cons _ _=>rw[e] at he;exact absurd he (by simp)
   have hs:NG=[]:=by
    have:=(List.append_eq_nil_iff.mp hwe).1
    simpa using this
   subst hs
   have hR:=hC.res l found .nil
   have fb:=hC.bd
   refine ao (rX (mY M.sorted (dm 4 rfl (aB (by omega))) (by omega)) ?_)
   cases hR with
   | cons hg hr=>
     cases hr
     exact⟨_,_,hg,rfl⟩
end
section
abbrev zE:Stmt:=top um
abbrev nLG:Ic:=["_law_web_here","_law_part_here","_law_standing","_law_left","_law_cut","_law_k","_law_goal"]
theorem yC:aF nLG ["_law_web_here","_law_part_here","_law_standing","_law_left","_law_cut"] (ag zE):=ND
abbrev wR (v:ay)(p:Int):Int->Nat:=λg=>(Ni v p g).length
def G4 (n:Nat):rn Int:=λK ps l c T=>∃(v:ay) (p:Int) (st:Ib) (q:Int),ps=[⟨br,v⟩,⟨af,p⟩,⟨ak af,st++[q]⟩]/\aY v/\0<=p/\p < (v.1.length:Int)/\0<=q/\q < v.1.getD p.toNat 0/\st.length + n<=16/\eI (λ_=>1) 16 l (st++[q]) + 1<=n/\
 c.length + (Ni v p q).length + eI (wR v p) 16 l (st++[q])<=60/\l.length + 1 + eI (λ_=>1) 16 l (st++[q])<=60/\T=λl' c'=>bL K fI λ_=>Go v p st q (Ni v p q) l c l' c'
theorem z6 (M:bR mg)(CF:ax P w K mg base "_law_from" 1 (aG tP K))(F:bC K "_law_go" "_law_go" zE f fd)(hm:mg "_law_go"=some (.ref f))(hb:Binds K fd ["_law_web_here","_law_part_here","_law_standing","_law_left","_law_cut"] []):∀n:Nat,ax P w K mg base "_law_go" (n + 2) (rG af (G4 n) K)
 | 0=>by
   refine sC F yC hm hb rfl (λxs ys qs T ⟨_,_,_,_,e,_⟩=>⟨_,_,_,e⟩) (λNl A outer s H E a b xs ys q0 q1 q2 T hr hS=>?_)
   obtain⟨v,p,st,q,_,_,_,_,_,_,_,h,_⟩:=hS
   exact absurd h (by omega)
 | n + 1=>by
   have nd:=yC.nd
   have IH:=z6 M CF F hm hb n
   have CF:=CF.mono (show 1<=n + 2 by omega)
   refine sC F yC hm hb rfl (λxs ys qs T ⟨_,_,_,_,e,_⟩=>⟨_,_,_,e⟩) (λNl A outer s H E a b l c q0 q1 q2 T hr hS=>?_)
   obtain⟨v,p,st,q,eq,hv,p0,p1,qb0,qb1,hd,hfu,hcb,hlb,rfl⟩:=hS
   simp only[List.cons.injEq,and_true] at eq
   obtain⟨rfl,rfl,rfl⟩:=eq
   have pl:=hv.pl
   have rl:=hv.rl
   have nb:=hv.sz (v.1.getD p.toNat 0) (by rw[IJ,IF (by omega)];exact Jb _)
   have OF:(st++[q])[(st++[q]).length - 1]?=some q:=by simp
   change WS _ _ [bB v,av p,bH (st++[q]),.ob (cN a af l),.ob (cN b af c),.no,.no] _ _
   refine ah (cB (r:=af) (λi Γ=>∃li ci v5 v6,Γ=[bB v,av p,bH (st++[q]),.ob (cN a af li),.ob (cN b af ci),v5,v6]/\(∀x∈l,x∈li)/\(∀l' c',Go v p st q ((Ni v p q).drop i) li ci l' c'->Go v p st q (Ni v p q) l c l' c')/\
    ci.length + ((Ni v p q).drop i).length + eI (wR v p) 16 li (st++[q])<=60/\li.length + 1 + eI (λ_=>1) 16 li (st++[q])<=60)
    (aT (bc CF hr (ae (aa 0 rfl) (ae (aa 1 rfl) (ae (aN (aa 2 rfl) (bW ai) (jc OF)) aj))) ⟨v,p,q,rfl,by omega,rfl⟩)) (aI 5) ⟨l,c,_,_,rfl,λx hx=>hx,λl' c' h=>h,hcb,hlb⟩ ?_ ?_)
   ·rintro i k Γ hki ⟨li,ci,v5,v6,rfl,Nt,P0,PD,Ql⟩
    have il:i < (Ni v p q).length:=(IG.mp hki).1
    have hdr:(Ni v p q).drop i=k::(Ni v p q).drop (i + 1):=by
     rw[JF il]
     congr 1
     rw[IF il] at hki
     exact Option.some.inj hki
    rw[hdr] at P0 PD
    rw[I0] at PD
    obtain⟨k0,k1,d0,d1⟩:=jd hv (IQ hki)
    refine ah (aO 6 (ck (aN (a9 (aa 0 rfl)) (aa 5 rfl) (cA cq k0 k1))) ?_)
    change WS _ _ [bB v,av p,bH (st++[q]),.ob (cN a af li),.ob (cN b af ci),av k,av (dst v k)] _ _
    refine ao (bF (aK yz (aa 6 rfl) (aa 2 rfl)) (λh=>?_) (λh=>?_))
    ·have h:dst v k∈st++[q]:=of_decide_eq_true h
     refine ao (rP (EV.box 4 (oW 4 (aa 5 rfl) rfl rfl (Ko (show _<=1000 by omega) (by decide))) rfl rfl) ?_)
     exact⟨li,ci++[k],_,_,rfl,Nt,λl' c' g=>P0 l' c' (.cut h g),by rw[IL,Jo];omega,Ql⟩
    ·have h:dst v k∉st++[q]:=of_decide_eq_false h
     refine ao (bF (TV.box 3 (TV.N6 (pT (i:=3) rfl (aB (by omega))) (aK lO (aa 6 rfl) (aa 3 rfl))) rfl rfl) (λh2=>?_) (λh2=>aW ?_))
     ·have h2:dst v k∉li:=by
       intro z
       rw[decide_eq_true z] at h2
       exact absurd h2 (by decide)
      have w1:=ft (w:=wR v p) (n:=16) (l:=li) (st:=st++[q]) (g:=dst v k) d0 (by omega) h2 h
      have w2:=ft (w:=λ_=>1) (n:=16) (l:=li) (st:=st++[q]) (g:=dst v k) d0 (by omega) h2 h
      have w3:=qh (w:=λ_=>1) (n:=16) (st:=st++[q]) Nt
      refine ao (yV 3 4 IH hr (by decide) (aa 0 rfl) (aa 1 rfl) (aE.im (cP (aa 2 rfl) (aE.im (aw (au (aa 6 rfl) aD) (by show 1<=K4;decide))) (aB (by rw[IL];show _ + 1 + 1<=_;omega)))) rfl rfl
       ⟨v,p,st++[q],dst v k,rfl,hv,p0,p1,d0,d1,by rw[IL,Jo];omega,by omega,by show _ + wR v p (dst v k) + _<=60;omega,by omega,rfl⟩ λl1 c1 hg=>?_)
      have pt:=hg.GB hv (n:=16) (by omega) λk hk=>⟨_,hk⟩
      refine⟨l1,c1,_,_,rfl,λx hx=>hg.sub.1 x (Nt x hx),λl' c' g=>P0 l' c' (.down h h2 hg g),?_,?_⟩
      ·have:c1.length + eI (wR v p) 16 l1 (st++[q])<=ci.length + wR v p (dst v k) + eI (wR v p) 16 li (st++[q]++[dst v k]):=pt.1
       omega
      ·have:=pt.2
       omega
     ·have h2:dst v k∈li:=by
       have:=of_decide_eq_true (by simpa using h2:decide (dst v k∈li)=true)
       exact this
      exact⟨li,ci,_,_,rfl,Nt,λl' c' g=>P0 l' c' (.look h h2 g),by omega,Ql⟩
   ·rintro Γ ⟨li,ci,v5,v6,rfl,Nt,P0,PD,Ql⟩
    rw[J7] at P0
    refine ao (rP (EV.box 3 (oW 3 (aN (aa 2 rfl) (bW ai) (jc OF)) rfl rfl (Ko (show _<=1000 by omega) (by decide))) rfl rfl) ?_)
    exact⟨li++[q],ci,rfl,rfl,λH0 H' R'=>⟨(),rfl,P0 _ _ .done⟩⟩
abbrev Ad:Stmt:=top qc
abbrev nLC:Ic:=["_law_web_here","_law_part_here","_law_cut"]
theorem Ds:aF nLC ["_law_web_here","_law_part_here"] (ag Ad):=ND
def Hb:cf:=λK ps T=>∃(v:ay) (p:Int),ps=[⟨br,v⟩,⟨af,p⟩]/\aY v/\0<=p/\p < (v.1.length:Int)/\T=bL K (ak af) (λys=>∃l c,Go v p [] 0 (Ni v p 0) [] [] l c/\c.length<=60/\ys=sortI c)
theorem AX {v:ay}(hv:aY v){p:Int}(n:Nat)(hn:(v.1.getD p.toNat 0).toNat<=n):(((ups 0 n).map (wR v p)).sum:Nat)<=60:=by
 have rl:=hv.rl
 have t:=n8 hv (p:=p) v.2.length (Kp _)
 have e:iD (e7 v p (v.1.getD p.toNat 0).toNat v.2.length)=((ups 0 (v.1.getD p.toNat 0).toNat).map (wR v p)).sum:=by
  unfold iD e7
  rw[JO];rfl
 rw[e] at t
 have z:∀m,(v.1.getD p.toNat 0).toNat<=m->((ups 0 m).map (wR v p)).sum=((ups 0 (v.1.getD p.toNat 0).toNat).map (wR v p)).sum:=by
  intro m hm
  induction m with
  | zero=>rw[Nat.le_zero.mp hm]
  | succ m ih=>
    by_cases c:(v.1.getD p.toNat 0).toNat<=m
    ·rw[mj,Jq,Ke,ih c]
     have:Ni v p (m:Int)=[]:=by
      cases e:Ni v p (m:Int) with
      | nil=>rfl
      | cons k ks=>
        exfalso
        have hk:k∈Ni v p (m:Int):=by rw[e];exact IT
        unfold Ni at hk
        obtain⟨h1,h2⟩:=IZ.mp hk
        have kb:=bj.mp h1
        have h2:=of_decide_eq_true h2
        have hr:rowOf v k∈v.2:=by
         unfold rowOf
         rw[IJ,IF (by omega)]
         exact Jb _
        have r:=hv.dD hr
        have a:=r.sn
        rw[show(rowOf v k).1=p from congrArg KN h2,show(rowOf v k).2.1=(m:Int) from congrArg KL h2] at a
        omega
     simp[wR,this]
    ·have:(v.1.getD p.toNat 0).toNat=m + 1:=by omega
     rw[this]
 rw[z n hn]
 omega
theorem Fz (M:bR mg)(CG:ax P w K mg base "_law_go" 18 (rG af (G4 16) K))(F:bC K "_law_cuts" "_law_cuts" Ad f fd)(hm:mg "_law_cuts"=some (.ref f))(hb:Binds K fd ["_law_web_here","_law_part_here"] []):ax P w K mg base "_law_cuts" 19 (aG Hb K):=by
 have nd:=Ds.nd
 refine bM F Ds hm hb (λqs T ⟨_,_,e,_⟩=>by rw[e];rfl) (λNl A outer s H E qs T hr hS=>?_)
 obtain⟨v,p,rfl,hv,p0,p1,rfl⟩:=hS
 have nb:=hv.sz (v.1.getD p.toNat 0) (by rw[IJ,IF (by omega)];exact Jb _)
 change WS _ _ [bB v,av p,.no] _ _
 refine ah (cL 2 (r:=af) (aw aD (by decide)) ?_)
 refine WS.box 2 rfl λb=>?_
 have W1:=ft (w:=λ_=>1) (n:=16) (l:=[]) (st:=[]) (g:=0) (by decide) (by decide) (by simp) (by simp)
 have W2:=ft (w:=wR v p) (n:=16) (l:=[]) (st:=[]) (g:=0) (by decide) (by decide) (by simp) (by simp)
 have L:=AX hv 16 (p:=p) (by omega)
 have e1:eI (λ_=>1) 16 [] []=16:=by decide
 have e2:eI (wR v p) 16 [] []=((ups 0 16).map (wR v p)).sum:=by
  unfold eI
  rw[Jr.mpr (by simp)]
 rw[e1] at W1
 rw[e2] at W2
 have c60:0 + (Ni v p 0).length + eI (wR v p) 16 [] ([]++[0])<=60:=by
  show 0 + wR v p 0 + _<=60
  omega
 refine ah (vF 2 CG hr (aa 0 rfl) (aa 1 rfl) (aE.im (aw (au ai aD) (by show 1<=K4;decide))) (aw aD (by decide)) rfl
  ⟨v,p,[],0,rfl,hv,p0,p1,by decide,by omega,by decide,by omega,c60,by simp only[Kd];omega,rfl⟩ λl1 c1 hg=>?_)
 have pt:=(hg.GB hv (n:=16) (by omega) λk hk=>⟨_,hk⟩).1
 have c1l:c1.length<=60:=by
  have pt:c1.length + eI (wR v p) 16 l1 []<=0 + (Ni v p 0).length + eI (wR v p) 16 [] ([]++[0]):=pt
  omega
 refine WS.unbox 2 rfl ?_
 exact ao (bT (aE.im (mY M.sorted (dm 2 rfl (aB (by omega))) (by omega))) ⟨l1,c1,hg,c1l,rfl⟩)
end
section
variable {v:ay}{p q:Int}{l c:Ib}
def src (v:ay)(k:Int):Int:=(rowOf v k).2.1
theorem c6 {k:Int}:k∈Ni v p q↔0<=k/\k < (v.2.length:Int)/\(rowOf v k).1=p/\src v k=q:=by
 unfold Ni src
 rw[IZ,bj]
 constructor
 ·rintro⟨h1,h2⟩
  have h2:=of_decide_eq_true h2
  exact⟨h1.1,h1.2,congrArg KN h2,congrArg KL h2⟩
 ·rintro⟨h1,h2,h3,h4⟩
  exact⟨⟨h1,h2⟩,decide_eq_true (by rw[h3,h4])⟩
theorem m7 (v:ay)(p q:Int):(Ni v p q).Nodup:=(d6 _).filter _
structure GP (v:ay) (p:Int) (st:Ib) (q:Int) (ks l c:Ib):Prop where
 nd:c.Nodup
 ks_:∀k∈ks,k∈Ni v p q
 kn:ks.Nodup
 own:∀k∈c,k∈Ni v p (src v k)/\(src v k∈l∨src v k∈st∨(src v k=q/\k∉ks))
 ql:q∉l
 qs:q∉st
 sl:∀x∈st,x∉l
 pr:∀k∈Ni v p q,k∈ks∨k∈c∨dst v k∈l
 od:∀l1 a l2,l=l1++a::l2->∀k∈Ni v p a,k∈c∨dst v k∈l1
 cs:∀k∈c,dst v k∈l∨dst v k∈st∨dst v k=q
structure GQ (v:ay) (p:Int) (st:Ib) (q:Int) (l c l' c':Ib):Prop where
 nd:c'.Nodup
 own:∀k∈c',k∈Ni v p (src v k)/\(src v k∈l'∨src v k∈st)
 new:∀k∈c',k∈c∨src v k∉st
 ln:∀x∈l',x∈l∨x∉st
 cc:∀k∈c,k∈c'
 od:∀l1 a l2,l'=l1++a::l2->∀k∈Ni v p a,k∈c'∨dst v k∈l1
 cs:∀k∈c',dst v k∈l'∨dst v k∈st
 lst:∃l0,l'=l0++[q]/\q∉l0
theorem Go.post {st:Ib}{ks l' c':Ib}(h:Go v p st q ks l c l' c'):GP v p st q ks l c->GQ v p st q l c l' c':=by
 induction h with
 | done=>
   rename_i st q l c
   intro g
   refine⟨g.nd,λk hk=>?_,λk hk=>.inl hk,λx hx=>?_,λk hk=>hk,λl1 a l2 e k hk=>?_,λk hk=>?_,l,rfl,g.ql⟩
   ·obtain⟨a,b⟩:=g.own k hk
    refine⟨a,?_⟩
    rcases b with b | b | b
    ·exact .inl (IX _ b)
    ·exact .inr b
    ·exact .inl (IU _ (II.mpr b.1))
   ·rcases IS.mp hx with z | z
    ·exact .inl z
    ·rw[II.mp z];exact .inr g.qs
   ·rcases List.eq_nil_or_concat l2 with rfl | ⟨l2',z,rfl⟩
    ·obtain⟨e1,e2⟩:=Kk e rfl
     have e2:q=a:=by simpa using e2
     subst e2
     subst e1
     rcases g.pr k hk with z | z | z
     ·cases z
     ·exact .inl z
     ·exact .inr z
    ·have e':l++[q]=(l1++a::l2')++[z]:=by rw[e];simp
     obtain⟨e1,_⟩:=Kk e' rfl
     exact g.od l1 a l2' e1 k hk
   ·rcases g.cs k hk with z | z | z
    ·exact .inl (IX _ z)
    ·exact .inr z
    ·exact .inl (IU _ (II.mpr z))
 | cut a P0 ih=>
   rename_i st q k ks l c l' c'
   intro g
   obtain⟨n1,n2⟩:=Jh.mp g.kn
   have hkq:=g.ks_ k IT
   have QT:src v k=q:=(c6.mp hkq).2.2.2
   have nkc:k∉c:=λz=>by
    rcases(g.own k z).2 with b | b | b
    ·exact g.ql (QT▸b)
    ·exact g.qs (QT▸b)
    ·exact b.2 IT
   have r:=ih ⟨gz g.nd nkc,λj hj=>g.ks_ j (IK _ hj),n2,λj hj=>?_,g.ql,g.qs,g.sl,λj hj=>?_,λl1 b l2 e j hj=>?_,λj hj=>?_⟩
   ·refine⟨r.nd,r.own,λj hj=>?_,r.ln,λj hj=>r.cc j (IX _ hj),r.od,r.cs,r.lst⟩
    rcases r.new j hj with z | z
    ·rcases IS.mp z with z | z
     ·exact .inl z
     ·rw[II.mp z,QT];exact .inr g.qs
    ·exact .inr z
   ·rcases IS.mp hj with z | z
    ·obtain⟨x,y⟩:=g.own j z
     refine⟨x,?_⟩
     rcases y with y | y | y
     ·exact .inl y
     ·exact .inr (.inl y)
     ·exact .inr (.inr ⟨y.1,λw=>y.2 (IK _ w)⟩)
    ·rw[II.mp z,QT]
     exact⟨hkq,.inr (.inr ⟨rfl,n1⟩)⟩
   ·rcases g.pr j hj with z | z | z
    ·rcases IY.mp z with rfl | z
     ·exact .inr (.inl (IU _ (II.mpr rfl)))
     ·exact .inl z
    ·exact .inr (.inl (IX _ z))
    ·exact .inr (.inr z)
   ·rcases g.od l1 b l2 e j hj with z | z
    ·exact .inl (IX _ z)
    ·exact .inr z
   ·rcases IS.mp hj with z | z
    ·exact g.cs j z
    ·rw[II.mp z]
     rcases IS.mp a with w | w
     ·exact .inr (.inl w)
     ·exact .inr (.inr (II.mp w))
 | look a b P0 ih=>
   rename_i st q k ks l c l' c'
   intro g
   obtain⟨n1,n2⟩:=Jh.mp g.kn
   refine ih ⟨g.nd,λj hj=>g.ks_ j (IK _ hj),n2,λj hj=>?_,g.ql,g.qs,g.sl,λj hj=>?_,g.od,g.cs⟩
   ·obtain⟨x,y⟩:=g.own j hj
    refine⟨x,?_⟩
    rcases y with y | y | y
    ·exact .inl y
    ·exact .inr (.inl y)
    ·exact .inr (.inr ⟨y.1,λw=>y.2 (IK _ w)⟩)
   ·rcases g.pr j hj with z | z | z
    ·rcases IY.mp z with rfl | z
     ·exact .inr (.inr b)
     ·exact .inl z
    ·exact .inr (.inl z)
    ·exact .inr (.inr z)
 | down a b Tb R9 Ro QR=>
   rename_i st q k ks l c l1 c1 l' c'
   intro g
   obtain⟨n1,n2⟩:=Jh.mp g.kn
   have r1:=Ro ⟨g.nd,λj hj=>hj,m7 v p _,λj hj=>?_,b,a,λx hx=>?_,λj hj=>.inl hj,g.od,λj hj=>?_⟩
   ·have r2:=QR ⟨r1.nd,λj hj=>g.ks_ j (IK _ hj),n2,λj hj=>?_,λz=>?_,g.qs,λx hx z=>?_,λj hj=>?_,r1.od,λj hj=>?_⟩
    ·refine⟨r2.nd,r2.own,λj hj=>?_,λx hx=>?_,λj hj=>r2.cc j (r1.cc j hj),r2.od,r2.cs,r2.lst⟩
     ·rcases r2.new j hj with z | z
      ·rcases r1.new j z with z | z
       ·exact .inl z
       ·exact .inr λw=>z (IX _ w)
      ·exact .inr z
     ·rcases r2.ln x hx with z | z
      ·rcases r1.ln x z with z | z
       ·exact .inl z
       ·exact .inr λw=>z (IX _ w)
      ·exact .inr z
    ·obtain⟨x,y⟩:=r1.own j hj
     refine⟨x,?_⟩
     rcases y with y | y
     ·exact .inl y
     ·rcases IS.mp y with y | y
      ·exact .inr (.inl y)
      ·have y:=II.mp y
       refine .inr (.inr ⟨y,λw=>?_⟩)
       rcases r1.new j hj with z | z
       ·rcases(g.own j z).2 with u | u | u
        ·exact g.ql (y▸u)
        ·exact g.qs (y▸u)
        ·exact u.2 (IK _ w)
       ·exact z (IU _ (II.mpr y))
    ·rcases r1.ln q z with w | w
     ·exact g.ql w
     ·exact w (IU _ (II.mpr rfl))
    ·rcases r1.ln x z with w | w
     ·exact g.sl x hx w
     ·exact w (IX _ hx)
    ·rcases g.pr j hj with z | z | z
     ·rcases IY.mp z with rfl | z
      ·exact .inr (.inr Tb.sub.2)
      ·exact .inl z
     ·exact .inr (.inl (r1.cc j z))
     ·exact .inr (.inr (Tb.sub.1 _ z))
    ·rcases r1.cs j hj with z | z
     ·exact .inl z
     ·rcases IS.mp z with z | z
      ·exact .inr (.inl z)
      ·exact .inr (.inr (II.mp z))
   ·obtain⟨x,y⟩:=g.own j hj
    refine⟨x,?_⟩
    rcases y with y | y | y
    ·exact .inl y
    ·exact .inr (.inl (IX _ y))
    ·exact .inr (.inl (IU _ (II.mpr y.1)))
   ·rcases IS.mp hx with z | z
    ·exact g.sl x z
    ·rw[II.mp z];exact g.ql
   ·rcases g.cs j hj with z | z | z
    ·exact .inl z
    ·exact .inr (.inl (IX _ z))
    ·exact .inr (.inl (IU _ (II.mpr z)))
structure nO (v:ay) (p:Int) (l c:Ib):Prop where
 nd:c.Nodup
 own:∀k∈c,k∈Ni v p (src v k)
 od:∀l1 a l2,l=l1++a::l2->∀k∈Ni v p a,k∈c∨dst v k∈l1
 all:∀x,0<=x->x < v.1.getD p.toNat 0->x∈l
 lst:∃l0,l=l0++[0]/\(0:Int)∉l0
theorem AL (hv:aY v)(p0:0<=p)(p1:p < (v.1.length:Int))(h:Go v p [] 0 (Ni v p 0) [] [] l c):nO v p l c:=by
 have g:=h.post ⟨J8,λk hk=>hk,m7 v p 0,λk hk=>(by cases hk),by simp,by simp,λx hx=>(by cases hx),λk hk=>.inl hk,λl1 a l2 e=>by simp at e,λk hk=>(by cases hk)⟩
 have hm:v.1[p.toNat]?=some (v.1.getD p.toNat 0):=by rw[IJ,IF (by omega)];rfl
 refine⟨g.nd,λk hk=>(g.own k hk).1,g.od,λx x0 x1=>?_,g.lst⟩
 refine Reach.sub (P:=λx=>x∈l) h.sub.2 (λa b ha NY=>?_) (hv.kQ hm x0 x1)
 obtain⟨r,hr,r1,r2,r3⟩:=gr.mp NY
 obtain⟨j,hj⟩:=Ja.mp hr
 have jl:=(IG.mp hj).1
 have er:rowOf v (j:Int)=r:=by unfold rowOf;rw[show((j:Int)).toNat=j by omega,IJ,hj];rfl
 have hk:(j:Int)∈Ni v p a:=c6.mpr ⟨by omega,by omega,by rw[er];omega,by unfold src;rw[er];exact r2⟩
 have hd:dst v (j:Int)=b:=by unfold dst;rw[er];exact r3
 obtain⟨l1,l2,e⟩:=List.append_of_mem ha
 rcases g.od l1 a l2 e _ hk with z | z
 ·rcases g.cs _ z with w | w
  ·rw[← hd];exact w
  ·cases w
 ·rw[← hd,e];exact IX _ z
def bq (v:ay)(p:Int)(C:Ib):Ib:=(ups 0 v.2.length).filter λk=>decide ((rowOf v k).1=p)&& !decide (k∈C)
def cC (v:ay)(k:Int):List Lay:=(if dst v k=0 then([]:List Lay) else[((0:Int),dst v k,k,false)])++[(src v k,(1:Int),k,true)]
def cH (v:ay)(p:Int)(C:Ib):List Lay:=((bq v p C).map λk=>((src v k,dst v k,k,true):Lay))++C.flatMap (cC v)
def dz (v:ay)(p:Int)(C:Ib):List Row:=(cH v p C).map λx:Lay=>(((0:Int),x.1,x.2.1,(-1:Int)):Row)
def fu (v:ay)(p:Int)(C:Ib):ay:=([v.1.getD p.toNat 0],dz v p C)
theorem dg {C:Ib}{k:Int}:k∈bq v p C↔k∈Ni v p (src v k)/\k∉C:=by
 unfold bq
 rw[IZ,bj,c6]
 simp
 constructor
 ·rintro⟨⟨a,b⟩,c,d⟩;exact⟨⟨a,b,c⟩,d⟩
 ·rintro⟨⟨a,b,c⟩,d⟩;exact⟨⟨a,b⟩,c,d⟩
theorem gw {C:Ib}{r:Row}:r∈dz v p C↔(∃k∈bq v p C,r=(0,src v k,dst v k, -1))∨(∃k∈C,dst v k≠0/\r=(0,0,dst v k, -1))∨∃k∈C,r=(0,src v k,1, -1):=by
 unfold dz cH
 rw[Jq,IS,JO,Jf]
 have e:∀k,∀x,x∈cC v k↔(dst v k≠0/\x=(0,dst v k,k,false))∨x=(src v k,1,k,true):=λk x=>by
  unfold cC
  by_cases z:dst v k=0
  ·simp[z]
  ·simp[z]
 constructor
 ·rintro(⟨k,hk,rfl⟩ | h)
  ·exact .inl ⟨k,hk,rfl⟩
  ·obtain⟨x,hx,rfl⟩:=Jf.mp h
   obtain⟨k,hk,hx⟩:=JA.mp hx
   rcases(e k x).mp hx with⟨z,rfl⟩ | rfl
   ·exact .inr (.inl ⟨k,hk,z,rfl⟩)
   ·exact .inr (.inr ⟨k,hk,rfl⟩)
 ·rintro(⟨k,hk,rfl⟩ | ⟨k,hk,z,rfl⟩ | ⟨k,hk,rfl⟩)
  ·exact .inl ⟨k,hk,rfl⟩
  ·exact .inr (Jf.mpr ⟨(0,dst v k,k,false),JA.mpr ⟨k,hk,(e k _).mpr (.inl ⟨z,rfl⟩)⟩,rfl⟩)
  ·exact .inr (Jf.mpr ⟨(src v k,1,k,true),JA.mpr ⟨k,hk,(e k _).mpr (.inr rfl)⟩,rfl⟩)
theorem gU (hv:aY v){k:Int}(h:k∈Ni v p q):0<=q/\q < v.1.getD p.toNat 0/\q≠1/\0<=dst v k/\dst v k < v.1.getD p.toNat 0:=by
 obtain⟨h1,h2,h3,h4⟩:=c6.mp h
 have hr:rowOf v k∈v.2:=by
  unfold rowOf
  rw[IJ,IF (by omega)]
  exact Jb _
 have r:=hv.dD hr
 have a:=r.s0;have b:=r.sn;have c:=r.s1;have d:=r.e0;have e:=r.en
 rw[h3] at b e
 unfold src at h4
 rw[h4] at a b c
 exact⟨a,b,c,d,e⟩
theorem k7 (hv:aY v)(p0:0<=p)(p1:p < (v.1.length:Int))(q0:0<=q)(q1:q < v.1.getD p.toNat 0)(qn:q≠1):∃k,k∈Ni v p q:=by
 have hm:v.1[p.toNat]?=some (v.1.getD p.toNat 0):=by rw[IJ,IF (by omega)];rfl
 have h:=hv.toEnd hm q0 q1
 have:∃r∈v.2,r.1=p/\r.2.1=q:=by
  cases h with
  | base=>exact absurd rfl qn
  | step _ m=>
    unfold bwd at m
    obtain⟨r,hr,e⟩:=Jf.mp m
    obtain⟨h1,h2⟩:=IZ.mp hr
    have h2:=of_decide_eq_true h2
    exact⟨r,h1,by omega,congrArg KL e⟩
 obtain⟨r,hr,r1,r2⟩:=this
 obtain⟨j,hj⟩:=Ja.mp hr
 have jl:=(IG.mp hj).1
 have er:rowOf v (j:Int)=r:=by unfold rowOf;rw[show((j:Int)).toNat=j by omega,IJ,hj];rfl
 exact⟨(j:Int),c6.mpr ⟨by omega,by omega,by rw[er];exact r1,by unfold src;rw[er];exact r2⟩⟩
def pos (l:Ib)(x:Int):Nat:=match l with
 | []=>0
 | a::l=>if a=x then 0 else pos l x + 1
theorem oZ:∀{l:Ib} {a:Int},a∈l->l=l.take (pos l a)++a::l.drop (pos l a + 1)/\pos l a < l.length
 | [],_,h=>by cases h
 | b::l,a,h=>by
   by_cases e:b=a
   ·subst e
    simp[pos]
   ·have ha:a∈l:=by
     rcases IY.mp h with z | z
     ·exact absurd z.symm e
     ·exact z
    obtain⟨i1,i2⟩:=oZ ha
    have ep:pos (b::l) a=pos l a + 1:=by rw[pos,if_neg e]
    rw[ep]
    refine⟨?_,by rw[I0];omega⟩
    rw[J5,List.drop_succ_cons,J0,← i1]
theorem vD:∀{l:Ib} {a b:Int},b∈l.take (pos l a)->pos l b < pos l a
 | [],_,_,h=>by simp at h
 | x::l,a,b,h=>by
   by_cases e:x=a
   ·subst e
    simp[pos] at h
   ·have ep:pos (x::l) a=pos l a + 1:=by rw[pos,if_neg e]
    rw[ep] at h ⊢
    rw[J5] at h
    by_cases e2:x=b
    ·have:pos (x::l) b=0:=by rw[pos,if_pos e2]
     omega
    ·have hb:b∈l.take (pos l a):=by
      rcases IY.mp h with z | z
      ·exact absurd z.symm e2
      ·exact z
     have:=vD hb
     have:pos (x::l) b=pos l b + 1:=by rw[pos,if_neg e2]
     omega
theorem wI:∀{l:Ib} {x:Int} (r:Ib),x∈l->pos (l++r) x < l.length
 | [],_,_,h=>by cases h
 | a::l,x,r,h=>by
   rw[J0,pos,I0]
   split
   ·omega
   ·rename_i e
    have hx:x∈l:=by
     rcases IY.mp h with z | z
     ·exact absurd z.symm e
     ·exact z
    have:=wI r hx
    omega
theorem sF:∀{l:Ib} {x:Int},x∉l->pos (l++[x]) x=l.length
 | [],x,_=>by simp[pos]
 | a::l,x,h=>by
   rw[J0,pos,if_neg (λe=>h (by rw[e];exact IT)),sF (λz=>h (IK _ z))];rfl
theorem nO.before (g:nO v p l c){a k:Int}(ha:a∈l)(hk:k∈Ni v p a)(hc:k∉c):pos l (dst v k) < pos l a:=by
 have e:=(oZ ha).1
 rcases g.od _ a _ e k hk with z | z
 ·exact absurd z hc
 ·exact vD z
end
section
variable {v:ay}{p:Int}{l c C:Ib}
theorem xY (hv:aY v)(p0:0<=p)(p1:p < (v.1.length:Int))(g:nO v p l c)(hC:∀k,k∈C↔k∈c):dQ (dz v p C) 0:=by
 refine⟨λx=>if x=1 then 1 else -(pos l x:Int),λr hr _=>?_⟩
 have one:∀a:Int,a≠1->(if a=1 then(1:Int) else -(pos l a:Int)) < 1:=λa ha=>by rw[if_neg ha];omega
 rcases gw.mp hr with⟨k,hk,rfl⟩ | ⟨k,hk,z,rfl⟩ | ⟨k,hk,rfl⟩
 ·obtain⟨h1,h2⟩:=dg.mp hk
  obtain⟨a0,a1,an,b0,b1⟩:=gU hv h1
  show(if src v k=1 then(1:Int) else -(pos l (src v k):Int)) < (if dst v k=1 then(1:Int) else -(pos l (dst v k):Int))
  by_cases e:dst v k=1
  ·rw[if_pos e];exact one _ an
  ·rw[if_neg e,if_neg an]
   have:=g.before (g.all _ a0 a1) h1 λz=>h2 ((hC k).mpr z)
   omega
 ·have hkf:=g.own k ((hC k).mp hk)
  obtain⟨_,_,_,b0,b1⟩:=gU hv hkf
  show(if(0:Int)=1 then(1:Int) else -(pos l (0:Int):Int)) < (if dst v k=1 then(1:Int) else -(pos l (dst v k):Int))
  by_cases e:dst v k=1
  ·rw[if_pos e];exact one 0 (by decide)
  ·rw[if_neg e,if_neg (by decide)]
   obtain⟨l0,e1,e2⟩:=g.lst
   have hd:=g.all _ b0 b1
   rw[e1] at hd
   have hd:dst v k∈l0:=by
    rcases IS.mp hd with w | w
    ·exact w
    ·exact absurd (II.mp w) z
   have i1:pos l (dst v k) < l0.length:=by rw[e1];exact wI _ hd
   have i0:pos l 0=l0.length:=by rw[e1];exact sF e2
   omega
 ·have hkf:=g.own k ((hC k).mp hk)
  obtain⟨_,_,an,_,_⟩:=gU hv hkf
  show(if src v k=1 then(1:Int) else -(pos l (src v k):Int)) < (if(1:Int)=1 then(1:Int) else _)
  rw[if_pos rfl];exact one _ an
theorem AM (hv:aY v)(hle:v.2.length<=30)(p0:0<=p)(p1:p < (v.1.length:Int))(g:nO v p l c)(hC:∀k,k∈C↔k∈c)(hn:C.Nodup):aY (fu v p C):=by
 have nb:=hv.sz (v.1.getD p.toNat 0) (by rw[IJ,IF (by omega)];exact Jb _)
 have hm:v.1[p.toNat]?=some (v.1.getD p.toNat 0):=by rw[IJ,IF (by omega)];rfl
 have ep:((p.toNat:Nat):Int)=p:=by omega
 have own:∀k∈C,k∈Ni v p (src v k):=λk hk=>g.own k ((hC k).mp hk)
 -- PB rows by their Nq
 have T:∀a b,(a,b)∈(dz v p C).map (λr:Row=>(r.2.1,r.2.2.1))↔(∃k∈bq v p C,a=src v k/\b=dst v k)∨(∃k∈C,dst v k≠0/\a=0/\b=dst v k)∨∃k∈C,a=src v k/\b=1:=λa b=>by
  rw[Jf]
  constructor
  ·rintro⟨r,hr,e⟩
   have ea:r.2.1=a:=congrArg KN e
   have eb:r.2.2.1=b:=congrArg KL e
   rcases gw.mp hr with⟨k,hk,rfl⟩ | ⟨k,hk,z,rfl⟩ | ⟨k,hk,rfl⟩
   ·exact .inl ⟨k,hk,ea.symm,eb.symm⟩
   ·exact .inr (.inl ⟨k,hk,z,ea.symm,eb.symm⟩)
   ·exact .inr (.inr ⟨k,hk,ea.symm,eb.symm⟩)
  ·rintro(⟨k,hk,rfl,rfl⟩ | ⟨k,hk,z,rfl,rfl⟩ | ⟨k,hk,rfl,rfl⟩)
   ·exact⟨_,gw.mpr (.inl ⟨k,hk,rfl⟩),rfl⟩
   ·exact⟨_,gw.mpr (.inr (.inl ⟨k,hk,z,rfl⟩)),rfl⟩
   ·exact⟨_,gw.mpr (.inr (.inr ⟨k,hk,rfl⟩)),rfl⟩
 have part0:∀r∈dz v p C,r.1=0/\r.2.2.2= -1:=λr hr=>by
  rcases gw.mp hr with⟨k,hk,rfl⟩ | ⟨k,hk,z,rfl⟩ | ⟨k,hk,rfl⟩<;>exact⟨rfl,rfl⟩
 have M:e9 (v.1.getD p.toNat 0) ((dz v p C).map (λr:Row=>(r.2.1,r.2.2.1))):=by
  refine⟨nb.1,λt ht=>?_,λx x0 x1=>?_,?_⟩
  ·obtain⟨a,b⟩:=t
   rcases(T a b).mp ht with⟨k,hk,rfl,rfl⟩ | ⟨k,hk,z,rfl,rfl⟩ | ⟨k,hk,rfl,rfl⟩
   ·obtain⟨a0,a1,an,b0,b1⟩:=gU hv (dg.mp hk).1
    exact⟨a0,a1,an,b0,b1⟩
   ·obtain⟨_,_,_,b0,b1⟩:=gU hv (own k hk)
    exact⟨ID _,by show(0:Int) < _;omega,by show(0:Int)≠1;decide,b0,b1⟩
   ·obtain⟨a0,a1,an,_,_⟩:=gU hv (own k hk)
    exact⟨a0,a1,an,by show(0:Int)<=1;decide,by show(1:Int) < _;omega⟩
  ·refine Reach.sub (P:=λx=>Reach _ 0 x) .base (λa b ha NY=>?_) (hv.kQ hm x0 x1)
   obtain⟨r,hr,r1,r2,r3⟩:=gr.mp NY
   obtain⟨j,hj⟩:=Ja.mp hr
   have jl:=(IG.mp hj).1
   have er:rowOf v (j:Int)=r:=by unfold rowOf;rw[show((j:Int)).toNat=j by omega,IJ,hj];rfl
   have hs:src v (j:Int)=a:=by unfold src;rw[er];exact r2
   have hd:dst v (j:Int)=b:=by unfold dst;rw[er];exact r3
   have hk:(j:Int)∈Ni v p (src v (j:Int)):=c6.mpr ⟨by omega,by omega,by rw[er];omega,rfl⟩
   by_cases z:(j:Int)∈C
   ·by_cases w:b=0
    ·rw[w];exact .base
    ·exact .step .base ((T 0 b).mpr (.inr (.inl ⟨_,z,by rw[hd];exact w,rfl,hd.symm⟩)))
   ·exact .step ha ((T a b).mpr (.inl ⟨_,dg.mpr ⟨hk,z⟩,hs.symm,hd.symm⟩))
  ·have go:∀(m:Nat) (x:Int),pos l x<=m->0<=x->x < v.1.getD p.toNat 0->Reach (((dz v p C).map (λr:Row=>(r.2.1,r.2.2.1))).map md) 1 x:=by
    intro m
    induction m with
    | zero=>
      intro x hx x0 x1
      by_cases e:x=1
      ·rw[e];exact .base
      ·obtain⟨k,hk⟩:=k7 hv p0 p1 x0 x1 e
       have hs:=(c6.mp hk).2.2.2
       by_cases z:k∈C
       ·exact .step .base (Jf.mpr ⟨(x,1),(T x 1).mpr (.inr (.inr ⟨k,z,hs.symm,rfl⟩)),rfl⟩)
       ·have:=g.before (g.all x x0 x1) hk λw=>z ((hC k).mpr w)
        omega
    | succ m ih=>
      intro x hx x0 x1
      by_cases e:x=1
      ·rw[e];exact .base
      ·obtain⟨k,hk⟩:=k7 hv p0 p1 x0 x1 e
       have hs:=(c6.mp hk).2.2.2
       obtain⟨_,_,_,b0,b1⟩:=gU hv hk
       by_cases z:k∈C
       ·exact .step .base (Jf.mpr ⟨(x,1),(T x 1).mpr (.inr (.inr ⟨k,z,hs.symm,rfl⟩)),rfl⟩)
       ·have:=g.before (g.all x x0 x1) hk λw=>z ((hC k).mpr w)
        refine .step (ih (dst v k) (by omega) b0 b1) (Jf.mpr ⟨(x,dst v k),(T x _).mpr (.inl ⟨k,dg.mpr ⟨by rw[hs];exact hk,z⟩,hs.symm,rfl⟩),rfl⟩)
   exact λx x0 x1=>go _ x (Kp _) x0 x1
 have len:(dz v p C).length<=60:=by
  have h1:(bq v p C).length + C.length<=v.2.length:=by
   have:=ff (xs:=bq v p C++C) (ys:=ups 0 v.2.length) (Ki.mpr ⟨(d6 _).filter _,hn,λa ha b hb e=>(dg.mp ha).2 (e▸hb)⟩) λx hx=>by
    rcases IS.mp hx with w | w
    ·exact(IZ.mp w).1
    ·have:=c6.mp (own x w)
     exact bj.mpr ⟨this.1,this.2.1⟩
   rw[IL,aC] at this
   exact this
  have h2:∀xs:Ib,(xs.flatMap (cC v)).length<=2 * xs.length:=by
   intro xs
   induction xs with
   | nil=>simp
   | cons a xs ih=>
     rw[JY,IL,I0]
     have:(cC v a).length<=2:=by unfold cC;split<;>simp
     omega
  have:=h2 C
  unfold dz cH
  rw[IM,IL,IM]
  omega
 have ne:1<=(dz v p C).length:=by
  obtain⟨k,hk⟩:=k7 hv p0 p1 (q:=0) (by decide) (by omega) (by decide)
  have hs:=(c6.mp hk).2.2.2
  have:∃r,r∈dz v p C:=by
   by_cases z:k∈C
   ·exact⟨_,gw.mpr (.inr (.inr ⟨k,z,rfl⟩))⟩
   ·exact⟨_,gw.mpr (.inl ⟨k,dg.mpr ⟨by rw[hs];exact hk,z⟩,rfl⟩)⟩
  obtain⟨r,hr⟩:=this
  exact Kc hr
 refine⟨⟨rfl,λi m hi=>?_,λr hr=>?_,λi i0 i1=>?_⟩,⟨Kp _,by show 1<=4;decide⟩,⟨ne,len⟩,λm hm=>?_⟩
 ·match i,hi with
  | 0,hi=>
    have em:v.1.getD p.toNat 0=m:=by simpa[fu] using hi
    rw[← em]
    refine⟨_,M,λa b=>?_⟩
    rw[Jf]
    constructor
    ·rintro⟨r,hr,_,rfl,rfl⟩;exact⟨r,hr,rfl⟩
    ·rintro⟨r,hr,e⟩;exact⟨r,hr,(part0 r hr).1,congrArg KN e,congrArg KL e⟩
  | i + 1,hi=>simp[fu] at hi
 ·obtain⟨a,b⟩:=part0 r hr
  exact⟨by omega,by rw[a];show(0:Int) < 1;decide,.inl b⟩
 ·have:i < 1:=i1
  omega
 ·have:m=v.1.getD p.toNat 0:=by simpa[fu] using hm
  rw[this];exact nb
end
theorem oP {c:Ib}{k:Int}:k∈sortI c↔k∈c:=by unfold sortI;exact List.mem_mergeSort
theorem l9 {c:Ib}(h:c.Nodup):(sortI c).Nodup:=by unfold sortI;exact(List.mergeSort_perm c _).nodup_iff.mpr h
theorem E9 {v:ay}(hv:aY v){p:Int}(hn:v.1.getD p.toNat 0<=16):∀(n:Nat) (ks:Ib) (st:Ib) (q:Int) (l c:Ib),(∀k∈ks,∃q,k∈Ni v p q)->eI (λ_=>1) 16 l (st++[q])<=n->∃l' c',Go v p st q ks l c l' c':=by
 intro n
 induction n with
 | zero=>
   intro ks
   induction ks with
   | nil=>exact λst q l c _ _=>⟨_,_,.done⟩
   | cons k ks ih=>
     intro st q l c hk hw
     by_cases a:dst v k∈st++[q]
     ·obtain⟨l',c',h⟩:=ih st q l (c++[k]) (λj hj=>hk j (IK _ hj)) hw
      exact⟨l',c',.cut a h⟩
     ·by_cases b:dst v k∈l
      ·obtain⟨l',c',h⟩:=ih st q l c (λj hj=>hk j (IK _ hj)) hw
       exact⟨l',c',.look a b h⟩
      ·obtain⟨q',SU⟩:=hk k IT
       obtain⟨_,_,g0,g1⟩:=jd hv SU
       have:=ft (w:=λ_=>1) (n:=16) (l:=l) (st:=st++[q]) (g:=dst v k) g0 (by omega) b a
       omega
 | succ n ihn=>
   intro ks
   induction ks with
   | nil=>exact λst q l c _ _=>⟨_,_,.done⟩
   | cons k ks ih=>
     intro st q l c hk hw
     by_cases a:dst v k∈st++[q]
     ·obtain⟨l',c',h⟩:=ih st q l (c++[k]) (λj hj=>hk j (IK _ hj)) hw
      exact⟨l',c',.cut a h⟩
     ·by_cases b:dst v k∈l
      ·obtain⟨l',c',h⟩:=ih st q l c (λj hj=>hk j (IK _ hj)) hw
       exact⟨l',c',.look a b h⟩
      ·obtain⟨q',SU⟩:=hk k IT
       obtain⟨_,_,g0,g1⟩:=jd hv SU
       have:=ft (w:=λ_=>1) (n:=16) (l:=l) (st:=st++[q]) (g:=dst v k) g0 (by omega) b a
       obtain⟨l1,c1,h1⟩:=ihn (Ni v p (dst v k)) (st++[q]) (dst v k) l c (λj hj=>⟨_,hj⟩) (by omega)
       obtain⟨l',c',h2⟩:=ih st q l1 c1 (λj hj=>hk j (IK _ hj)) (Kq (qh h1.sub.1) hw)
       exact⟨l',c',.down a b h1 h2⟩
theorem Co {v:ay}(hv:aY v){p:Int}(p0:0<=p)(p1:p < (v.1.length:Int)):∃c,∃l,Go v p [] 0 (Ni v p 0) [] [] l c:=by
 have nb:=hv.sz (v.1.getD p.toNat 0) (by rw[IJ,IF (by omega)];exact Jb _)
 obtain⟨l,c,h⟩:=E9 hv nb.2 _ (Ni v p 0) [] 0 [] [] (λk hk=>⟨_,hk⟩) (Kp _)
 exact⟨c,l,h⟩
open Classical in
noncomputable def Nk (v:ay)(p:Int):Ib:=if h:∃c,∃l,Go v p [] 0 (Ni v p 0) [] [] l c then sortI (Classical.choose h) else[]
section
variable {v:ay}{p:Int}
theorem lL {l c:Ib}(h:Go v p [] 0 (Ni v p 0) [] [] l c):sortI c=Nk v p:=by
 have he:∃c,∃l,Go v p [] 0 (Ni v p 0) [] [] l c:=⟨c,l,h⟩
 unfold Nk
 rw[dif_pos he]
 obtain⟨l2,h2⟩:=Classical.choose_spec he
 rw[(h.det h2).2]
theorem gm (hv:aY v)(p0:0<=p)(p1:p < (v.1.length:Int)):∃l c,nO v p l c/\(∀k,k∈Nk v p↔k∈c)/\(Nk v p).Nodup/\(Nk v p).length<=60:=by
 obtain⟨c,l,h⟩:=Co hv p0 p1
 have g:=AL hv p0 p1 h
 rw[← lL h]
 refine⟨l,c,g,λk=>oP,l9 g.nd,?_⟩
 have rl:=hv.rl
 have:=ff (xs:=sortI c) (ys:=ups 0 v.2.length) (l9 g.nd) λk hk=>by
  have:=c6.mp (g.own k (oP.mp hk))
  exact bj.mpr ⟨this.1,this.2.1⟩
 rw[aC] at this
 omega
theorem nP (hv:aY v)(p0:0<=p)(p1:p < (v.1.length:Int)){k:Int}(hk:k∈Nk v p):0<=k/\k < (v.2.length:Int):=by
 obtain⟨l,c,g,hc,_⟩:=gm hv p0 p1
 have:=c6.mp (g.own k ((hc k).mp hk))
 exact⟨this.1,this.2.1⟩
theorem AF (v:ay):nums v.2=(ups 0 v.2.length).map λk=>(k,rowOf v k):=by
 apply JP
 intro i
 by_cases hi:i < v.2.length
 ·have h1:i < (nums v.2).length:=by rw[ee];exact hi
  obtain⟨y,hy⟩:∃y,(nums v.2)[i]?=some y:=⟨_,IF h1⟩
  obtain⟨e1,e2⟩:=iT hy
  rw[hy,Je,iR hi]
  have er:rowOf v (i:Int)=y.2:=by unfold rowOf;rw[IJ,show((i:Int)).toNat=i by omega,e2];rfl
  show some y=some ((i:Int),rowOf v (i:Int))
  rw[er,← e1]
 ·rw[Ju (by rw[ee];omega),Ju (by rw[IM,aC];omega)]
theorem A8 (v:ay)(p:Int)(C:Ib):((nums v.2).filter λx:Int×Row=>decide (x.2.1=p)&& !decide (x.1∈C)).map (λx=>x.1)=bq v p C:=by
 rw[AF,List.filter_map,JO]
 unfold bq
 exact map_id _
theorem oh {C:Ib}(rl:v.2.length<=60)(hc:C.length<=60):(cH v p C).length<=180:=by
 unfold cH
 rw[IL,IM]
 have h1:(bq v p C).length<=60:=by
  unfold bq
  refine Kq (Jt _ _) ?_
  rw[aC];exact rl
 have h2:∀xs:Ib,(xs.flatMap (cC v)).length<=2 * xs.length:=by
  intro xs
  induction xs with
  | nil=>simp
  | cons a xs ih=>
    rw[JY,IL,I0]
    have:(cC v a).length<=2:=by unfold cC;split<;>simp
    omega
 have:=h2 C
 omega
end
section
abbrev rH:Stmt:=top sx
abbrev DL:Ic:=["web","part","found","kept","told","number"]
theorem ug:aF DL ["web","part"] (ag rH):=ND
def wG:cf:=λK ps T=>∃(v:ay) (p:Int),ps=[⟨br,v⟩,⟨af,p⟩]/\aY v/\0<=p/\p < (v.1.length:Int)/\T=iF K gW (· =cH v p (Nk v p))
theorem EH (M:bR mg)(CC:ax P w K mg base "cuts" 8 (aG zC K))(F:bC K "laid_out" "laid_out" rH f fd)(hm:mg "laid_out"=some (.ref f))(hb:Binds K fd ["web","part"] []):ax P w K mg base "laid_out" 9 (aG wG K):=by
 have nd:=ug.nd
 have OO:Jl [("number":Str),"row","found","part"]:=by decide
 have Pj:Jl [("number":Str),"web"]:=by decide
 obtain⟨t1,hB⟩:=M.begin_
 obtain⟨t2,OC⟩:=M.end_
 refine bM F ug hm hb (λqs T ⟨_,_,e,_⟩=>by rw[e];rfl) (λNl A outer s H E qs T hr hS=>?_)
 obtain⟨v,p,rfl,hv,p0,p1,rfl⟩:=hS
 have rl:=hv.rl
 obtain⟨lx,cx,g,hC,OP,hlen⟩:=gm hv p0 p1
 have ll:=oh (p:=p) rl.2 hlen
 have NQ:∀k,0<=k/\k < (v.2.length:Int)->cS v.2 k=some (rowOf v k):=λk hk=>cA cq hk.1 hk.2
 change WS _ _ [bB v,av p,.no,.no,.no,.no] _ _
 refine ah (aO 2 (aE.im (la (ys:=Nk v p) CC hr (ae (aa 0 rfl) (ae (aa 1 rfl) aj)) ⟨v,p,rfl,hv,p0,p1,rfl⟩ λzs ⟨l,c,h,e⟩=>by rw[e];exact lL h)) ?_)
 refine ah (jS 3 (own:=["number","row"]) (fr:=["found","part"]) (ix:=[2,1]) (ra:=aP af bA) (rb:=af) (p:=λx:Int×Row=>decide (x.2.1=p)&& !decide (x.1∈Nk v p)) (f:=λx=>x.1) (bu (so:=ag rH) (N0:=DL) rfl rfl (λx h=>aU h) (by decide +kernel)) (jX M.enumerate (a9 (aa 0 rfl)))
  (λC s H ex=>gZ 0 1) (λx=>⟨.inr rfl,.inr rfl,.inl rfl,.inl rfl,trivial⟩) (λC s H ex x hx=>i5 (TW.tv (iu (aK cT (gk (aa 1 rfl)) (aa 3 rfl)) (λ_=>iX (aK lO (aa 0 rfl) (aa 2 rfl)))))) (λC s H ex x hx _=>aa 0 rfl) ?_)
 rw[A8 v p (Nk v p)]
 refine WS.freeze 3 rfl (aB (by
  have h1:(bq v p (Nk v p)).length<=60:=by
   unfold bq
   refine Kq (Jt _ _) ?_
   rw[aC];exact rl.2
  omega)) ?_
 change WS _ _ [bB v,av p,bH (Nk v p),bH (bq v p (Nk v p)),.no,.no] _ _
 have kb:∀k∈bq v p (Nk v p),0<=k/\k < (v.2.length:Int):=λk hk=>bj.mp (IZ.mp hk).1
 refine ah (jS 4 (own:=["number"]) (fr:=["web"]) (ix:=[0]) (ra:=af) (rb:=gW) (p:=λ_=>true) (f:=λk=>(src v k,dst v k,k,true)) (bu (so:=ag rH) (N0:=DL) rfl rfl (λx h=>aU h) (by decide +kernel)) (aT (aa 3 rfl))
  (λC s H ex=>aI 0) (λx=>⟨.inr rfl,.inl rfl,trivial⟩) (λC s H ex x hx=>cg) (λC s H ex x hx _=>mV (ae (dA (aN (a9 (aa 1 rfl)) (aa 0 rfl) (NQ x (kb x hx)))) (ae (ck (aN (a9 (aa 1 rfl)) (aa 0 rfl) (NQ x (kb x hx)))) (ae (aa 0 rfl) (ae dC aj))))) ?_)
 have e0:((bq v p (Nk v p)).filter λ_=>true).map (λk=>((src v k,dst v k,k,true):Lay))=((bq v p (Nk v p)).map λk=>((src v k,dst v k,k,true):Lay))++((Nk v p).take 0).flatMap (cC v):=by rw[Jr.mpr (by simp)];simp
 have tl:∀i,(((bq v p (Nk v p)).map λk=>((src v k,dst v k,k,true):Lay))++((Nk v p).take i).flatMap (cC v)).length<=180:=λi=>by
  have h1:(bq v p (Nk v p)).length<=60:=by
   unfold bq
   refine Kq (Jt _ _) ?_
   rw[aC];exact rl.2
  have h2:∀xs:Ib,(xs.flatMap (cC v)).length<=2 * xs.length:=by
   intro xs
   induction xs with
   | nil=>simp
   | cons a xs ih=>
     rw[JY,IL,I0]
     have:(cC v a).length<=2:=by unfold cC;split<;>simp
     omega
  have:=h2 ((Nk v p).take i)
  rw[Jm] at this
  rw[IL,IM]
  omega
 refine ah (cB (r:=af) (λi Γ=>∃v5,Γ=[bB v,av p,bH (Nk v p),bH (bq v p (Nk v p)),.mu gW (((bq v p (Nk v p)).map λk=>((src v k,dst v k,k,true):Lay))++((Nk v p).take i).flatMap (cC v)),v5])
  (aT (aa 2 rfl)) (aI 5) ⟨_,by rw[← e0];rfl⟩ ?_ ?_)
 ·rintro i k Γ hk ⟨v5,rfl⟩
  have kb:=nP hv p0 p1 (IQ hk)
  have tk:(Nk v p).take (i + 1)=(Nk v p).take i++[k]:=by rw[JD,hk];rfl
  have t1:=tl i
  have tn:((Nk v p).take (i + 1)).flatMap (cC v)=((Nk v p).take i).flatMap (cC v)++cC v k:=by rw[tk,JQ];simp
  refine ah (bF (aK nR (ck (aN (a9 (aa 0 rfl)) (aa 5 rfl) (NQ k kb))) (bV hB)) (λh=>?_) (λh=>aW ?_))
  ·have h:dst v k≠0:=by
    intro z
    have z:(rowOf v k).2.2.1=0:=z
    rw[z] at h
    exact absurd h (by decide)
   refine ao (bU 4 (mV (ae (bV hB) (ae (ck (aN (a9 (aa 0 rfl)) (aa 5 rfl) (NQ k kb))) (ae (aa 5 rfl) (ae dC aj))))) rfl rfl (Ko (show _<=1000 by omega) (by decide)) ?_)
   refine ao (bU 4 (mV (ae (dA (aN (a9 (aa 0 rfl)) (aa 5 rfl) (NQ k kb))) (ae (bV OC) (ae (aa 5 rfl) (ae dC aj))))) rfl rfl (Ko (show _<=1000 by rw[IL,Jo];omega) (by decide)) ?_)
   refine⟨av k,?_⟩
   have ec:cC v k=[((0:Int),dst v k,k,false)]++[(src v k,(1:Int),k,true)]:=by unfold cC;rw[if_neg h]
   rw[tn,ec,← Jv,← Jv]
   rfl
  ·have h:dst v k=0:=by
    have:=of_decide_eq_true (by simpa using h:decide ((rowOf v k).2.2.1=0)=true)
    exact this
   refine ao (bU 4 (mV (ae (dA (aN (a9 (aa 0 rfl)) (aa 5 rfl) (NQ k kb))) (ae (bV OC) (ae (aa 5 rfl) (ae dC aj))))) rfl rfl (Ko (show _<=1000 by omega) (by decide)) ?_)
   refine⟨av k,?_⟩
   have ec:cC v k=[(src v k,(1:Int),k,true)]:=by unfold cC;rw[if_pos h];rfl
   rw[tn,ec,← Jv]
   rfl
 ·rintro Γ ⟨v5,rfl⟩
  rw[Jz]
  exact ao (nQ 4 rfl (aB (by have:=ll;unfold cH at this;omega)) rfl)
abbrev qf:Stmt:=top nN
abbrev Df:Ic:=["web","part","rows"]
theorem vb:aF Df ["web","part"] (ag qf):=ND
def vM (fr:Bool):cf:=λK ps T=>∃(v:ay) (p:Int),ps=[⟨br,v⟩,⟨af,p⟩]/\aY v/\0<=p/\p < (v.1.length:Int)/\T=if fr=true then bL K br (· =fu v p (Nk v p)) else B6 K λxs rs=>(xs,rs)=fu v p (Nk v p)
theorem Gj (fr:Bool)(M:bR mg)(CY:ax P w K mg base "laid_out" 9 (aG wG K))(F:bC K "stretch_web" "stretch_web" qf f fd)(hm:mg "stretch_web"=some (.ref f))(hb:Binds K fd ["web","part"] []):ax P w K mg base "stretch_web" 10 (aG (vM fr) K):=by
 have nd:=vb.nd
 have OO:Jl [("start":Str),"to","number","goes"]:=by decide
 obtain⟨t1,QI⟩:=M.NL
 obtain⟨t2,hNC⟩:=M.PL
 refine bM F vb hm hb (λqs T ⟨_,_,e,_⟩=>by rw[e];rfl) (λNl A outer s H E qs T hr hS=>?_)
 obtain⟨v,p,rfl,hv,p0,p1,rfl⟩:=hS
 have rl:=hv.rl
 obtain⟨lx,cx,g,hC,OP,hlen⟩:=gm hv p0 p1
 have ll:=oh (p:=p) rl.2 hlen
 change WS _ _ [bB v,av p,.no] _ _
 refine ah (jS 2 (own:=["start","to","number","goes"]) (fr:=[]) (ix:=[]) (ra:=gW) (rb:=bA) (p:=λ_=>true) (f:=λx:Lay=>(((0:Int),x.1,x.2.1,(-1:Int)):Row)) (bu (so:=ag qf) (N0:=Df) rfl rfl (λx h=>aU h) (by decide +kernel)) (aT (aE.im (fD CY hr (ae (aa 0 rfl) (ae (aa 1 rfl) aj)) ⟨v,p,rfl,hv,p0,p1,rfl⟩)))
  (λC s H ex=>CH 0 1 2 3) (λx=>⟨.inr rfl,.inr rfl,.inr rfl,.inr rfl,trivial⟩) (λC s H ex x hx=>cg) (λC s H ex x hx _=>dR (ae (bV QI) (ae (aa 0 rfl) (ae (aa 1 rfl) (ae (bV hNC) aj))))) ?_)
 have e0:((cH v p (Nk v p)).filter λ_=>true).map (λx:Lay=>(((0:Int),x.1,x.2.1,(-1:Int)):Row))=dz v p (Nk v p):=by rw[Jr.mpr (by simp)];rfl
 rw[e0]
 have sl:(dz v p (Nk v p)).length<=180:=by unfold dz;rw[IM];exact ll
 cases fr with
 | true=>exact ao (bT (bS (ae (aE.im (aw (au (aN (c8 (aa 0 rfl)) (aa 1 rfl) (bY p0 p1)) aD) (by show 1<=K4;decide))) (ae (dm 2 rfl (aB (by omega))) aj))) rfl)
 | false=>exact ao (Bb 2 (aw (au (aN (c8 (aa 0 rfl)) (aa 1 rfl) (bY p0 p1)) aD) (by show 1<=K4;decide)) rfl rfl)
end
section
variable {v:ay}{p:Int}{C:Ib}{y:Lay}
theorem uy (hv:aY v)(p0:0<=p)(hR:dQ v.2 p.toNat){g:Int->Int}(hE:eE v p g){q k:Int}(hk:k∈Ni v p q):0<=bz v p g k/\(∀x∈Ni v p q,k < x->bz v p g k + g (bh v k)<=bz v p g x)/\bz v p g k + g (bh v k)<=((Ni v p q).map λj=>g (bh v j)).sum:=by
 have gn:∀k∈Ni v p q,0<=g (bh v k):=λk hk=>by
  obtain⟨_,_,h1,h2,h3⟩:=bO hk
  have r:=hv.dD h3
  have a:=r.e0;have b:=r.en
  rw[h1] at b
  exact uV hv p0 hR hE _ _ (Kx _) a b
 have wa:∀(i:Nat) (x:Int),(Ni v p q)[i]?=some x->bz v p g x=(((Ni v p q).take i).map λk=>g (bh v k)).sum:=λi x hx=>by
  obtain⟨_,_,e1,e2,_⟩:=bO (IQ hx)
  unfold bz
  rw[if_pos e1,e2,before hx]
 have tk:∀(i:Nat) (k:Int),(Ni v p q)[i]?=some k->(((Ni v p q).take (i + 1)).map λk=>g (bh v k)).sum=(((Ni v p q).take i).map λk=>g (bh v k)).sum + g (bh v k):=λi k hk=>by
  rw[JD,hk,Jq,Ke];simp
 have mono:∀m,m < (Ni v p q).length->(((Ni v p q).take m).map λk=>g (bh v k)).sum<=(((Ni v p q).take (m + 1)).map λk=>g (bh v k)).sum:=λm hm=>by
  rw[tk m _ (IF hm)]
  have:=gn _ (Jb hm)
  omega
 have up:∀{i j:Nat},i<=j->j<=(Ni v p q).length->(((Ni v p q).take i).map λk=>g (bh v k)).sum<=(((Ni v p q).take j).map λk=>g (bh v k)).sum:=λOx hj=>tD (g:=λi=>(((Ni v p q).take i).map λk=>g (bh v k)).sum) mono Ox hj
 obtain⟨i,hi⟩:=Ja.mp hk
 have il:=(IG.mp hi).1
 rw[wa i k hi]
 have h3:=tk i k hi
 refine⟨?_,λx hx NJ=>?_,?_⟩
 ·have:=up (Ky i) (by omega)
  simpa using this
 ·obtain⟨j,hj⟩:=Ja.mp hx
  have jl:=(IG.mp hj).1
  rw[wa j x hj,← h3]
  refine up ?_ (by omega)
  refine Nat.succ_le_of_lt (Nat.lt_of_not_le λz=>?_)
  have hp:=lB v p q
  rcases Kw j i with y | y
  ·have a1:=IG.mp hj
   have a2:=IG.mp hi
   have:=List.pairwise_iff_getElem.mp hp j i a1.1 a2.1 y
   rw[a1.2,a2.2] at this
   omega
  ·have:j=i:=by omega
   subst this
   rw[hi] at hj;cases hj;omega
 ·rw[← h3]
  have:=up (i:=i + 1) (j:=(Ni v p q).length) (by omega) (Kp _)
  rw[Jz] at this
  exact this
theorem sD {v:ay}(hv:aY v){p:Int}(p0:0<=p)(hR:dQ v.2 p.toNat){g:Int->Int}(hE:eE v p g):∀(xs:Ib) (m:Nat) (q:Int),fq (fwd v.2 p) q < m->0<=q->q < v.1.getD p.toNat 0->bD v p q xs=true->0<=(xs.map (bz v p g)).sum/\(xs.map (bz v p g)).sum < g q/\fR v p g m q (xs.map (bz v p g)).sum=xs
 | [],0,q,h,_,_,_=>by omega
 | _::_,0,q,h,_,_,_=>by omega
 | [],m + 1,q,h,q0,q1,ht=>by
   rw[bD] at ht
   have e:=of_decide_eq_true ht
   subst e
   refine⟨by simp,by simp[hE.one],?_⟩
   unfold fR
   rw[if_pos rfl]
 | k::ks,m + 1,q,h,q0,q1,ht=>by
   rw[bD,Io,fo] at ht
   have hk:=of_decide_eq_true ht.1
   obtain⟨k0,k1,kp,kq,kr⟩:=bO hk
   have R:=hv.dD kr
   have e0:=R.e0;have en:=R.en;have s1:=R.s1
   rw[kp] at en
   have hc:=mH hv p0 hR kr kp
   rw[kq] at hc
   obtain⟨i0,i1,i2⟩:=sD hv p0 hR hE ks m (bh v k) (by show fq _ (rowOf v k).2.2.1 < m;omega) e0 en ht.2
   obtain⟨w0,w1,w2⟩:=uy hv p0 hR hE hk
   have qn:q≠1:=by rw[← kq];exact s1
   have hg:g q=((Ni v p q).map λk=>g (bh v k)).sum:=by
    rw[hE.step q q0 q1 qn]
    unfold goal
    rw[JO];rfl
   rw[Js,JW]
   refine⟨by omega,by omega,?_⟩
   have S3:most ((Ni v p q).filter (cV v p g (bz v p g k + (ks.map (bz v p g)).sum)))=k:=by
    refine lI (IZ.mpr ⟨hk,?_⟩) λx hx=>?_
    ·unfold cV
     rw[fi k0 k1];exact decide_eq_true (by omega)
    ·obtain⟨R6,PR⟩:=IZ.mp hx
     obtain⟨x0,x1,_⟩:=bO R6
     unfold cV at PR
     rw[fi x0 x1] at PR
     have PR:=of_decide_eq_true PR
     refine Int.not_lt.mp λz=>?_
     have:=w1 x R6 z
     omega
   unfold fR
   rw[if_neg qn,S3,show bz v p g k + (ks.map (bz v p g)).sum - bz v p g k=(ks.map (bz v p g)).sum by omega,i2]
def fj (v:ay)(k:Int):List (Str×Int):=(if dst v k=0 then([]:List (Str×Int)) else[(("begin":Str),k)])++[(("end":Str),k)]
def df (v:ay)(p:Int)(C:Ib):List (Str×Int):=((bq v p C).map λk=>(("plain":Str),k))++C.flatMap (fj v)
def gI (v:ay)(p:Int)(C:Ib)(k:Int):Int:=(((cH v p C).map λx:Lay=>(x.2.2.1,x.2.2.2)).idxOf (k,true):Nat)
def cI (v:ay)(p:Int)(C:Ib)(k:Int):Int:=(((cH v p C).map λx:Lay=>(x.2.2.1,x.2.2.2)).idxOf (k,false):Nat)
def eG (v:ay)(p:Int)(C:Ib):Ib->Ib->List Ib
 | acc,[]=>[acc]
 | acc,k::ks=>if k∈C then(acc++[gI v p C k])::eG v p C (if dst v k=0 then[] else[cI v p C k]) ks else eG v p C (acc++[gI v p C k]) ks
def dG (v:ay)(p:Int)(C:Ib):List (Int×Bool):=(cH v p C).map λx:Lay=>(x.2.2.1,x.2.2.2)
theorem iO (v:ay)(p:Int)(C:Ib):dG v p C=((bq v p C).map λk=>(k,true))++C.flatMap λk=>(if dst v k=0 then([]:List (Int×Bool)) else[(k,false)])++[(k,true)]:=by
 unfold dG cH
 rw[Jq,JO,map_flatMap]
 congr 1
 congr 1
 funext k
 unfold cC
 split<;>rfl
theorem lF {x:Int×Bool}(h:x∈dG v p C):∃y:Lay,(cH v p C)[(dG v p C).idxOf x]?=some y/\(y.2.2.1,y.2.2.2)=x:=by
 have hl:=J2 h
 have e:(dG v p C)[(dG v p C).idxOf x]?=some x:=by rw[IF hl,List.getElem_idxOf hl]
 generalize (dG v p C).idxOf x=n at e
 have e:((cH v p C).map λx:Lay=>(x.2.2.1,x.2.2.2))[n]?=some x:=e
 rw[Je] at e
 cases ey:(cH v p C)[n]? with
 | none=>rw[ey] at e;cases e
 | some y=>rw[ey] at e;exact⟨y,rfl,Option.some.inj e⟩
theorem pQ (hy:y∈cH v p C)(ht:y.2.2.2=true):y.1=src v y.2.2.1/\y.2.1=if y.2.2.1∈C/\¬y.2.2.1∈bq v p C then 1 else if y.2.2.1∈bq v p C then dst v y.2.2.1 else y.2.1:=by
 unfold cH at hy
 rcases IS.mp hy with z | z
 ·obtain⟨k,hk,rfl⟩:=Jf.mp z
  refine⟨rfl,?_⟩
  rw[if_neg (λw=>w.2 hk),if_pos hk]
 ·obtain⟨k,hk,z⟩:=JA.mp z
  unfold cC at z
  rcases IS.mp z with z | z
  ·split at z
   ·cases z
   ·rw[II.mp z] at ht;cases ht
  ·rw[II.mp z]
   refine⟨rfl,?_⟩
   by_cases w:k∈bq v p C
   ·exact absurd hk ((dg.mp w).2)
   ·rw[if_pos ⟨hk,w⟩]
theorem w8 (hy:y∈cH v p C)(ht:y.2.2.2=false):y.1=0/\y.2.1=dst v y.2.2.1:=by
 unfold cH at hy
 rcases IS.mp hy with z | z
 ·obtain⟨k,hk,rfl⟩:=Jf.mp z
  cases ht
 ·obtain⟨k,hk,z⟩:=JA.mp z
  unfold cC at z
  rcases IS.mp z with z | z
  ·split at z
   ·cases z
   ·rw[II.mp z];exact⟨rfl,rfl⟩
  ·rw[II.mp z] at ht;cases ht
theorem HV {j:Nat}(h:(cH v p C)[j]?=some y):rowOf (fu v p C) (j:Int)=(0,y.1,y.2.1, -1):=by
 unfold rowOf fu dz
 rw[IJ,show((j:Int)).toNat=j by omega,Je,h];rfl
theorem uR {j:Nat}(h:(cH v p C)[j]?=some y):(j:Int)∈Ni (fu v p C) 0 y.1/\bh (fu v p C) (j:Int)=y.2.1:=by
 have jl:=(IG.mp h).1
 have e:=HV h
 refine⟨?_,by unfold bh;rw[e]⟩
 unfold Ni
 refine IZ.mpr ⟨bj.mpr ⟨by omega,?_⟩,decide_eq_true (by rw[e])⟩
 show(j:Int) < ((dz v p C).length:Int)
 unfold dz
 rw[IM];omega
theorem rN {k:Int}(h:k∈bq v p C):(k,true)∈dG v p C:=by
 rw[iO];exact IX _ (Jf.mpr ⟨k,h,rfl⟩)
theorem tT {k:Int}(h:k∈C):(k,true)∈dG v p C:=by
 rw[iO];exact IU _ (JA.mpr ⟨k,h,IU _ (II.mpr rfl)⟩)
theorem mr {k:Int}(h:k∈C)(hd:dst v k≠0):(k,false)∈dG v p C:=by
 rw[iO];exact IU _ (JA.mpr ⟨k,h,IX _ (by rw[if_neg hd];exact II.mpr rfl)⟩)
theorem lQ {v:ay}{p:Int}{C:Ib}:∀(run acc:Ib) (q:Int),bD v p q run=true->(∀ys,bD (fu v p C) 0 0 (acc++ys)=bD (fu v p C) 0 q ys)->∀w∈eG v p C acc run,bD (fu v p C) 0 0 w=true
 | [],acc,q,ht,ha,w,hw=>by
   rw[II.mp hw]
   have:=ha []
   rw[Jj] at this
   rw[this,bD]
   rw[bD] at ht;exact ht
 | k::ks,acc,q,ht,ha,w,hw=>by
   rw[bD,Io,fo] at ht
   have hk:=of_decide_eq_true ht.1
   have QT:src v k=q:=(c6.mp hk).2.2.2
   rw[eG] at hw
   by_cases hc:k∈C
   ·rw[if_pos hc] at hw
    obtain⟨y,hy,ey⟩:=lF (tT (v:=v) (p:=p) hc)
    have ek:y.2.2.1=k:=(Prod.mk.inj ey).1
    have et:y.2.2.2=true:=(Prod.mk.inj ey).2
    obtain⟨l1,l2⟩:=pQ (IQ hy) et
    rw[ek] at l1 l2
    have nk:¬k∈bq v p C:=λz=>(dg.mp z).2 hc
    rw[if_pos ⟨hc,nk⟩] at l2
    obtain⟨f1,f2⟩:=uR hy
    rw[l1,QT] at f1
    rw[l2] at f2
    rcases IY.mp hw with rfl | hw
    ·rw[ha]
     show bD (fu v p C) 0 q [gI v p C k]=true
     rw[bD,fo]
     have:gI v p C k=(((dG v p C).idxOf (k,true):Nat):Int):=rfl
     rw[this,decide_eq_true f1,f2,bD];rfl
    ·by_cases hd:dst v k=0
     ·rw[if_pos hd] at hw
      refine lQ ks [] (bh v k) ht.2 (λys=>?_) w hw
      have:bh v k=0:=hd
      rw[this];rfl
     ·rw[if_neg hd] at hw
      obtain⟨z,hz,ez⟩:=lF (mr (v:=v) (p:=p) hc hd)
      have ezk:z.2.2.1=k:=(Prod.mk.inj ez).1
      have ezt:z.2.2.2=false:=(Prod.mk.inj ez).2
      obtain⟨m1,m2⟩:=w8 (IQ hz) ezt
      rw[ezk] at m2
      obtain⟨g1,g2⟩:=uR hz
      rw[m1] at g1
      rw[m2] at g2
      refine lQ ks [cI v p C k] (bh v k) ht.2 (λys=>?_) w hw
      show bD (fu v p C) 0 0 (cI v p C k::ys)=_
      have:cI v p C k=(((dG v p C).idxOf (k,false):Nat):Int):=rfl
      rw[bD,fo,this,decide_eq_true g1,g2];rfl
   ·rw[if_neg hc] at hw
    have QY:k∈bq v p C:=dg.mpr ⟨by rw[QT];exact hk,hc⟩
    obtain⟨y,hy,ey⟩:=lF (rN QY)
    have ek:y.2.2.1=k:=(Prod.mk.inj ey).1
    have et:y.2.2.2=true:=(Prod.mk.inj ey).2
    obtain⟨l1,l2⟩:=pQ (IQ hy) et
    rw[ek] at l1 l2
    rw[if_neg (λz=>hc z.1),if_pos QY] at l2
    obtain⟨f1,f2⟩:=uR hy
    rw[l1,QT] at f1
    rw[l2] at f2
    refine lQ ks (acc++[gI v p C k]) (bh v k) ht.2 (λys=>?_) w hw
    rw[Jv,ha]
    show bD (fu v p C) 0 q (gI v p C k::ys)=_
    have:gI v p C k=(((dG v p C).idxOf (k,true):Nat):Int):=rfl
    rw[bD,fo,this,decide_eq_true f1,f2];rfl
theorem pK {α:Type} [BEq α] [LawfulBEq α]:∀{l:List α} (r:List α) {x:α},x∈l->(l++r).idxOf x=l.idxOf x
 | a::l,r,x,h=>by
   rw[J0,Kf,Kf]
   cases e:a==x with
   | true=>rfl
   | false=>
     have ne:¬a=x:=λz=>by rw[z,beq_self_eq_true] at e;cases e
     rw[pK r (l:=l) (x:=x) ((IY.mp h).resolve_left λz=>ne z.symm)]
theorem u9 {α:Type} [BEq α] [LawfulBEq α]:∀{l:List α} (r:List α) {x:α},x∉l->(l++r).idxOf x=l.length + r.idxOf x
 | [],r,x,h=>by simp
 | a::l,r,x,h=>by
   rw[J0,Kf]
   have e:(a==x)=false:=by
    cases z:a==x with
    | false=>rfl
    | true=>exact absurd (by rw[← eq_of_beq z];exact IT) h
   rw[e,u9 r (l:=l) (x:=x) λz=>h (IK _ z),I0]
   show l.length + List.idxOf x r + 1=_
   omega
theorem idx_map {α β:Type} [BEq α] [LawfulBEq α] [BEq β] [LawfulBEq β]{f:α->β}(hf:∀a b,f a=f b->a=b):∀(l:List α) (x:α),(l.map f).idxOf (f x)=l.idxOf x
 | [],x=>rfl
 | a::l,x=>by
   rw[Js,Kf,Kf,idx_map hf l x]
   have:(f a==f x)=(a==x):=by
    cases z:a==x with
    | true=>rw[eq_of_beq z,beq_self_eq_true]
    | false=>
      cases y:f a==f x with
      | false=>rfl
      | true=>rw[hf _ _ (eq_of_beq y),beq_self_eq_true] at z;cases z
   rw[this]
theorem jo {α:Type} [BEq α] [LawfulBEq α]{l:List α}{x:α}(h:x∈l):l[l.idxOf x]?=some x/\∀m,m < l.idxOf x->l[m]?≠some x:=by
 have hl:=J2 h
 refine⟨by rw[IF hl,List.getElem_idxOf hl],λm hm e=>?_⟩
 have ml:=(IG.mp e).1
 have:=pK (l.drop (m + 1)) (l:=l.take (m + 1)) (x:=x) (IQ (show(l.take (m + 1))[m]?=some x by rw[List.getElem?_take,if_pos (by omega)];exact e))
 rw[Kh] at this
 have h2:=J2 (l:=l.take (m + 1)) (a:=x) (IQ (show(l.take (m + 1))[m]?=some x by rw[List.getElem?_take,if_pos (by omega)];exact e))
 rw[Jm] at h2
 omega
abbrev rT (k:Int):Str×Int:=(("plain":Str),k)
def qo (x:Int×Bool):Str×Int:=(if x.2=true then("end":Str) else("begin":Str),x.1)
theorem A2 (a b:Int×Bool)(h:qo a=qo b):a=b:=by
 obtain⟨a1,a2⟩:=a
 obtain⟨b1,b2⟩:=b
 unfold qo at h
 obtain⟨h1,h2⟩:=Prod.mk.inj h
 have h2:a1=b1:=h2
 subst h2
 have h1:(if a2=true then("end":Str) else("begin":Str))=if b2=true then("end":Str) else("begin":Str):=h1
 cases a2<;>cases b2
 ·rfl
 ·exact absurd h1 (by decide)
 ·exact absurd h1 (by decide)
 ·rfl
theorem mI (v:ay)(p:Int)(C:Ib):df v p C=(bq v p C).map rT++(C.flatMap λk=>(if dst v k=0 then([]:List (Int×Bool)) else[(k,false)])++[(k,true)]).map qo:=by
 unfold df
 rw[map_flatMap]
 congr 1
 congr 1
 funext k
 unfold fj
 split<;>rfl
theorem lr {k:Int}:(("plain":Str),k)∈df v p C↔k∈bq v p C:=by
 rw[mI]
 constructor
 ·intro h
  rcases IS.mp h with z | z
  ·obtain⟨x,hx,e⟩:=Jf.mp z
   have:=(Prod.mk.inj e).2
   rw[← this];exact hx
  ·obtain⟨x,_,e⟩:=Jf.mp z
   have:=(Prod.mk.inj e).1
   split at this<;>exact absurd this (by decide)
 ·exact λh=>IX _ (Jf.mpr ⟨k,h,rfl⟩)
theorem kW {k:Int}(hk:k∈C):(("begin":Str),k)∈df v p C↔dst v k≠0:=by
 unfold df
 constructor
 ·intro h e
  rcases IS.mp h with z | z
  ·obtain⟨x,_,e⟩:=Jf.mp z
   exact absurd (Prod.mk.inj e).1 (by decide)
  ·obtain⟨x,_,z⟩:=JA.mp z
   unfold fj at z
   rcases IS.mp z with z | z
   ·split at z
    ·cases z
    ·rename_i hd
     have:=(Prod.mk.inj (II.mp z)).2
     rw[← this] at hd;exact hd e
   ·exact absurd (Prod.mk.inj (II.mp z)).1 (by decide)
 ·intro h
  exact IU _ (JA.mpr ⟨k,hk,by unfold fj;rw[if_neg h];exact IX _ (II.mpr rfl)⟩)
theorem AZ {k:Int}(hk:k∈C):(("end":Str),k)∈df v p C:=by
 unfold df
 exact IU _ (JA.mpr ⟨k,hk,by unfold fj;exact IU _ (II.mpr rfl)⟩)
theorem wu {k:Int}(hk:k∈bq v p C):(((df v p C).idxOf (("plain":Str),k):Nat):Int)=gI v p C k:=by
 show(((df v p C).idxOf (("plain":Str),k):Nat):Int)=(((dG v p C).idxOf (k,true):Nat):Int)
 rw[mI,iO,pK (l:=(bq v p C).map rT) _ (Jf.mpr ⟨k,hk,rfl⟩),pK (l:=(bq v p C).map λk=>(k,true)) (x:=(k,true)) _ (Jf.mpr ⟨k,hk,rfl⟩)]
 have e1:=idx_map (f:=rT) (λa b h=>(Prod.mk.inj h).2) (bq v p C) k
 have e2:=idx_map (f:=λk:Int=>(k,true)) (λa b h=>(Prod.mk.inj h).1) (bq v p C) k
 have e1:((bq v p C).map rT).idxOf (("plain":Str),k)=(bq v p C).idxOf k:=e1
 have e2:((bq v p C).map λk=>(k,true)).idxOf (k,true)=(bq v p C).idxOf k:=e2
 rw[e1,e2]
theorem tK {k:Int}(hk:k∈C)(b:Bool):(df v p C).idxOf (qo (k,b))=(dG v p C).idxOf (k,b):=by
 rw[mI,iO,u9,u9,IM,IM]
 ·congr 1
  exact idx_map A2 _ (k,b)
 ·intro z
  obtain⟨x,hx,e⟩:=Jf.mp z
  have:=(Prod.mk.inj e).1
  have:x=k:=this
  rw[this] at hx
  exact(dg.mp hx).2 hk
 ·intro z
  obtain⟨x,hx,e⟩:=Jf.mp z
  have:=(Prod.mk.inj e).1
  cases b
  ·exact absurd (show("plain":Str)=("begin":Str) from this) (by decide)
  ·exact absurd (show("plain":Str)=("end":Str) from this) (by decide)
def jm (v:ay)(p:Int)(C:Ib)(i:Nat):Ib:=(ups 0 i).filter λk=>decide ((rowOf v k).1=p)&& !decide (k∈C)
theorem mW (v:ay)(p:Int)(C:Ib)(i:Nat):jm v p C (i + 1)=jm v p C i++(if(decide ((rowOf v (i:Int)).1=p)&& !decide ((i:Int)∈C))=true then[(i:Int)] else[]):=by
 unfold jm
 rw[mj,Ka]
 congr 1
 by_cases h:(decide ((rowOf v (i:Int)).1=p)&& !decide ((i:Int)∈C))=true
 ·simp only[J1,Km]
 ·simp only[J1,Km]
abbrev lA (x:Lay):Row:=((0:Int),x.1,x.2.1,(-1:Int))
abbrev uf (v:ay)(k:Int):Row:=((0:Int),src v k,dst v k,(-1:Int))
theorem AG (v:ay)(p:Int)(C:Ib):dz v p C=(bq v p C).map (uf v)++C.flatMap λk=>(cC v k).map lA:=by
 unfold dz cH
 rw[Jq,JO,map_flatMap]
 rfl
theorem yP (v:ay)(k:Int):(cC v k).map lA=(if dst v k=0 then([]:List Row) else[((0:Int),(0:Int),dst v k,(-1:Int))])++[((0:Int),src v k,(1:Int),(-1:Int))]:=by
 unfold cC
 split<;>rfl
end
section
abbrev zJ:Stmt:=top om
abbrev nMK:Ic:=["_law_web_here","_law_part_here","_law_cut","_law_rows","_law_marks_here","_law_k"]
theorem BH:aF nMK ["_law_web_here","_law_part_here"] (ag zJ):=ND
def GF:cf:=λK ps T=>∃(v:ay) (p:Int),ps=[⟨br,v⟩,⟨af,p⟩]/\aY v/\0<=p/\p < (v.1.length:Int)/\T=bL K (aP (ak bA) (ak (aP cD af))) (· =(dz v p (Nk v p),df v p (Nk v p)))
theorem F7 (M:bR mg)(CC:ax P w K mg base "_law_cuts" 19 (aG Hb K))(F:bC K "_law_marked" "_law_marked" zJ f fd)(hm:mg "_law_marked"=some (.ref f))(hb:Binds K fd ["_law_web_here","_law_part_here"] []):ax P w K mg base "_law_marked" 20 (aG GF K):=by
 have nd:=BH.nd
 refine bM F BH hm hb (λqs T ⟨_,_,e,_⟩=>by rw[e];rfl) (λNl A outer s H E qs T hr hS=>?_)
 obtain⟨v,p,rfl,hv,p0,p1,rfl⟩:=hS
 have rl:=hv.rl
 obtain⟨lx,cx,g,hC,OP,hlen⟩:=gm hv p0 p1
 have NQ:∀k,0<=k/\k < (v.2.length:Int)->cS v.2 k=some (rowOf v k):=λk hk=>cA cq hk.1 hk.2
 change WS _ _ [bB v,av p,.no,.no,.no,.no] _ _
 refine ah (aO 2 (zj (r':=ak af) (y:=Nk v p) CC hr (ae (aa 0 rfl) (ae (aa 1 rfl) aj)) ⟨v,p,rfl,hv,p0,p1,rfl⟩ λR u z hz hR=>by
  obtain⟨l,c,h,_,e⟩:=hz
  rw[← lL h,← e];exact hR) ?_)
 refine ah (cL 3 (r:=bA) (aw aD (by decide)) (ah (cL 4 (r:=aP cD af) (aw aD (by decide)) ?_)))
 have kl:∀i,i<=v.2.length->(jm v p (Nk v p) i).length<=60:=λi hi=>by
  unfold jm
  refine Kq (Jt _ _) ?_
  rw[aC];omega
 refine ah (cB (r:=af) (λi Γ=>∃v5,Γ=[bB v,av p,bH (Nk v p),.mu bA ((jm v p (Nk v p) i).map (uf v)),.mu (aP cD af) ((jm v p (Nk v p) i).map rT),v5])
  (d5 M.range (cK M.len (a9 (aa 0 rfl))) ⟨by omega,by omega⟩) (aI 5) ⟨_,rfl⟩ ?_ ?_)
 ·rintro i k Γ hk ⟨v5,rfl⟩
  rw[show((v.2.length:Int)).toNat=v.2.length by omega] at hk
  obtain⟨hi,ek⟩:=ip hk
  have ek:k=(i:Int):=by omega
  subst ek
  have kb:0<=(i:Int)/\(i:Int) < (v.2.length:Int):=by omega
  have kl1:=kl i (by omega)
  refine ao (bF (TW.tv (iu (aK cT (gk (aN (a9 (aa 0 rfl)) (aa 5 rfl) (NQ _ kb))) (aa 1 rfl)) (λ_=>iX (aK lO (aa 5 rfl) (aa 2 rfl))))) (λh=>?_) (λh=>aW ?_))
  ·refine ah (bU 3 (dR (ae ai (ae (dA (aN (a9 (aa 0 rfl)) (aa 5 rfl) (NQ _ kb))) (ae (ck (aN (a9 (aa 0 rfl)) (aa 5 rfl) (NQ _ kb))) (ae (bW ai) aj))))) rfl rfl (Ko (show _<=1000 by rw[IM];omega) (by decide)) ?_)
   refine ao (bU 4 (bS (ae dU (ae (aa 5 rfl) aj))) rfl rfl (Ko (show _<=1000 by rw[IM];omega) (by decide)) ?_)
   refine⟨av (i:Int),?_⟩
   rw[mW,if_pos h,Jq,Jq];rfl
  ·have h':¬(decide ((rowOf v (i:Int)).1=p)&& !decide ((i:Int)∈Nk v p))=true:=by rw[h];decide
   refine⟨av (i:Int),?_⟩
   rw[mW,if_neg h',Jj];rfl
 ·rintro Γ ⟨v5,rfl⟩
  rw[aC,show((v.2.length:Int)).toNat=v.2.length by omega]
  have kN:jm v p (Nk v p) v.2.length=bq v p (Nk v p):=rfl
  have k60:=kl v.2.length (Kp _)
  rw[kN] at k60 ⊢
  have fl:∀xs:Ib,(xs.flatMap λk=>(cC v k).map lA).length<=2 * xs.length:=by
   intro xs
   induction xs with
   | nil=>simp
   | cons a xs ih=>
     rw[JY,IL,I0]
     have:((cC v a).map lA).length<=2:=by rw[yP];split<;>simp
     omega
  have fm:∀xs:Ib,(xs.flatMap (fj v)).length<=2 * xs.length:=by
   intro xs
   induction xs with
   | nil=>simp
   | cons a xs ih=>
     rw[JY,IL,I0]
     have:(fj v a).length<=2:=by unfold fj;split<;>simp
     omega
  have tl:∀i,((bq v p (Nk v p)).map (uf v)++((Nk v p).take i).flatMap λk=>(cC v k).map lA).length<=200:=λi=>by
   have:=fl ((Nk v p).take i)
   rw[Jm] at this
   rw[IL,IM];omega
  have tm:∀i,((bq v p (Nk v p)).map rT++((Nk v p).take i).flatMap (fj v)).length<=200:=λi=>by
   have:=fm ((Nk v p).take i)
   rw[Jm] at this
   rw[IL,IM];omega
  refine ah (cB (r:=af) (λi Γ=>∃v5,Γ=[bB v,av p,bH (Nk v p),.mu bA ((bq v p (Nk v p)).map (uf v)++((Nk v p).take i).flatMap λk=>(cC v k).map lA),.mu (aP cD af) ((bq v p (Nk v p)).map rT++((Nk v p).take i).flatMap (fj v)),v5])
   (aT (aa 2 rfl)) (aI 5) ⟨v5,by rw[take_zero,flatMap_nil,Jj,flatMap_nil,Jj]⟩ ?_ ?_)
  ·rintro i k Γ hk ⟨v5,rfl⟩
   have kb:=nP hv p0 p1 (IQ hk)
   have tk:(Nk v p).take (i + 1)=(Nk v p).take i++[k]:=by rw[JD,hk];rfl
   have t1:=tl i
   have t2:=tm i
   have tn:(((Nk v p).take (i + 1)).flatMap λk=>(cC v k).map lA)=(((Nk v p).take i).flatMap λk=>(cC v k).map lA)++(cC v k).map lA:=by rw[tk,JQ];simp
   have tg:(((Nk v p).take (i + 1)).flatMap (fj v))=(((Nk v p).take i).flatMap (fj v))++fj v k:=by rw[tk,JQ];simp
   refine ah (bF (aK nR (ck (aN (a9 (aa 0 rfl)) (aa 5 rfl) (NQ k kb))) ai) (λh=>?_) (λh=>aW ?_))
   ·have h:dst v k≠0:=by
     intro z
     have z:(rowOf v k).2.2.1=0:=z
     rw[z] at h
     exact absurd h (by decide)
    have ec:(cC v k).map lA=[((0:Int),(0:Int),dst v k,(-1:Int))]++[((0:Int),src v k,(1:Int),(-1:Int))]:=by rw[yP,if_neg h]
    have et:fj v k=[(("begin":Str),k)]++[(("end":Str),k)]:=by unfold fj;rw[if_neg h]
    refine ah (bU 3 (dR (ae ai (ae ai (ae (ck (aN (a9 (aa 0 rfl)) (aa 5 rfl) (NQ k kb))) (ae (bW ai) aj))))) rfl rfl (Ko (show _<=1000 by omega) (by decide)) ?_)
    refine ao (bU 4 (bS (ae dU (ae (aa 5 rfl) aj))) rfl rfl (Ko (show _<=1000 by omega) (by decide)) ?_)
    refine ah (bU 3 (dR (ae ai (ae (dA (aN (a9 (aa 0 rfl)) (aa 5 rfl) (NQ k kb))) (ae ai (ae (bW ai) aj))))) rfl rfl (Ko (show _<=1000 by rw[IL,Jo];omega) (by decide)) ?_)
    refine ao (bU 4 (bS (ae dU (ae (aa 5 rfl) aj))) rfl rfl (Ko (show _<=1000 by rw[IL,Jo];omega) (by decide)) ?_)
    refine⟨av k,?_⟩
    rw[tn,ec,tg,et,← Jv,← Jv,← Jv,← Jv];rfl
   ·have h:dst v k=0:=by
     have:=of_decide_eq_true (by simpa using h:decide ((rowOf v k).2.2.1=0)=true)
     exact this
    have ec:(cC v k).map lA=[((0:Int),src v k,(1:Int),(-1:Int))]:=by rw[yP,if_pos h];rfl
    have et:fj v k=[(("end":Str),k)]:=by unfold fj;rw[if_pos h];rfl
    refine ah (bU 3 (dR (ae ai (ae (dA (aN (a9 (aa 0 rfl)) (aa 5 rfl) (NQ k kb))) (ae ai (ae (bW ai) aj))))) rfl rfl (Ko (show _<=1000 by omega) (by decide)) ?_)
    refine ao (bU 4 (bS (ae dU (ae (aa 5 rfl) aj))) rfl rfl (Ko (show _<=1000 by omega) (by decide)) ?_)
    refine⟨av k,?_⟩
    rw[tn,ec,tg,et,← Jv,← Jv];rfl
  ·rintro Γ ⟨v5,rfl⟩
   have t1:=tl (Nk v p).length
   have t2:=tm (Nk v p).length
   rw[Jz] at t1 t2 ⊢
   exact ao (bT (bS (ae (dm 3 rfl (aB (by omega))) (ae (dm 4 rfl (aB (by omega))) aj))) (by rw[AG];rfl))
abbrev xv:Stmt:=top rM
abbrev nFE:Ic:=["_law_marks_here","_law_run","_law_found","_law_k"]
theorem BQ:aF nFE ["_law_marks_here","_law_run"] (ag xv):=ND
theorem jR {v:ay}{p:Int}{C:Ib}:∀(run acc:Ib),(eG v p C acc run).length<=run.length + 1/\∀w∈eG v p C acc run,w.length<=acc.length + run.length + 1
 | [],acc=>⟨by rw[eG];simp,λw hw=>by rw[eG] at hw;rw[II.mp hw];simp⟩
 | k::ks,acc=>by
   rw[eG]
   split
   ·obtain⟨a,b⟩:=jR (v:=v) (p:=p) (C:=C) ks (if dst v k=0 then[] else[cI v p C k])
    refine⟨by rw[I0,I0];omega,λw hw=>?_⟩
    rcases IY.mp hw with rfl | hw
    ·simp only[IL,I0,Kd];omega
    ·have:=b w hw
     have:(if dst v k=0 then([]:Ib) else[cI v p C k]).length<=1:=by split<;>simp
     rw[I0];omega
   ·obtain⟨a,b⟩:=jR (v:=v) (p:=p) (C:=C) ks (acc++[gI v p C k])
    refine⟨by rw[I0];omega,λw hw=>?_⟩
    have:=b w hw
    rw[IL,Jo] at this
    rw[I0];omega
def G3:cf:=λK ps T=>∃(v:ay) (p:Int) (run:Ib),ps=[⟨ak (aP cD af),df v p (Nk v p)⟩,⟨ak af,run⟩]/\run.length<=900/\(∀k∈run,k∈bq v p (Nk v p)∨k∈Nk v p)/\T=iF K (ak af) (· =eG v p (Nk v p) [] run)
theorem sy {n:Nat}:eR (n + 1) (-1)=some n:=by
 unfold eR
 rw[if_neg (by decide)]
 first | (rw[if_pos (by omega)];congr 1;omega) | (simp;omega)
theorem Gh (F:bC K "_law_fell" "_law_fell" xv f fd)(hm:mg "_law_fell"=some (.ref f))(hb:Binds K fd ["_law_marks_here","_law_run"] []):ax P w K mg base "_law_fell" 1 (aG G3 K):=by
 have nd:=BQ.nd
 refine bM F BQ hm hb (λqs T ⟨_,_,_,e,_⟩=>by rw[e];rfl) (λNl A outer s H E qs T hr hS=>?_)
 obtain⟨v,p,run,rfl,hl,PX,rfl⟩:=hS
 have SO:(A.deeper (KP "_law_fell" (ag xv) s.heap.objs.size f Nl)).units + (1 + 1) < cLine:=Ko (Ks (by decide:2<=64) _) hr.units
 have TC:da (aP cD af) 1:=sT (k:=1) eq_str eq_int (by decide) (by decide)
 generalize Nk v p=C at PX
 change WS _ _ [.im (ak (aP cD af)) (df v p C),bH run,.no,.no] _ _
 refine ah (rF 2 (r:=af) (aw aD (by decide)) λa b=>?_)
 have ixl:∀(pre:List Ib) (acc:Ib),eR (pre++[acc]).length (-1)=some pre.length/\(pre++[acc])[pre.length]?=some acc:=λpre acc=>by
  refine⟨by rw[IL];exact sy,by rw[Jg (Kp _),Kz];rfl⟩
 have sl:∀(pre:List Ib) (acc y:Ib),(pre++[acc]).set pre.length y=pre++[y]:=λpre acc y=>by
  rw[List.set_append_right _ _ (Kp _),Kz];rfl
 refine ah (cB (r:=af) (λi Γ=>∃as pre acc v3,Γ=[.im (ak (aP cD af)) (df v p C),bH run,.ob (eK af a as (pre++[acc])),v3]/\pre++eG v p C acc (run.drop i)=eG v p C [] run/\pre.length<=i/\acc.length<=i + 1) (aT (aa 1 rfl)) (aI 3) ⟨[b],[],[],_,rfl,rfl,Kp _,by simp⟩ ?_ ?_)
 ·rintro i k Γ hk ⟨as,pre,acc,v3,rfl,hp,pl,al⟩
  have il:=(IG.mp hk).1
  have hd:run.drop i=k::run.drop (i + 1):=by
   obtain⟨h1,h2⟩:=IG.mp hk
   rw[JF h1,h2]
  rw[hd,eG] at hp
  obtain⟨ix1,ix2⟩:=ixl pre acc
  have az:acc.length < K4:=Ko (show acc.length<=1000 by omega) (by decide)
  refine ao (bF (aK (Aa TC SO) (bS (ae dU (ae (aa 3 rfl) aj))) (aa 0 rfl)) (λh=>?_) (λh=>?_))
  ·have QY:k∈bq v p C:=lr.mp (of_decide_eq_true h)
   have hnc:k∉C:=(dg.mp QY).2
   obtain⟨j1,j2⟩:=jo (lr.mpr QY)
   rw[if_neg hnc] at hp
   refine ao (gH 2 (bW ai) (kR 0 TC SO (bS (ae dU (ae (aa 3 rfl) aj))) rfl rfl j1 j2) rfl ix1 ix2 az ?_)
   rw[sl,wu QY]
   exact⟨as,pre,_,_,rfl,hp,by omega,by rw[IL];show _ + 1<=_;omega⟩
  ·have QY:k∉bq v p C:=λz=>of_decide_eq_false h (lr.mpr z)
   have Pq:k∈C:=(PX k (IQ hk)).resolve_left QY
   obtain⟨j1,j2⟩:=jo (AZ (v:=v) (p:=p) Pq)
   have ej:(((df v p C).idxOf (("end":Str),k):Nat):Int)=gI v p C k:=congrArg (λn:Nat=>(n:Int)) (tK (v:=v) (p:=p) Pq true)
   rw[if_pos Pq] at hp
   refine ah (gH 2 (bW ai) (kR 0 TC SO (bS (ae dU (ae (aa 3 rfl) aj))) rfl rfl j1 j2) rfl ix1 ix2 az ?_)
   rw[sl,ej]
   refine ah (mU 2 (aw (r:=af) aD (by decide)) rfl rfl (Ko (show _<=1000 by rw[IL];show _ + 1<=_;omega) (by decide)) λc=>?_)
   obtain⟨ix3,ix4⟩:=ixl (pre++[acc++[gI v p C k]]) []
   refine ao (bF (aK (Aa TC SO) (bS (ae dU (ae (aa 3 rfl) aj))) (aa 0 rfl)) (λh=>?_) (λh=>aW ?_))
   ·have O1:dst v k≠0:=(kW Pq).mp (of_decide_eq_true h)
    obtain⟨j3,j4⟩:=jo ((kW (v:=v) (p:=p) Pq).mpr O1)
    have ec:(((df v p C).idxOf (("begin":Str),k):Nat):Int)=cI v p C k:=congrArg (λn:Nat=>(n:Int)) (tK (v:=v) (p:=p) Pq false)
    rw[if_neg O1] at hp
    refine ao (gH 2 (bW ai) (kR 0 TC SO (bS (ae dU (ae (aa 3 rfl) aj))) rfl rfl j3 j4) rfl ix3 ix4 (by show 0 < K4;decide) ?_)
    rw[sl,ec]
    exact⟨_,pre++[acc++[gI v p C k]],_,_,rfl,by rw[Jv];exact hp,by rw[IL];show _ + 1<=_;omega,by show 1<=_;omega⟩
   ·have O1:dst v k=0:=Iw λz=>of_decide_eq_false h ((kW Pq).mpr z)
    rw[if_pos O1] at hp
    exact⟨_,pre++[acc++[gI v p C k]],[],_,rfl,by rw[Jv];exact hp,by rw[IL];show _ + 1<=_;omega,by show 0<=_;omega⟩
 ·rintro Γ ⟨as,pre,acc,v3,rfl,hp,pl,al⟩
  rw[J7,eG] at hp
  obtain⟨b1,b2⟩:=jR (v:=v) (p:=p) (C:=C) run []
  rw[← hp] at b1 b2
  refine ao (nV 2 rfl (aB (by omega)) (λxs hx=>aB (by have:=b2 xs hx;simp at this;omega)) ?_)
  exact hp
end
section
variable {C:Ib}{i:Nat}
theorem oN:∀(ns:Ib),ns≠[]->most ns∈ns/\∀a∈ns,a<=most ns
 | [],h=>absurd rfl h
 | [x],_=>by simp[most]
 | x::y::r,_=>by
   obtain⟨h1,h2⟩:=oN (y::r) (by simp)
   have e:most (x::y::r)=max x (most (y::r)):=rfl
   rw[e]
   refine⟨?_,λa ha=>?_⟩
   ·rcases Int.le_total x (most (y::r)) with h | h
    ·rw[Int.max_eq_right h];exact IK _ h1
    ·rw[Int.max_eq_left h];exact IT
   ·rcases IY.mp ha with rfl | ha
    ·exact Int.le_max_left _ _
    ·exact IA (h2 a ha) (Int.le_max_right _ _)
noncomputable def i7 (v:ay)(p:Int)(ns:Ib):Bool:=((ns.filter λ_=>true).map λn=>true&&(decide (0<=n)&&decide (n < N4 v p 0))).all id
theorem uT {h:Int->List (Int×Bool)}(h1:∀k,(h k).Nodup)(h2:∀k,∀x∈h k,x.1=k):C.Nodup->(C.flatMap h).Nodup:=by
 induction C with
 | nil=>intro _;exact J8
 | cons a C ih=>
   intro hn
   obtain⟨n1,n2⟩:=Jh.mp hn
   rw[JY,Ki]
   refine⟨h1 a,ih n2,λx hx y hy e=>?_⟩
   subst e
   obtain⟨c,hc,hy⟩:=JA.mp hy
   rw[← h2 a x hx,h2 c x hy] at n1
   exact n1 hc
theorem ui {v:ay}{p:Int}(hn:C.Nodup):(dG v p C).Nodup:=by
 rw[iO,Ki]
 refine⟨?_,?_,λx hx y hy e=>?_⟩
 ·have:(bq v p C).Nodup:=(d6 _).filter _
  exact List.Pairwise.map _ (λa b h e=>h (Prod.mk.inj e).1) this
 ·refine uT (λk=>?_) (λk x hx=>?_) hn
  ·split<;>simp
  ·rcases IS.mp hx with z | z
   ·split at z
    ·cases z
    ·rw[II.mp z]
   ·rw[II.mp z]
 ·subst e
  obtain⟨k,hk,e⟩:=Jf.mp hx
  obtain⟨c,hc,hy⟩:=JA.mp hy
  have:x.1=c:=by
   rcases IS.mp hy with z | z
   ·split at z
    ·cases z
    ·rw[II.mp z]
   ·rw[II.mp z]
  rw[← e] at this
  have this:k=c:=this
  rw[this] at hk
  exact(dg.mp hk).2 hc
theorem BA {α:Type} [BEq α] [LawfulBEq α]{l:List α}(hn:l.Nodup){x:α}(h:l[i]?=some x):l.idxOf x=i:=by
 obtain⟨j1,j2⟩:=jo (IQ h)
 have a:=(IG.mp h).1
 have b:=(IG.mp j1).1
 exact(JI hn).mp ((IG.mp j1).2.trans (IG.mp h).2.symm)
def kX (L:List (Int×Bool))(b:Bool)(G:Ij)(i:Nat):Prop:=∀k,aV G k=if(k,b)∈L.take i then some ((L.idxOf (k,b):Nat):Int) else none
theorem kX.put {L:List (Int×Bool)}(hn:L.Nodup){b:Bool}{G:Ij}(h:kX L b G i){k0:Int}(hx:L[i]?=some (k0,b)):kX L b (dO G k0 (i:Int)) (i + 1):=λk=>by
 have tk:L.take (i + 1)=L.take i++[(k0,b)]:=by rw[JD,hx];rfl
 rw[kj,tk]
 by_cases e:k=k0
 ·subst e
  rw[if_pos rfl,if_pos (IU _ (II.mpr rfl)),BA hn hx]
 ·rw[if_neg e,h k]
  have:(k,b)∈L.take i++[(k0,b)]↔(k,b)∈L.take i:=by
   rw[IS,II]
   exact⟨λz=>z.resolve_right λy=>e (Prod.mk.inj y).1,.inl⟩
  by_cases z:(k,b)∈L.take i
  ·rw[if_pos z,if_pos (this.mpr z)]
  ·rw[if_neg z,if_neg (λy=>z (this.mp y))]
theorem kX.skip {L:List (Int×Bool)}{b:Bool}{G:Ij}(h:kX L b G i){x:Int×Bool}(hx:L[i]?=some x)(hb:x.2≠b):kX L b G (i + 1):=λk=>by
 have tk:L.take (i + 1)=L.take i++[x]:=by rw[JD,hx];rfl
 rw[h k,tk]
 have:(k,b)∈L.take i++[x]↔(k,b)∈L.take i:=by
  rw[IS,II]
  exact⟨λz=>z.resolve_right λy=>hb (by rw[← y]),.inl⟩
 by_cases z:(k,b)∈L.take i
 ·rw[if_pos z,if_pos (this.mpr z)]
 ·rw[if_neg z,if_neg (λy=>z (this.mp y))]
theorem nS {v:ay}{p:Int}{C:Ib}:∀{run:Ib} {q:Int},bD v p q run=true->∀k∈run,k∈bq v p C∨k∈C
 | x::xs,q,h,k,hk=>by
   rw[bD,Io,fo] at h
   rcases IY.mp hk with rfl | hk
   ·have hx:=of_decide_eq_true h.1
    by_cases c:k∈C
    ·exact .inr c
    ·exact .inl (dg.mpr ⟨by rw[(c6.mp hx).2.2.2];exact hx,c⟩)
   ·exact nS h.2 k hk
theorem vk {v:ay}{p:Int}{k:Int}(hk:k∈C):(k,false)∈dG v p C↔dst v k≠0:=by
 constructor
 ·intro h
  obtain⟨y,hy,ey⟩:=lF h
  have:=IQ hy
  unfold cH at this
  rcases IS.mp this with z | z
  ·obtain⟨x,_,rfl⟩:=Jf.mp z
   exact absurd (Prod.mk.inj ey).2 (λh=>Iv h)
  ·obtain⟨c,_,z⟩:=JA.mp z
   unfold cC at z
   rcases IS.mp z with z | z
   ·split at z
    ·cases z
    ·rename_i hd
     rw[II.mp z] at ey
     have:=(Prod.mk.inj ey).1
     have this:c=k:=this
     rw[← this];exact hd
   ·rw[II.mp z] at ey
    exact absurd (Prod.mk.inj ey).2 (λh=>Iv h)
 ·exact mr hk
end
section
abbrev lY:Stmt:=top ud
abbrev zq:Ic:=["web","part","numbers","known","count","leaving"]
theorem ub:aF zq ["web","part","numbers"] (ag lY):=ND
def Gu:cf:=λK ps T=>∃(v:ay) (p:Int) (ns:Ib),ps=[⟨br,v⟩,⟨af,p⟩,⟨ak af,ns⟩]/\aY v/\0<=p/\p < (v.1.length:Int)/\dQ v.2 p.toNat/\ns.length<=3000/\i7 v p ns=true/\T=iF K (ak af) λL=>∃g,eE v p g/\L=ns.map (fR v p g 17 0)
theorem Ft (M:bR mg)(CI:ax P w K mg base "is_whole" 1 (aG qq K))(CT:ax P w K mg base "worths_in" 3 (aG zY K))(CN:ax P w K mg base "ways_on" 2 (aG qu K))(CL:ax P w K mg base "rows_leaving" 1 (aG (wV true) K))(CB:ax P w K mg base "way_by" 1 (aG Ha K))(F:bC K "ways_of" "ways_of" lY f fd)(hm:mg "ways_of"=some (.ref f))(hb:Binds K fd ["web","part","numbers"] []):ax P w K mg base "ways_of" 11 (aG Gu K):=by
 have nd:=ub.nd
 have OO:Jl [("number":Str),"count"]:=by decide
 have Pj:Jl [("number":Str),"known","leaving","web"]:=by decide
 have CI:=CI.mono (show 1<=10 by decide)
 have CT:=CT.mono (show 3<=10 by decide)
 have CN:=CN.mono (show 2<=10 by decide)
 have CL:=CL.mono (show 1<=10 by decide)
 have CB:=CB.mono (show 1<=10 by decide)
 obtain⟨t2,hB⟩:=M.begin_
 refine bM F ub hm hb (λqs T ⟨_,_,_,e,_⟩=>by rw[e];rfl) (λNl A outer s H E qs T hr hS=>?_)
 obtain⟨v,p,ns,rfl,hv,p0,p1,hR,hl,hc,rfl⟩:=hS
 have hu:(A.deeper (KP "ways_of" (ag lY) s.heap.objs.size f Nl)).units + 1 < cLine:=Ko (Ks (by decide:1<=64) _) hr.units
 have rl:=hv.rl
 have hs:=hv.sz (v.1.getD p.toNat 0) (by rw[IJ,IF (by omega)];exact Jb _)
 change WS _ _ [bB v,av p,bH ns,.no,.no,.no] _ _
 refine ah (lj 3 CT hr (ae (aa 0 rfl) (ae (aa 1 rfl) aj)) ⟨v,p,rfl,hv,p0,p1,hR,rfl⟩ ?_)
 rintro ws ⟨g,hE,rfl⟩ hz
 refine WS.freeze 3 rfl hz ?_
 refine ah (aO 4 (y:=N4 v p 0) (kI hu CN hr (ae (aa 0 rfl) (ae (aa 1 rfl) aj)) ⟨v,p,rfl,hv,p0,p1,hR,rfl⟩ (bV hB) (λF ⟨h1,h2⟩=>eL.get hv p0 p1 hR h1 h2 (by omega) (by omega))) ?_)
 refine ah (bF (cw (bE (EV.cast (y':=i7 v p ns) (fc M.all (aE.im (bK (own:=["number"]) (fr:=["count"]) (ix:=[4]) (ra:=af) (rb:=aX) (p:=λ_=>true) (f:=λn=>true&&(decide (0<=n)&&decide (n < N4 v p 0))) (bu (so:=ag lY) (N0:=zq) rfl rfl (λx h=>aU h) (by decide +kernel)) (aT (aa 2 rfl))
  (λC s H ex=>aI 0) (λx=>⟨.inr rfl,.inl rfl,trivial⟩) (λC s H ex x hx=>cg) (λC s H ex x hx h=>fz (bc CI hr (ae (aa 0 rfl) aj) ⟨x,rfl,rfl⟩) (λ_=>fG (f7 f6 dX ai (aa 0 rfl) (aa 1 rfl))))))) rfl))) (λh=>by rw[hc] at h;exact absurd h (by decide)) (λ_=>aW ?_))
 refine ah (aO 5 (aE.im (fD CL hr (ae (aa 0 rfl) (ae (aa 1 rfl) aj)) ⟨v,p,rfl,hv,p0,p1,rfl⟩)) ?_)
 have ok:∀x∈ns,0<=x/\x < g 0:=λx hx=>by
  unfold i7 at hc
  have:=all_map.mp hc x hx
  have:=Im.mp (by simpa using this:(decide (0<=x)&&decide (x < N4 v p 0))=true)
  have e:=hE.uniq hv p0 hR (iY hv p0 p1 hR) 0 (by decide) (by omega)
  rw[e]
  exact⟨of_decide_eq_true this.1,of_decide_eq_true this.2⟩
 refine ao (rX (bK (own:=["number"]) (fr:=["known","leaving","web"]) (ix:=[3,5,0]) (ra:=af) (rb:=ak af) (p:=λ_=>true) (f:=fR v p g 17 0) (bu (so:=ag lY) (N0:=zq) rfl rfl (λx h=>aU h) (by decide +kernel)) (aT (aa 2 rfl))
  (λC s H ex=>aI 0) (λx=>⟨.inr rfl,.inl rfl,.inl rfl,.inl rfl,trivial⟩) (λC s H ex x hx=>cg) (λC s H ex x hx h=>bc CB hr (ae (aa 3 rfl) (ae (aa 1 rfl) (ae (aa 2 rfl) (ae (aa 0 rfl) aj)))) ⟨v,p,g,x,rfl,hv,p0,p1,hR,hE,(ok x hx).1,(ok x hx).2,rfl⟩)) ⟨g,hE,?_⟩)
 rw[Jr.mpr (by simp)]
theorem y8 {v:ay}(hv:aY v){p:Int}(p0:0<=p)(p1:p < (v.1.length:Int))(hR:dQ v.2 p.toNat){g g':Int->Int}(h:eE v p g)(h':eE v p g'):∀(m:Nat) (q left:Int),fR v p g m q left=fR v p g' m q left:=by
 have e:=kA hv p0 p1 hR h h'
 have en:∀left,cV v p g left=cV v p g' left:=λleft=>by funext x;unfold cV;rw[e]
 intro m
 induction m with
 | zero=>intro q left;rfl
 | succ m ih=>
   intro q left
   unfold fR
   rw[en left]
   by_cases z:q=1
   ·rw[if_pos z,if_pos z]
   ·rw[if_neg z,if_neg z]
    have hw:bz v p g (most ((Ni v p q).filter (cV v p g' left)))=bz v p g' (most ((Ni v p q).filter (cV v p g' left))):=by
     generalize hmm:most ((Ni v p q).filter (cV v p g' left))=x
     by_cases b:0<=x/\x < (v.2.length:Int)
     ·rw[← fi b.1 b.2,← fi b.1 b.2,e]
     ·by_cases hn:(Ni v p q).filter (cV v p g' left)=[]
      ·rw[hn] at hmm
       have hx:x=most []:=hmm.symm
       exact absurd ⟨by rw[hx];decide,by rw[hx];have:=hv.rl;show(0:Int) < _;omega⟩ b
      ·have:=(oN _ hn).1
       rw[hmm] at this
       obtain⟨a1,a2,_⟩:=bO (IZ.mp this).1
       exact absurd ⟨a1,a2⟩ b
    rw[hw,ih]
abbrev xq:Stmt:=top wL
abbrev nFN:Ic:=["web","part","rows","going","coming","place","row","found","told","number"]
theorem DM:aF nFN ["web","part","rows"] (ag xq):=ND
def Gn:cf:=λK ps T=>∃(v:ay) (p:Int) (run:Ib),ps=[⟨br,v⟩,⟨af,p⟩,⟨ak af,run⟩]/\aY v/\0<=p/\p < (v.1.length:Int)/\run.length<=900/\(∀k∈run,k∈bq v p (Nk v p)∨k∈Nk v p)/\T=iF K (ak af) (· =eG v p (Nk v p) [] run)
theorem EZ (M:bR mg)(CY:ax P w K mg base "laid_out" 9 (aG wG K))(CC:ax P w K mg base "cuts" 8 (aG zC K))(F:bC K "fallen" "fallen" xq f fd)(hm:mg "fallen"=some (.ref f))(hb:Binds K fd ["web","part","rows"] []):ax P w K mg base "fallen" 10 (aG Gn K):=by
 have nd:=DM.nd
 have CC:=CC.mono (show 8<=9 by decide)
 refine bM F DM hm hb (λqs T ⟨_,_,_,e,_⟩=>by rw[e];rfl) (λNl A outer s H E qs T hr hS=>?_)
 obtain⟨v,p,run,rfl,hv,p0,p1,hl,PX,rfl⟩:=hS
 have hu:(A.deeper (KP "fallen" (ag xq) s.heap.objs.size f Nl)).units + 1 < cLine:=Ko (Ks (by decide:1<=64) _) hr.units
 have rl:=hv.rl
 obtain⟨lx,cx,g,hC,OP,hlen⟩:=gm hv p0 p1
 have ll:=oh (v:=v) (p:=p) rl.2 hlen
 have kn:=ui (v:=v) (p:=p) OP
 have kll:(dG v p (Nk v p)).length=(cH v p (Nk v p)).length:=IM _
 change WS _ _ [bB v,av p,bH run,.no,.no,.no,.no,.no,.no,.no] _ _
 refine ah (tQ 3 (ah (tQ 4 ?_)))
 refine ah (cB (r:=aP af gW) (λi Γ=>∃G1 G2 v5 v6,Γ=[bB v,av p,bH run,.di (cW G1),.di (cW G2),v5,v6,.no,.no,.no]/\kX (dG v p (Nk v p)) true G1 i/\kX (dG v p (Nk v p)) false G2 i/\G1.length<=i/\G2.length<=i)
  (jX M.enumerate (aE.im (fD CY hr (ae (aa 0 rfl) (ae (aa 1 rfl) aj)) ⟨v,p,rfl,hv,p0,p1,rfl⟩))) (gZ 5 6) ⟨[],[],_,_,rfl,λk=>by simp[aV],λk=>by simp[aV],Kp _,Kp _⟩ ?_ ?_)
 ·rintro i x Γ hx ⟨G1,G2,v5,v6,rfl,h1,h2,l1,l2⟩
  obtain⟨e1,e2⟩:=iT hx
  obtain⟨q,y⟩:=x
  have e1:q=(i:Int):=e1
  have e2:(cH v p (Nk v p))[i]?=some y:=e2
  subst e1
  have il:=(IG.mp e2).1
  have ek:(dG v p (Nk v p))[i]?=some (y.2.2.1,y.2.2.2):=by
   show((cH v p (Nk v p)).map λx:Lay=>(x.2.2.1,x.2.2.2))[i]?=_
   rw[Je,e2];rfl
  have pl:∀(G:Ij) (k z:Int),(dO G k z).length<=G.length + 1:=λG k z=>by
   unfold dO
   split
   ·rw[IM];omega
   ·rw[IL];show _ + 1<=_;omega
  refine ao (bF (bE (sY (aa 6 rfl))) (λh=>?_) (λh=>?_))
  ·have h:y.2.2.2=true:=h
   rw[h] at ek
   refine ao (kY 3 hu (oi (aa 6 rfl)) (aa 5 rfl) rfl (Ko (show G1.length<=1000 by omega) (by decide)) ?_)
   exact⟨dO G1 y.2.2.1 (i:Int),G2,_,_,rfl,h1.put kn ek,h2.skip ek (λh=>Iv h),by have:=pl G1 y.2.2.1 (i:Int);omega,by omega⟩
  ·have h:y.2.2.2=false:=h
   rw[h] at ek
   refine ao (kY 4 hu (oi (aa 6 rfl)) (aa 5 rfl) rfl (Ko (show G2.length<=1000 by omega) (by decide)) ?_)
   exact⟨G1,dO G2 y.2.2.1 (i:Int),_,_,rfl,h1.skip ek (λh=>Iv h),h2.put kn ek,by omega,by have:=pl G2 y.2.2.1 (i:Int);omega⟩
 rintro Γ ⟨G1,G2,v5,v6,rfl,h1,h2,_,_⟩
 rw[ee,← kll] at h1 h2
 have g1:∀k,aV G1 k=if(k,true)∈dG v p (Nk v p) then some (gI v p (Nk v p) k) else none:=λk=>by have:=h1 k;rw[Jz] at this;exact this
 have g2:∀k,aV G2 k=if(k,false)∈dG v p (Nk v p) then some (cI v p (Nk v p) k) else none:=λk=>by have:=h2 k;rw[Jz] at this;exact this
 refine ah (aO 7 (aE.im (la (ys:=Nk v p) CC hr (ae (aa 0 rfl) (ae (aa 1 rfl) aj)) ⟨v,p,rfl,hv,p0,p1,rfl⟩ λz hz=>by
  obtain⟨l,c,h,e⟩:=hz
  rw[← lL h,← e])) ?_)
 refine ah (rF 8 (r:=af) (aw aD (by decide)) λa b=>?_)
 generalize Nk v p=C at PX g1 g2 ⊢
 have ixl:∀(pre:List Ib) (acc:Ib),eR (pre++[acc]).length (-1)=some pre.length/\(pre++[acc])[pre.length]?=some acc:=λpre acc=>by
  refine⟨by rw[IL];exact sy,by rw[Jg (Kp _),Kz];rfl⟩
 have sl:∀(pre:List Ib) (acc y:Ib),(pre++[acc]).set pre.length y=pre++[y]:=λpre acc y=>by
  rw[List.set_append_right _ _ (Kp _),Kz];rfl
 refine ah (cB (r:=af) (λi Γ=>∃as pre acc v9,Γ=[bB v,av p,bH run,.di (cW G1),.di (cW G2),v5,v6,bH C,.ob (eK af a as (pre++[acc])),v9]/\pre++eG v p C acc (run.drop i)=eG v p C [] run/\pre.length<=i/\acc.length<=i + 1) (aT (aa 2 rfl)) (aI 9) ⟨[b],[],[],_,rfl,rfl,Kp _,by simp⟩ ?_ ?_)
 ·rintro i k Γ hk ⟨as,pre,acc,v9,rfl,hp,pl,al⟩
  have il:=(IG.mp hk).1
  have hd:run.drop i=k::run.drop (i + 1):=by
   obtain⟨h1,h2⟩:=IG.mp hk
   rw[JF h1,h2]
  rw[hd,eG] at hp
  obtain⟨ix1,ix2⟩:=ixl pre acc
  have az:acc.length < K4:=Ko (show acc.length<=1000 by omega) (by decide)
  have hkk:(k,true)∈dG v p C:=(PX k (IQ hk)).elim rN tT
  have gg:aV G1 k=some (gI v p C k):=by rw[g1,if_pos hkk]
  refine ah (gH 8 (bW ai) (lE 3 hu (aa 9 rfl) rfl gg) rfl ix1 ix2 az ?_)
  rw[sl]
  refine ao (bF (aK yz (aa 9 rfl) (aa 7 rfl)) (λh=>?_) (λh=>aW ?_))
  ·have Pq:k∈C:=of_decide_eq_true h
   rw[if_pos Pq] at hp
   have gc:dst v k≠0->aV G2 k=some (cI v p C k):=λz=>by rw[g2,if_pos (mr Pq z)]
   refine ao (mU 8 (r:=af) (Γ1:=[bB v,av p,bH run,.di (cW G1),.di (cW G2),v5,v6,bH C,.ob (eK af a as (pre++[acc++[gI v p C k]])),av k]) (ys:=if dst v k=0 then[] else[cI v p C k]) (Di (jL 4 false hu (aa 9 rfl) rfl) (λh=>?t1) (λh=>?t2)) rfl rfl (Ko (show _<=1000 by rw[IL];show _ + 1<=_;omega) (by decide)) λc=>?t3)
   case t1=>
    have h:(aV G2 k).isSome=true:=by rw[← eW];exact h
    have O1:dst v k≠0:=by
     rw[g2] at h
     by_cases z:(k,false)∈dG v p C
     ·exact(vk Pq).mp z
     ·rw[if_neg z] at h;cases h
    rw[if_neg O1]
    exact aw (au (lE 4 hu (aa 9 rfl) rfl (gc O1)) aD) (by show 1<=K4;decide)
   case t2=>
    have h:(aV G2 k).isSome=false:=by rw[← eW];exact h
    have O1:dst v k=0:=Iw λz=>by rw[gc z] at h;cases h
    rw[if_pos O1]
    exact aw aD (by decide)
   case t3=>
    have l1:(if dst v k=0 then([]:Ib) else[cI v p C k]).length<=1:=by split<;>simp
    exact⟨_,pre++[acc++[gI v p C k]],_,_,rfl,by rw[Jv];exact hp,by rw[IL];show _ + 1<=_;omega,by omega⟩
  ·have Pq:k∉C:=of_decide_eq_false h
   rw[if_neg Pq] at hp
   exact⟨as,pre,_,_,rfl,hp,by omega,by rw[IL];show _ + 1<=_;omega⟩
 ·rintro Γ ⟨as,pre,acc,v9,rfl,hp,pl,al⟩
  rw[J7,eG] at hp
  obtain⟨b1,b2⟩:=jR (v:=v) (p:=p) (C:=C) run []
  rw[← hp] at b1 b2
  exact ao (nV 8 rfl (aB (by omega)) (λxs hx=>aB (by have:=b2 xs hx;simp at this;omega)) hp)
end
noncomputable abbrev cF (v:ay)(p:Int):ay:=fu v p (Nk v p)
noncomputable def ef (v:ay)(p:Int)(w:Ib):Int:=(w.map λk=>(cz (cF v p) 0 (N4 (cF v p) 0)).getD k.toNat 0).sum
noncomputable def Bw (v:ay)(p:Int)(run:Ib):Ib:=(eG v p (Nk v p) [] run).map (ef v p)
theorem jW {v:ay}(hv:aY v)(hle:v.2.length<=30){p:Int}(p0:0<=p)(p1:p < (v.1.length:Int)):aY (cF v p)/\dQ (cF v p).2 (0:Int).toNat:=by
 obtain⟨lx,cx,g,hC,OP,hlen⟩:=gm hv p0 p1
 exact⟨AM hv hle p0 p1 g hC OP,xY hv p0 p1 g hC⟩
theorem n5 {v:ay}{p:Int}{run:Ib}(h:bD v p 0 run=true):∀w∈eG v p (Nk v p) [] run,bD (cF v p) 0 0 w=true:=lQ run [] 0 h λ_=>rfl
section
abbrev pf:Stmt:=top qd
abbrev B1:Ic:=["web","part","rows","known"]
theorem ou:aF B1 ["web","part","rows"] (ag pf):=ND
def Gs:cf:=λK ps T=>∃(v:ay) (p:Int) (run:Ib),ps=[⟨br,v⟩,⟨af,p⟩,⟨ak af,run⟩]/\aY v/\v.2.length<=30/\0<=p/\p < (v.1.length:Int)/\run.length<=900/\bD v p 0 run=true/\T=iF K af (· =Bw v p run)
theorem F3 (M:bR mg)(CP:ax P w K mg base "need_part" 7 (aG zo K))(CL:ax P w K mg base "leads_through" 4 (aG DA K))(CW:ax P w K mg base "stretch_web" 10 (aG (vM true) K))(CT:ax P w K mg base "worths_in" 3 (aG zY K))(CF:ax P w K mg base "fallen" 10 (aG Gn K))(F:bC K "stretches" "stretches" pf f fd)(hm:mg "stretches"=some (.ref f))(hb:Binds K fd ["web","part","rows"] []):ax P w K mg base "stretches" 11 (aG Gs K):=by
 have nd:=ou.nd
 have OO:Jl [("way":Str),"known"]:=by decide
 have Pj:Jl [("place":Str),"known"]:=by decide
 have CP:=CP.mono (show 7<=10 by decide)
 have CL:=CL.mono (show 4<=10 by decide)
 have CT:=CT.mono (show 3<=10 by decide)
 obtain⟨t1,QI⟩:=M.NL
 refine bM F ou hm hb (λqs T ⟨_,_,_,e,_⟩=>by rw[e];rfl) (λNl A outer s H E qs T hr hS=>?_)
 obtain⟨v,p,run,rfl,hv,hle,p0,p1,hl,hc,rfl⟩:=hS
 obtain⟨hW,hR⟩:=jW hv hle p0 p1
 have W1:(0:Int) < ((cF v p).1.length:Int):=by show(0:Int) < ((1:Nat):Int);decide
 change WS _ _ [bB v,av p,bH run,.no] _ _
 refine ah (jN CP hr (ae (aa 0 rfl) (ae (aa 1 rfl) aj)) ⟨v,p,rfl,hv,p0,p1,rfl⟩ ?_)
 refine ah (bF (cw (bE (bc CL hr (ae (aa 0 rfl) (ae (aa 1 rfl) (ae (aa 2 rfl) aj))) ⟨v,p,run,rfl,by omega,rfl⟩))) (λh=>by rw[hc] at h;exact absurd h (by decide)) (λ_=>aW ?_))
 refine ah (lj 3 CT hr (ae (bc CW hr (ae (aa 0 rfl) (ae (aa 1 rfl) aj)) ⟨v,p,rfl,hv,p0,p1,rfl⟩) (ae (bV QI) aj)) ⟨cF v p,0,rfl,hW,by decide,W1,hR,rfl⟩ ?_)
 rintro ws ⟨g,hE,rfl⟩ hz
 rw[kA hW (by decide) W1 hR hE (iY hW (by decide) W1 hR)] at hz ⊢
 have wl:(cz (cF v p) 0 (N4 (cF v p) 0)).length=(cF v p).2.length:=by unfold cz;rw[IM,aC]
 refine WS.freeze 3 rfl hz ?_
 refine ao (rX (bK (own:=["way"]) (fr:=["known"]) (ix:=[3]) (ra:=ak af) (rb:=af) (p:=λ_=>true) (f:=λw=>((w.filter λ_=>true).map λk=>(cz (cF v p) 0 (N4 (cF v p) 0)).getD k.toNat 0).sum) (bu (so:=ag pf) (N0:=B1) rfl rfl (λx h=>aU h) (by decide +kernel)) (aT (aE.im (fD CF hr (ae (aa 0 rfl) (ae (aa 1 rfl) (ae (aa 2 rfl) aj))) ⟨v,p,run,rfl,hv,p0,p1,hl,nS hc,rfl⟩)))
  (λC s H ex=>aI 0) (λx=>⟨.inr rfl,.inl rfl,trivial⟩) (λC s H ex x hx=>cg) (λC s H ex x hx h=>ny M.sum (aE.im (bK (own:=["place"]) (fr:=["known"]) (ix:=[1]) (ra:=af) (rb:=af) (p:=λ_=>true) (f:=λk=>(cz (cF v p) 0 (N4 (cF v p) 0)).getD k.toNat 0) (bu (so:=_) (N0:=_) rfl rfl (λx h=>uP (own:=["way"]) (fr:=["known"]) (ix:=[3]) (bu (so:=ag pf) (N0:=B1) rfl rfl (λx h=>aU h) (by decide +kernel)) x h) (by trivial)) (aT (aa 0 rfl))
   (λC s H ex=>aI 0) (λx=>⟨.inr rfl,.inl rfl,trivial⟩) (λC s H ex x hx=>cg) (λC s H ex k hk _=>aN (aa 1 rfl) (aa 0 rfl) (by have:=iW (n5 hc x hx) k hk;exact bY this.1 (by omega))))))) ?_)
 rw[Jr.mpr (by simp)]
 unfold Bw
 refine Jx λx _=>?_
 show _=ef v p x
 unfold ef
 rw[Jr.mpr (by simp)]
end
@[reducible] instance decWL:DecidableEq ((Ib×List Row) ⊕ Ib):=@instDecidableEqSum (Ib×List Row) Ib inferInstance inferInstance
def xQ (v:ay)(p:Int)(C:Ib)(j:Int):Ib:=match (cH v p C)[j.toNat]? with
 | some y=>if y.2.2.2=true then[y.2.2.1] else[]
 | none=>[]
def tF (v:ay)(p:Int)(C:Ib)(L:List Ib):Ib:=L.flatten.flatMap (xQ v p C)
def tallyK (n:Nat)(ks:Ib):Ib:=(ups 0 n).map λk=>((ks.countP λy=>decide (y=k):Nat):Int)
theorem gy (n:Nat)(ks:Ib):(tallyK n ks).length=n:=by unfold tallyK;rw[IM,aC]
theorem mm {n:Nat}{ks:Ib}{i:Nat}(h:i < n):(tallyK n ks)[i]?=some ((ks.countP λy=>decide (y=(i:Int)):Nat):Int):=by
 unfold tallyK
 have:(ups 0 n)[i]?=some (i:Int):=by unfold ups;rw[Je,JZ h];simp
 rw[Je,this];rfl
theorem xR (n:Nat):Jd n (0:Int)=tallyK n []:=by
 unfold tallyK
 show _=(ups 0 n).map λ_=>(0:Int)
 rw[List.map_const',aC]
theorem uF {n:Nat}{ks:Ib}{k:Int}(k0:0<=k)(k1:k < (n:Int)):(tallyK n ks).set k.toNat ((tallyK n ks).getD k.toNat 0 + 1)=tallyK n (ks++[k]):=by
 refine JP λi=>?_
 by_cases h:i < n
 ·rw[mm h,getElem?_set,gy,IJ,mm (by omega),List.countP_append]
  by_cases e:k.toNat=i
  ·have e2:k=(i:Int):=by omega
   rw[if_pos e,if_pos (by omega)]
   subst e
   rw[show((k.toNat:Nat):Int)=k by omega]
   simp
  ·have e2:¬k=(i:Int):=by omega
   rw[if_neg e,mm h]
   simp[e2]
 ·rw[Ju (by rw[Jp,gy];omega),Ju (by rw[gy];omega)]
theorem yG (v:ay)(p:Int)(C:Ib)(L:List Ib)(w:Ib):tF v p C (L++[w])=tF v p C L++w.flatMap (xQ v p C):=by
 unfold tF;rw[List.flatten_append,JQ];simp
theorem yr {v:ay}(hv:aY v)(hle:v.2.length<=30){p:Int}(p0:0<=p)(p1:p < (v.1.length:Int)){w:Ib}(ht:bD (cF v p) 0 0 w=true):0<=ef v p w/\ef v p w < N4 (cF v p) 0 0/\fR (cF v p) 0 (N4 (cF v p) 0) 17 0 (ef v p w)=w:=by
 obtain⟨hW,hR⟩:=jW hv hle p0 p1
 have W1:(0:Int) < ((cF v p).1.length:Int):=by show(0:Int) < ((1:Nat):Int);decide
 have hE:=iY hW (by decide) W1 hR
 have hs:=hW.sz ((cF v p).1.getD (0:Int).toNat 0) (by rw[IJ,IF (by show 0 < 1;decide)];exact Jb _)
 have e:ef v p w=(w.map (bz (cF v p) 0 (N4 (cF v p) 0))).sum:=by
  unfold ef
  congr 1
  exact Jx λk hk=>fi (iW ht k hk).1 (iW ht k hk).2
 have:=sD hW (by decide) hR hE w 17 0 (Nat.lt_succ_of_le (xC _ _)) (by decide) (by omega) ht
 rw[e]
 exact this
theorem Bd {v:ay}(hv:aY v){p:Int}(p0:0<=p)(p1:p < (v.1.length:Int)){y:Lay}(hy:y∈cH v p (Nk v p)):0<=y.2.2.1/\y.2.2.1 < (v.2.length:Int):=by
 unfold cH at hy
 rcases IS.mp hy with z | z
 ·obtain⟨k,hk,rfl⟩:=Jf.mp z
  have:=c6.mp (dg.mp hk).1
  exact⟨this.1,this.2.1⟩
 ·obtain⟨k,hk,z⟩:=JA.mp z
  have:=nP hv p0 p1 hk
  unfold cC at z
  rcases IS.mp z with z | z
  ·split at z
   ·cases z
   ·rw[II.mp z];exact this
  ·rw[II.mp z];exact this
section
abbrev sE:Stmt:=top qM
abbrev nCB:Ic:=["web","part","numbers","layout","told","way","place"]
theorem nU:aF nCB ["web","part","numbers"] (ag sE):=ND
def Gm:cf:=λK ps T=>∃(v:ay) (p:Int) (L:List Ib),ps=[⟨br,v⟩,⟨af,p⟩,⟨ak af,L.map (ef v p)⟩]/\aY v/\v.2.length<=30/\0<=p/\p < (v.1.length:Int)/\L.length<=3000/\(∀x∈L,bD (cF v p) 0 0 x=true)/\T=iF K af (· =tallyK v.2.length (tF v p (Nk v p) L))
theorem EF (M:bR mg)(CY:ax P w K mg base "laid_out" 9 (aG wG K))(CW:ax P w K mg base "stretch_web" 10 (aG (vM true) K))(CS:ax P w K mg base "ways_of" 11 (aG Gu K))(F:bC K "counts_by" "counts_by" sE f fd)(hm:mg "counts_by"=some (.ref f))(hb:Binds K fd ["web","part","numbers"] []):ax P w K mg base "counts_by" 12 (aG Gm K):=by
 have nd:=nU.nd
 have CY:=CY.mono (show 9<=11 by decide)
 have CW:=CW.mono (show 10<=11 by decide)
 obtain⟨t1,QI⟩:=M.NL
 refine bM F nU hm hb (λqs T ⟨_,_,_,e,_⟩=>by rw[e];rfl) (λNl A outer s H E qs T hr hS=>?_)
 obtain⟨v,p,L,rfl,hv,hle,p0,p1,hl,hc,rfl⟩:=hS
 obtain⟨hW,hR⟩:=jW hv hle p0 p1
 have W1:(0:Int) < ((cF v p).1.length:Int):=by show(0:Int) < ((1:Nat):Int);decide
 have wb:=λx hx=>yr hv hle p0 p1 (hc x hx)
 have sl:(cF v p).2.length=(cH v p (Nk v p)).length:=by show(dz v p (Nk v p)).length=_;unfold dz;rw[IM]
 change WS _ _ [bB v,av p,bH (L.map (ef v p)),.no,.no,.no,.no] _ _
 refine ah (aO 3 (aE.im (fD CY hr (ae (aa 0 rfl) (ae (aa 1 rfl) aj)) ⟨v,p,rfl,hv,p0,p1,rfl⟩)) ?_)
 refine ah (cL 4 (r:=af) (iP (aE.im (aw (au ai aD) (by show 1<=K4;decide))) (cK M.len (a9 (aa 0 rfl))) (by omega) (by omega) (aB (by simp;omega))) ?_)
 rw[rep0,show((v.2.length:Int)).toNat=v.2.length by omega,xR]
 refine ah (cB (r:=ak af) (λi Γ=>∃v5 v6,Γ=[bB v,av p,bH (L.map (ef v p)),.im (ak gW) (cH v p (Nk v p)),.mu af (tallyK v.2.length (tF v p (Nk v p) (L.take i))),v5,v6])
  (aT (aE.im (la (ys:=L) CS hr (ae (bc CW hr (ae (aa 0 rfl) (ae (aa 1 rfl) aj)) ⟨v,p,rfl,hv,p0,p1,rfl⟩) (ae (bV QI) (ae (aa 2 rfl) aj))) ⟨cF v p,0,L.map (ef v p),rfl,hW,by decide,W1,hR,by rw[IM];exact hl,?nos,rfl⟩ ?ws))) (aI 5) ⟨_,_,by rw[take_zero];rfl⟩ ?_ ?_)
 case nos=>
  unfold i7
  refine all_map.mpr λn hn=>?_
  obtain⟨x,hx,rfl⟩:=Jf.mp hn
  simp[(wb x hx).1,(wb x hx).2.1]
 case ws=>
  rintro z ⟨g,hE,rfl⟩
  rw[JO]
  refine(Jx (g:=id) λx hx=>?_).trans (map_id _)
  show fR (cF v p) 0 g 17 0 (ef v p x)=x
  rw[y8 hW (by decide) W1 hR hE (iY hW (by decide) W1 hR)]
  exact(wb x hx).2.2
 ·rintro i x Γ hx ⟨v5,v6,rfl⟩
  have ht:=hc x (IQ hx)
  have tk:L.take (i + 1)=L.take i++[x]:=by rw[JD,hx];rfl
  refine ao (cB (r:=af) (λj Γ=>∃v6,Γ=[bB v,av p,bH (L.map (ef v p)),.im (ak gW) (cH v p (Nk v p)),.mu af (tallyK v.2.length (tF v p (Nk v p) (L.take i)++(x.take j).flatMap (xQ v p (Nk v p)))),bH x,v6])
   (aT (aa 5 rfl)) (aI 6) ⟨_,by rw[take_zero,flatMap_nil,Jj];rfl⟩ ?_ ?_)
  ·rintro j k Γ hk ⟨v6,rfl⟩
   have kb:=iW ht k (IQ hk)
   have tj:x.take (j + 1)=x.take j++[k]:=by rw[JD,hk];rfl
   have kl:k.toNat < (cH v p (Nk v p)).length:=by omega
   obtain⟨y,hy⟩:∃y,(cH v p (Nk v p))[k.toNat]?=some y:=⟨_,IF kl⟩
   have RJ:cS (cH v p (Nk v p)) k=some y:=by rw[fX kb.1 (by omega)];exact hy
   have eg:xQ v p (Nk v p) k=if y.2.2.2=true then[y.2.2.1] else[]:=by unfold xQ;rw[hy]
   have yb:=Bd hv p0 p1 (IQ hy)
   refine ao (bF (bE (sY (aN (aa 3 rfl) (aa 6 rfl) RJ))) (λh=>?_) (λh=>aW ?_))
   ·have h:y.2.2.2=true:=h
    rw[if_pos h] at eg
    refine ao (yo 4 (oi (aN (aa 3 rfl) (aa 6 rfl) RJ)) ai rfl yb.1 (eP yb.1 (by rw[gy];exact yb.2)) (bY yb.1 (by rw[gy];exact yb.2)) ?_)
    refine⟨av k,?_⟩
    rw[tj,JQ,List.flatMap_singleton,eg,← Jv,← uF yb.1 yb.2]
    rfl
   ·have h:y.2.2.2=false:=h
    rw[if_neg (by rw[h];decide)] at eg
    refine⟨av k,?_⟩
    rw[tj,JQ,List.flatMap_singleton,eg,Jj]
    rfl
  ·rintro Γ ⟨v6,rfl⟩
   refine⟨bH x,v6,?_⟩
   rw[tk,yG,Jz]
 ·rintro Γ ⟨v5,v6,rfl⟩
  refine ao (nQ 4 rfl ?_ ?_)
  ·rw[gy];exact aB (by omega)
  ·rw[Jz]
end
section
variable {C:Addr}{n:Nat}
def gP (Q:ay->Int->Prop)(C:Addr)(n:Nat):iE:=λK ps o=>∃(v:ay) (p:Int) (qs:List Pk),ps=⟨br,v⟩::⟨af,p⟩::qs/\qs.length=n/\Q v p/\o= .exc (.ref C)
theorem ji {Q:ay->Int->Prop}(qs:List Pk)(T:RT):¬gP Q C n K qs (.ret T):=λ⟨_,_,_,_,_,_,h⟩=>by cases h
theorem gX {Q:ay->Int->Prop}{m:Nat}(e:m=n + 2)(qs:List Pk)(o:Out):gP Q C n K qs o->qs.length=m:=λ⟨_,_,_,h,l,_⟩=>by rw[h,I0,I0,l,e]
def zy (C:Addr)(n:Nat):iE:=λK ps o=>∃(v:ay) (qs:List Pk),ps=⟨br,v⟩::qs/\qs.length=n/\v.1.length<=1000/\v.2.length<=1000/\fA v=false/\o= .exc (.ref C)
theorem Du (qs:List Pk)(T:RT):¬zy C n K qs (.ret T):=λ⟨_,_,_,_,_,_,_,h⟩=>by cases h
theorem Au {m:Nat}(e:m=n + 1)(qs:List Pk)(o:Out):zy C n K qs o->qs.length=m:=λ⟨_,_,h,l,_⟩=>by rw[h,I0,l,e]
def zL (v:ay)(_:Int):Prop:=v.1.length<=1000/\v.2.length<=1000/\fA v=false
end
section
variable {C:Addr}{Q:ay->Int->Prop}
def zw (v:ay)(p:Int):Prop:=aY v/\(decide (0<=p)&&decide (p < (v.1.length:Int)))=false
def Eo:cf:=λK ps T=>∃(v:ay) (p:Int),ps=[⟨br,v⟩,⟨af,p⟩]/\T=bL K aX (· =(decide (0<=p)&&decide (p < (v.1.length:Int))))
theorem Ek (M:bR mg)(CI:ax P w K mg base "is_whole" 1 (aG qq K))(F:bC K "is_part" "is_part" wX f fd)(hm:mg "is_part"=some (.ref f))(hb:Binds K fd ["web","part"] []):ax P w K mg base "is_part" 2 (aG Eo K):=by
 have nd:=uW.nd
 refine bM F uW hm hb (λqs T ⟨_,_,e,_⟩=>by rw[e];rfl) (λNl A outer s H E qs T hr hS=>?_)
 obtain⟨v,p,rfl,rfl⟩:=hS
 change WS _ _ [bB v,av p] _ _
 exact ao (bT (fz (bc CI hr (ae (aa 1 rfl) aj) ⟨p,rfl,rfl⟩) (λ_=>fG (f7 f6 dX ai (aa 1 rfl) (cK M.len (c8 (aa 0 rfl)))))) (Bool.true_and _))
theorem BF (hC:lh K mg "NoWay" C)(CN:ax P w K mg base "need_web" 6 (aG Cu K))(CP:ax P w K mg base "is_part" 2 (aG Eo K))(F:bC K "need_part" "need_part" sV f fd)(hm:mg "need_part"=some (.ref f))(hb:Binds K fd ["web","part"] []):cn P w K mg base "need_part" 7 (de (gP zw C 0) K):=by
 have nd:=oB.nd
 have CP:=CP.mono (show 2<=6 by decide)
 refine d8 F oB hm hb (gX rfl) ji (λNl A outer s H R E qs c hr hS q=>?_)
 obtain⟨v,p,PJ,rfl,hl,hq,e⟩:=hS
 cases e
 cases JL.mp hl
 change RS _ H R _ [.im br v,av p]
 refine gY (N1:=λΓ=>Γ=[.im br v,av p]) (jN CN hr (ae (aa 0 rfl) aj) ⟨v,rfl,hq.1,rfl⟩ rfl) λΓ' e=>?_
 subst e
 exact nB (TV.cast (cw (bE (bc CP hr (ae (aa 0 rfl) (ae (aa 1 rfl) aj)) ⟨v,p,rfl,rfl⟩))) (by rw[hq.2];rfl)) (kG hC q)
abbrev BM:Stmt:=top lZ
theorem FY:aF ["web"] ["web"] (ag BM):=ND
theorem Em (hC:lh K mg "NoWeb" C)(CW:ax P w K mg base "is_web" 5 (aG Cp K))(F:bC K "need_web" "need_web" BM f fd)(hm:mg "need_web"=some (.ref f))(hb:Binds K fd ["web"] []):cn P w K mg base "need_web" 6 (de (zy C 0) K):=by
 refine d8 F FY hm hb (Au rfl) Du (λNl A outer s H R E qs c hr hS q=>?_)
 obtain⟨v,PJ,rfl,hl,l1,l2,hw,e⟩:=hS
 cases e
 cases JL.mp hl
 change RS _ H R _ [.im br v]
 exact nB (TV.cast (cw (bE (bc CW hr (ae (aa 0 rfl) aj) ⟨v,rfl,l1,l2,rfl⟩))) (by rw[hw];rfl)) (kG hC q)
theorem BO (CW:cn P w K mg base "need_web" 6 (de (zy C 0) K))(F:bC K "need_part" "need_part" sV f fd)(hm:mg "need_part"=some (.ref f))(hb:Binds K fd ["web","part"] []):cn P w K mg base "need_part" 7 (de (gP zL C 0) K):=by
 have nd:=oB.nd
 refine d8 F oB hm hb (gX rfl) ji (λNl A outer s H R E qs c hr hS q=>?_)
 obtain⟨v,p,PJ,rfl,hl,hq,e⟩:=hS
 cases e
 cases JL.mp hl
 change RS _ H R _ [.im br v,av p]
 exact fN (dM CW hr (ae (aa 0 rfl) aj) ⟨v,[],rfl,rfl,hq.1,hq.2.1,hq.2.2,rfl⟩ q)
abbrev z5:Stmt:=top rL
abbrev nGO:Ic:=["_law_web_here","_law_part_here","_law_rows","_law_here","_law_k"]
theorem C0:aF nGO ["_law_web_here","_law_part_here","_law_rows"] (ag z5):=ND
def GR:cf:=λK ps T=>∃(v:ay) (p:Int) (xs:Ib),ps=[⟨br,v⟩,⟨af,p⟩,⟨ak af,xs⟩]/\v.2.length<=60/\xs.length<=1000/\T=bL K aX (· =bD v p 0 xs)
theorem Fy (CF:ax P w K mg base "_law_from" 1 (aG tP K))(F:bC K "_law_goes" "_law_goes" z5 f fd)(hm:mg "_law_goes"=some (.ref f))(hb:Binds K fd ["_law_web_here","_law_part_here","_law_rows"] []):ax P w K mg base "_law_goes" 2 (aG GR K):=by
 have nd:=C0.nd
 refine bM F C0 hm hb (λqs T ⟨_,_,_,e,_⟩=>by rw[e];rfl) (λNl A outer s H E qs T hr hS=>?_)
 obtain⟨v,p,xs,rfl,rl,hl,rfl⟩:=hS
 change WS _ _ [bB v,av p,bH xs,.no,.no] _ _
 refine ah (aO 3 ai ?_)
 refine ah (cB (r:=af) (λi Γ=>∃q v4,Γ=[bB v,av p,bH xs,av q,v4]/\bD v p 0 xs=bD v p q (xs.drop i)) (aT (aa 2 rfl)) (aI 4) ⟨0,_,rfl,rfl⟩ ?_ ?_)
 ·rintro i k Γ hk ⟨q,v4,rfl,hc⟩
  have hd:xs.drop i=k::xs.drop (i + 1):=by
   obtain⟨h1,h2⟩:=IG.mp hk
   rw[JF h1,h2]
  rw[hd,bD,fo] at hc
  refine ah (bF (aK lO (aa 4 rfl) (bc CF hr (ae (aa 0 rfl) (ae (aa 1 rfl) (ae (aa 3 rfl) aj))) ⟨v,p,q,rfl,rl,rfl⟩)) (λh=>?_) (λh=>aW ?_))
  ·have h:decide (k∈Ni v p q)=false:=by simpa using h
   refine ao (bT dC ?_)
   rw[hc,h];rfl
  ·have h:decide (k∈Ni v p q)=true:=by simpa using h
   obtain⟨k0,k1,_⟩:=bO (of_decide_eq_true h)
   refine ao (aO 3 (y:=bh v k) (ck (aN (y:=rowOf v k) (a9 (aa 0 rfl)) (aa 4 rfl) (cA cq k0 k1))) ?_)
   exact⟨bh v k,_,rfl,by rw[hc,h];rfl⟩
 ·rintro Γ ⟨q,v4,rfl,hc⟩
  rw[J7] at hc
  refine ao (bT (fF cT (aa 3 rfl) ai) ?_)
  rw[hc,bD]
variable {Q:ay->Int->Prop}
theorem xr (CC:cn P w K mg base "need_part" 7 (de (gP Q C 0) K))(F:bC K "cuts" "cuts" vp f fd)(hm:mg "cuts"=some (.ref f))(hb:Binds K fd ["web","part"] []):cn P w K mg base "cuts" 8 (de (gP Q C 0) K):=by
 have nd:=uU.nd
 refine d8 F uU hm hb (gX rfl) ji (λNl A outer s H R E qs c hr hS q=>?_)
 obtain⟨v,p,PJ,rfl,hl,hq,e⟩:=hS
 cases e
 cases JL.mp hl
 change RS _ H R _ [.im br v,av p,.no,.no,.no,.no,.no]
 exact fN (dM CC hr (ae (aa 0 rfl) (ae (aa 1 rfl) aj)) ⟨v,p,[],rfl,rfl,hq,rfl⟩ q)
theorem xU (CC:cn P w K mg base "cuts" 8 (de (gP Q C 0) K))(F:bC K "laid_out" "laid_out" rH f fd)(hm:mg "laid_out"=some (.ref f))(hb:Binds K fd ["web","part"] []):cn P w K mg base "laid_out" 9 (de (gP Q C 0) K):=by
 have nd:=ug.nd
 refine d8 F ug hm hb (gX rfl) ji (λNl A outer s H R E qs c hr hS q=>?_)
 obtain⟨v,p,PJ,rfl,hl,hq,e⟩:=hS
 cases e
 cases JL.mp hl
 change RS _ H R _ [.im br v,av p,.no,.no,.no,.no]
 exact w9 2 (dM CC hr (ae (aa 0 rfl) (ae (aa 1 rfl) aj)) ⟨v,p,[],rfl,rfl,hq,rfl⟩ q)
theorem xy (CC:cn P w K mg base "laid_out" 9 (de (gP Q C 0) K))(F:bC K "stretch_web" "stretch_web" qf f fd)(hm:mg "stretch_web"=some (.ref f))(hb:Binds K fd ["web","part"] []):cn P w K mg base "stretch_web" 10 (de (gP Q C 0) K):=by
 have nd:=vb.nd
 refine d8 F vb hm hb (gX rfl) ji (λNl A outer s H R E qs c hr hS q=>?_)
 obtain⟨v,p,PJ,rfl,hl,hq,e⟩:=hS
 cases e
 cases JL.mp hl
 change RS _ H R _ [.im br v,av p,.no]
 exact Aw 2 (own:=["start","to","number","goes"]) (fr:=[]) (ix:=[]) (bu (so:=ag qf) (N0:=Df) rfl rfl (λx h=>aU h) (by decide +kernel)) (dM CC hr (ae (aa 0 rfl) (ae (aa 1 rfl) aj)) ⟨v,p,[],rfl,rfl,hq,rfl⟩ q)
theorem vT (CC:cn P w K mg base "need_part" 7 (de (gP Q C 0) K))(F:bC K "stretches" "stretches" pf f fd)(hm:mg "stretches"=some (.ref f))(hb:Binds K fd ["web","part","rows"] []):cn P w K mg base "stretches" 11 (de (gP Q C 1) K):=by
 have CC:=CC.mono (show 7<=10 by decide)
 have nd:=ou.nd
 refine d8 F ou hm hb (gX rfl) ji (λNl A outer s H R E qs c hr hS q=>?_)
 obtain⟨v,p,PJ,rfl,hl,hq,e⟩:=hS
 cases e
 obtain⟨q1,rfl⟩:∃q1,PJ=[q1]:=by
  match PJ,hl with
  | [q1],_=>exact⟨q1,rfl⟩
 change RS _ H R _ [.im br v,av p,.im q1.r q1.x,.no]
 exact fN (dM CC hr (ae (aa 0 rfl) (ae (aa 1 rfl) aj)) ⟨v,p,[],rfl,rfl,hq,rfl⟩ q)
theorem wW (CC:cn P w K mg base "laid_out" 9 (de (gP Q C 0) K))(F:bC K "counts_by" "counts_by" sE f fd)(hm:mg "counts_by"=some (.ref f))(hb:Binds K fd ["web","part","numbers"] []):cn P w K mg base "counts_by" 12 (de (gP Q C 1) K):=by
 have CC:=CC.mono (show 9<=11 by decide)
 have nd:=nU.nd
 refine d8 F nU hm hb (gX rfl) ji (λNl A outer s H R E qs c hr hS q=>?_)
 obtain⟨v,p,PJ,rfl,hl,hq,e⟩:=hS
 cases e
 obtain⟨q1,rfl⟩:∃q1,PJ=[q1]:=by
  match PJ,hl with
  | [q1],_=>exact⟨q1,rfl⟩
 change RS _ H R _ [.im br v,av p,.im q1.r q1.x,.no,.no,.no,.no]
 exact w9 3 (dM CC hr (ae (aa 0 rfl) (ae (aa 1 rfl) aj)) ⟨v,p,[],rfl,rfl,hq,rfl⟩ q)
def DI (C:Addr):iE:=λK ps o=>∃(v:ay) (p:Int) (xs:Ib),ps=[⟨br,v⟩,⟨af,p⟩,⟨ak af,xs⟩]/\aY v/\0<=p/\p < (v.1.length:Int)/\xs.length<=1000/\bD v p 0 xs=false/\o= .exc (.ref C)
theorem BV (hC:lh K mg "NoRun" C)(CP:ax P w K mg base "need_part" 7 (aG zo K))(CL:ax P w K mg base "leads_through" 4 (aG DA K))(F:bC K "stretches" "stretches" pf f fd)(hm:mg "stretches"=some (.ref f))(hb:Binds K fd ["web","part","rows"] []):cn P w K mg base "stretches" 11 (de (DI C) K):=by
 have nd:=ou.nd
 have CP:=CP.mono (show 7<=10 by decide)
 have CL:=CL.mono (show 4<=10 by decide)
 refine d8 F ou hm hb (λqs o ⟨_,_,_,e,_⟩=>by rw[e];rfl) (λqs T ⟨_,_,_,_,_,_,_,_,_,h⟩=>by cases h) (λNl A outer s H R E qs c hr hS q=>?_)
 obtain⟨v,p,xs,rfl,hv,p0,p1,hl,ht,e⟩:=hS
 cases e
 change RS _ H R _ [.im br v,av p,bH xs,.no]
 refine gY (N1:=λΓ=>Γ=[.im br v,av p,bH xs,.no]) (jN CP hr (ae (aa 0 rfl) (ae (aa 1 rfl) aj)) ⟨v,p,rfl,hv,p0,p1,rfl⟩ rfl) λΓ' e=>?_
 subst e
 exact nB (TV.cast (cw (bE (bc CL hr (ae (aa 0 rfl) (ae (aa 1 rfl) (ae (aa 2 rfl) aj))) ⟨v,p,xs,rfl,hl,rfl⟩))) (by rw[ht];rfl)) (kG hC q)
def Cm (C:Addr):iE:=λK ps o=>∃(v:ay) (p:Int) (ns:Ib),ps=[⟨br,v⟩,⟨af,p⟩,⟨ak af,ns⟩]/\aY v/\0<=p/\p < (v.1.length:Int)/\dQ v.2 p.toNat/\i7 v p ns=false/\o= .exc (.ref C)
theorem D4 (M:bR mg)(hC:lh K mg "NoWay" C)(CI:ax P w K mg base "is_whole" 1 (aG qq K))(CT:ax P w K mg base "worths_in" 3 (aG zY K))(CN:ax P w K mg base "ways_on" 2 (aG qu K))(F:bC K "ways_of" "ways_of" lY f fd)(hm:mg "ways_of"=some (.ref f))(hb:Binds K fd ["web","part","numbers"] []):cn P w K mg base "ways_of" 11 (de (Cm C) K):=by
 have nd:=ub.nd
 have OO:Jl [("number":Str),"count"]:=by decide
 have CI:=CI.mono (show 1<=10 by decide)
 have CT:=CT.mono (show 3<=10 by decide)
 have CN:=CN.mono (show 2<=10 by decide)
 obtain⟨t2,hB⟩:=M.begin_
 refine d8 F ub hm hb (λqs o ⟨_,_,_,e,_⟩=>by rw[e];rfl) (λqs T ⟨_,_,_,_,_,_,_,_,_,h⟩=>by cases h) (λNl A outer s H R E qs c hr hS q=>?_)
 obtain⟨v,p,ns,rfl,hv,p0,p1,hR,hc,e⟩:=hS
 cases e
 have hu:(A.deeper (KP "ways_of" (ag lY) s.heap.objs.size f Nl)).units + 1 < cLine:=Ko (Ks (by decide:1<=64) _) hr.units
 have hs:=hv.sz (v.1.getD p.toNat 0) (by rw[IJ,IF (by omega)];exact Jb _)
 change RS _ H R _ [bB v,av p,bH ns,.no,.no,.no]
 refine gY (N1:=λΓ=>∃ws,Γ=[bB v,av p,bH ns,.mu af ws,.no,.no]) (lj 3 CT hr (ae (aa 0 rfl) (ae (aa 1 rfl) aj)) ⟨v,p,rfl,hv,p0,p1,hR,rfl⟩ λws _ _=>⟨ws,rfl⟩) λΓ' e=>?_
 obtain⟨ws,rfl⟩:=e
 refine gY (N1:=λΓ=>Γ=[bB v,av p,bH ns,.mu af ws,av (N4 v p 0),.no]) (aO 4 (y:=N4 v p 0) (kI hu CN hr (ae (aa 0 rfl) (ae (aa 1 rfl) aj)) ⟨v,p,rfl,hv,p0,p1,hR,rfl⟩ (bV hB) (λF ⟨h1,h2⟩=>eL.get hv p0 p1 hR h1 h2 (by omega) (by omega))) rfl) λΓ' e=>?_
 subst e
 exact nB (TV.cast (cw (bE (EV.cast (y':=i7 v p ns) (fc M.all (aE.im (bK (own:=["number"]) (fr:=["count"]) (ix:=[4]) (ra:=af) (rb:=aX) (p:=λ_=>true) (f:=λn=>true&&(decide (0<=n)&&decide (n < N4 v p 0))) (bu (so:=ag lY) (N0:=zq) rfl rfl (λx h=>aU h) (by decide +kernel)) (aT (aa 2 rfl))
  (λC s H ex=>aI 0) (λx=>⟨.inr rfl,.inl rfl,trivial⟩) (λC s H ex x hx=>cg) (λC s H ex x hx h=>fz (bc CI hr (ae (aa 0 rfl) aj) ⟨x,rfl,rfl⟩) (λ_=>fG (f7 f6 dX ai (aa 0 rfl) (aa 1 rfl))))))) rfl))) (by rw[hc];rfl)) (kG hC q)
def BL (C:Addr):iE:=λK ps o=>∃(v:ay) (p:Int) (ns:Ib),ps=[⟨br,v⟩,⟨af,p⟩,⟨ak af,ns⟩]/\aY v/\v.2.length<=30/\0<=p/\p < (v.1.length:Int)/\i7 (cF v p) 0 ns=false/\o= .exc (.ref C)
theorem Cq (M:bR mg)(CY:ax P w K mg base "laid_out" 9 (aG wG K))(CW:ax P w K mg base "stretch_web" 10 (aG (vM true) K))(CS:cn P w K mg base "ways_of" 11 (de (Cm C) K))(F:bC K "counts_by" "counts_by" sE f fd)(hm:mg "counts_by"=some (.ref f))(hb:Binds K fd ["web","part","numbers"] []):cn P w K mg base "counts_by" 12 (de (BL C) K):=by
 have nd:=nU.nd
 have CY:=CY.mono (show 9<=11 by decide)
 have CW:=CW.mono (show 10<=11 by decide)
 obtain⟨t1,QI⟩:=M.NL
 refine d8 F nU hm hb (λqs o ⟨_,_,_,e,_⟩=>by rw[e];rfl) (λqs T ⟨_,_,_,_,_,_,_,_,_,h⟩=>by cases h) (λNl A outer s H R E qs c hr hS q=>?_)
 obtain⟨v,p,ns,rfl,hv,hle,p0,p1,hc,e⟩:=hS
 cases e
 obtain⟨hW,hR⟩:=jW hv hle p0 p1
 have W1:(0:Int) < ((cF v p).1.length:Int):=by show(0:Int) < ((1:Nat):Int);decide
 change RS _ H R _ [bB v,av p,bH ns,.no,.no,.no,.no]
 refine gY (N1:=λΓ=>Γ=[bB v,av p,bH ns,.im (ak gW) (cH v p (Nk v p)),.no,.no,.no]) (aO 3 (aE.im (fD CY hr (ae (aa 0 rfl) (ae (aa 1 rfl) aj)) ⟨v,p,rfl,hv,p0,p1,rfl⟩)) rfl) λΓ' e=>?_
 subst e
 refine gY (N1:=λΓ=>∃ys,Γ=[bB v,av p,bH ns,.im (ak gW) (cH v p (Nk v p)),.mu af ys,.no,.no]) (cL 4 (r:=af) (iP (aE.im (aw (au ai aD) (by show 1<=K4;decide))) (cK M.len (a9 (aa 0 rfl))) (by omega) (by omega) (aB (by simp;omega))) ⟨_,rfl⟩) λΓ' e=>?_
 obtain⟨ys,rfl⟩:=e
 exact AB (dM CS hr (ae (bc CW hr (ae (aa 0 rfl) (ae (aa 1 rfl) aj)) ⟨v,p,rfl,hv,p0,p1,rfl⟩) (ae (bV QI) (ae (aa 2 rfl) aj))) ⟨cF v p,0,ns,rfl,hW,by decide,W1,hR,hc,rfl⟩ q) (by exact LU.leaving)
end
end K1
namespace K1
open PySem PySem.W L2 Fc
open PySem.Spec hiding Row
open PyProof.Rows hiding St
open PySem.Builtin.Int (intBits)
variable {P:K7}{w:World}{K:MP}{mg:HZ}{base:Heap}{f:Addr}{fd:Ld}
theorem A4:Lo "ValueError"=some (.type "ValueError"):=by decide +kernel
structure GZ (K:MP) (mg:HZ) (D:Addr) (b1 b2 b3 b4 b5:Bool):Prop where
 look:dZ K D=true
 web:∃C,mg "NoWeb"=some (.ref C)/\M9 K (.ref D) (.ref C)=some b1
 way:∃C,mg "NoWay"=some (.ref C)/\M9 K (.ref D) (.ref C)=some b2
 loose:∃C,mg "NoLoose"=some (.ref C)/\M9 K (.ref D) (.ref C)=some b3
 run:∃C,mg "NoRun"=some (.ref C)/\M9 K (.ref D) (.ref C)=some b4
 chain:∃C,mg "NoChain"=some (.ref C)/\M9 K (.ref D) (.ref C)=some b5
 o1:∃C1 C2 C3,mg "NoAnswer"=some (.ref C1)/\mg "NoChoice"=some (.ref C2)/\mg "NoCode"=some (.ref C3)/\kitAny K (.ref D) [.ref C1,.ref C2,.ref C3]=some false
 o2:∃C1 C2 C3,mg "NoCounts"=some (.ref C1)/\mg "NoGuess"=some (.ref C2)/\mg "NoLog"=some (.ref C3)/\kitAny K (.ref D) [.ref C1,.ref C2,.ref C3]=some false
 o3:∃C1 C2 C3,mg "NoMarks"=some (.ref C1)/\mg "NoName"=some (.ref C2)/\mg "NoPlan"=some (.ref C3)/\kitAny K (.ref D) [.ref C1,.ref C2,.ref C3]=some false
 o4:∃C1 C2 C3,mg "NoProgram"=some (.ref C1)/\mg "NoRow"=some (.ref C2)/\mg "NoText"=some (.ref C3)/\kitAny K (.ref D) [.ref C1,.ref C2,.ref C3]=some false
 ve:mg "ValueError"=none/\M9 K (.ref D) (.type "ValueError")=some true
def one (b:Bool)(x:Str):Ic:=if b=true then[x] else[]
def mkL (b1 b2 b3 b4 b5:Bool):Ic:=[]++one b1 "web"++one b2 "way"++one b3 "loose"++one b4 "run"++one b5 "chain"
theorem jO (b:Bool)(x:Str):(one b x).length<=1:=by cases b<;>simp[one]
section
abbrev rD:Stmt:=top pz
abbrev z3:Ic:=["_law_caught","_law_found"]
theorem Dv:aF z3 ["_law_caught"] (ag rD):=ND
def xV (ea:Addr)(ms:Ic):cf:=λK ps T=>ps=[⟨gO ea,()⟩]/\T=bL K (ak cD) (· =ms)
theorem uN {D:Addr}{b1 b2 b3 b4 b5:Bool}(M:bR mg)(X:GZ K mg D b1 b2 b3 b4 b5)(F:bC K "_law_marks" "_law_marks" rD f fd)(hm:mg "_law_marks"=some (.ref f))(hb:Binds K fd ["_law_caught"] [])(ea:Addr):
 j8 P w K mg (λbase=>∃oe,base.get? ea=some oe/\oe.cls= .ref D) "_law_marks" 1 (aG (xV ea (mkL b1 b2 b3 b4 b5)) K):=by
 have nd:=Dv.nd
 refine⟨f,fd,_,λbase hz=>?_,hm,F.kp,hb⟩
 refine vx F Dv (λqs T ⟨e,_⟩=>by rw[e];rfl) (λNl A outer s H E qs T hr hS=>?_)
 obtain⟨rfl,rfl⟩:=hS
 change WS _ _ [.im (gO ea) (),.no] _ _
 obtain⟨c1,m1,k1⟩:=X.web
 obtain⟨c2,m2,k2⟩:=X.way
 obtain⟨c3,m3,k3⟩:=X.loose
 obtain⟨c4,m4,k4⟩:=X.run
 obtain⟨c5,m5,k5⟩:=X.chain
 obtain⟨p1,p2,p3,q1,q2,q3,q4⟩:=X.o1
 obtain⟨r1,r2,r3,s1,s2,s3,s4⟩:=X.o2
 obtain⟨t1,t2,t3,u1,u2,u3,u4⟩:=X.o3
 obtain⟨v1,v2,v3,w1,w2,w3,w4⟩:=X.o4
 have l1:=jO b1 "web";have l2:=jO b2 "way";have l3:=jO b3 "loose";have l4:=jO b4 "run";have l5:=jO b5 "chain"
 have app:∀(ms:Ic) (b:Bool) (x:Str) (rest:List Stmt) (c:Expr) (p1 p2 p3 p4 p5 p6:Pos) (j:Nat) {N:Ga->Prop} {T:RT},(p2.endLine==p4.line)=true->ms.length<=100->TV (bQ dW P w K mg base z3 "_law_marks" (ag rD) f Nl A outer s H E).cO c [.im (gO ea) (),.mu cD ms] b [.im (gO ea) (),.mu cD ms]->WS (bQ dW P w K mg base z3 "_law_marks" (ag rD) f Nl A outer s H E).cO rest [.im (gO ea) (),.mu cD (ms++one b x)] N T->
  WS (bQ dW P w K mg base z3 "_law_marks" (ag rD) f Nl A outer s H E).cO (.If c [.Expr (.Call (.Attribute (.Name "_law_found" p1) "append" p2) [.Constant (.str x) j p3] [] p4) p6] [] p5::rest) [.im (gO ea) (),.mu cD ms] N T:=by
  intro ms b x rest c p1 p2 p3 p4 p5 p6 j N T hline hl hc Ob
  refine ah (bF hc (λh=>?_) (λh=>aW ?_))
  ·refine ao (bU 1 dU rfl rfl (Ko (show ms.length<=1000 by omega) (by decide)) ?_ (hline:=hline))
   rw[h] at Ob;exact Ob
  ·rw[h] at Ob
   have:ms++one false x=ms:=by simp[one]
   rw[this] at Ob;exact Ob
 refine ah (cL 1 (r:=cD) (aw aD (by decide)) ?_)
 refine app _ b1 _ _ _ _ _ _ _ _ _ _ rfl (by simp) (bE (je (i:=0) hz X.look M.isinstance rfl m1 k1)) ?_
 refine app _ b2 _ _ _ _ _ _ _ _ _ _ rfl (by simp;omega) (bE (je (i:=0) hz X.look M.isinstance rfl m2 k2)) ?_
 refine app _ b3 _ _ _ _ _ _ _ _ _ _ rfl (by simp;omega) (bE (je (i:=0) hz X.look M.isinstance rfl m3 k3)) ?_
 refine app _ b4 _ _ _ _ _ _ _ _ _ _ rfl (by simp;omega) (bE (je (i:=0) hz X.look M.isinstance rfl m4 k4)) ?_
 refine app _ b5 _ _ _ _ _ _ _ _ _ _ rfl (by simp;omega) (bE (je (i:=0) hz X.look M.isinstance rfl m5 k5)) ?_
 have e0:∀ms:Ic,∀x,ms++one false x=ms:=λms x=>by simp[one]
 refine ah (bF (TW.tv (ig (bE (kF (i:=0) hz X.look M.isinstance rfl q1 q2 q3 q4)) λ_=>fY (bE (kF (i:=0) hz X.look M.isinstance rfl s1 s2 s3 s4)))) (λh=>absurd h (by decide)) (λ_=>aW ?_))
 refine ah (bF (TW.tv (ig (bE (kF (i:=0) hz X.look M.isinstance rfl u1 u2 u3 u4)) λ_=>fY (bE (kF (i:=0) hz X.look M.isinstance rfl w1 w2 w3 w4)))) (λh=>absurd h (by decide)) (λ_=>aW ?_))
 refine ah (bF (cw (bE (yZ (i:=0) hz X.look M.isinstance rfl X.ve.1 A4 X.ve.2))) (λh=>absurd h (by decide)) (λ_=>aW ?_))
 exact ao (bT (dm 1 rfl (aB (by simp;omega))) rfl)
end
end K1
namespace K1
open PySem L2 Fc
open PySem.Spec hiding Row
open PyProof.Rows hiding St
open PySem.Builtin.Int (intBits)
variable {P:K7}{w:World}{K:MP}{mg:HZ}{base:Heap}{f:Addr}{fd:Ld}
abbrev sI (k:Int)(v:ay)(p:Int)(xs n:Ib):List Pk:=[⟨af,k⟩,⟨br,v⟩,⟨af,p⟩,⟨ak af,xs⟩,⟨ak af,n⟩]
abbrev QA:=Int->ay->Int->Ib->Ib->Prop
def Hg (Q:QA):iE:=λK ps o=>∃(k:Int) (v:ay) (p:Int) (xs n:Ib),ps=sI k v p xs n/\Q k v p xs n/\o= .ret (bL K fI λ_=>True)
def zG (Q:QA)(C:Addr):iE:=λK ps o=>∃(k:Int) (v:ay) (p:Int) (xs n:Ib),ps=sI k v p xs n/\Q k v p xs n/\o= .exc (.ref C)
def uw (v:ay)(p:Int)(n:Ib):Prop:=∃L:List Ib,n=L.map (ef v p)/\L.length<=3000/\∀x∈L,bD (cF v p) 0 0 x=true
def Dp:QA:=λk v p xs n=>aY v/\v.2.length<=30/\0<=p/\p < (v.1.length:Int)/\(k=2->xs.length<=900/\bD v p 0 xs=true)/\(k=3->uw v p n)
def Cg:QA:=λk v p xs n=>k=2/\aY v/\0<=p/\p < (v.1.length:Int)/\xs.length<=1000/\bD v p 0 xs=false
def Ca:QA:=λk v p xs n=>k=3/\aY v/\v.2.length<=30/\0<=p/\p < (v.1.length:Int)/\i7 (cF v p) 0 n=false
def zg (Q:ay->Int->Prop):QA:=λk v p xs n=>0<=k/\k<=3/\Q v p
section
variable {C:Addr}
abbrev jK:Stmt:=top pE
abbrev kM:Ic:=["_law_k","_law_web_here","_law_part_here","_law_run","_law_numbers"]
theorem lg:aF kM kM (ag jK):=ND
theorem EN (CI:ax P w K mg base "cuts" 8 (aG zC K))(CY:ax P w K mg base "stretch_web" 10 (aG (vM true) K))(CT:ax P w K mg base "stretches" 11 (aG Gs K))(CP:ax P w K mg base "counts_by" 12 (aG Gm K))(F:bC K "_law_asked" "_law_asked" jK f fd)(hm:mg "_law_asked"=some (.ref f))(hb:Binds K fd kM []):cn P w K mg base "_law_asked" 13 (de (Hg Dp) K):=by
 have nd:=lg.nd
 have CI:=CI.mono (show 8<=12 by decide)
 have CY:=CY.mono (show 10<=12 by decide)
 have CT:=CT.mono (show 11<=12 by decide)
 refine Aq F lg hm hb (λqs T ⟨_,_,_,_,_,e,_⟩=>by rw[e];rfl) (λNl A outer s H E qs T hr hS=>?_) (λNl A outer s H R E qs c hr hS q=>by obtain⟨_,_,_,_,_,_,_,e⟩:=hS;cases e)
 obtain⟨k,v,p,xs,n,rfl,⟨hv,hle,p0,p1,h4,h5⟩,e⟩:=hS
 cases e
 refine⟨λ_ _ _=>⟨(),rfl,trivial⟩,?_⟩
 change WS _ _ [av k,bB v,av p,bH xs,bH n] _ _
 have r3:WS (bQ dW P w K mg base kM "_law_asked" (ag jK) f Nl A outer s H E).cO ((bG jK).drop 3) [av k,bB v,av p,bH xs,bH n] (λ_=>True) (bL K fI λ_=>True):=by
  refine ao (bF (aK cT (aa 0 rfl) ai) (λh=>?_) (λ_=>aW trivial))
  obtain⟨L,rfl,hL,hT⟩:=h5 (of_decide_eq_true h)
  exact ao (lP CP hr (ae (aa 1 rfl) (ae (aa 2 rfl) (ae (aa 4 rfl) aj))) ⟨v,p,L,rfl,hv,hle,p0,p1,hL,hT,rfl⟩ trivial)
 have r2:WS (bQ dW P w K mg base kM "_law_asked" (ag jK) f Nl A outer s H E).cO ((bG jK).drop 2) [av k,bB v,av p,bH xs,bH n] (λ_=>True) (bL K fI λ_=>True):=by
  refine ah (bF (aK cT (aa 0 rfl) ai) (λh=>?_) (λ_=>aW r3))
  obtain⟨h1,h2⟩:=h4 (of_decide_eq_true h)
  exact ao (lP CT hr (ae (aa 1 rfl) (ae (aa 2 rfl) (ae (aa 3 rfl) aj))) ⟨v,p,xs,rfl,hv,hle,p0,p1,h1,h2,rfl⟩ r3)
 have r1:WS (bQ dW P w K mg base kM "_law_asked" (ag jK) f Nl A outer s H E).cO ((bG jK).drop 1) [av k,bB v,av p,bH xs,bH n] (λ_=>True) (bL K fI λ_=>True):=by
  refine ah (bF (aK cT (aa 0 rfl) ai) (λh=>?_) (λ_=>aW r2))
  exact ao (lP CY hr (ae (aa 1 rfl) (ae (aa 2 rfl) aj)) ⟨v,p,rfl,hv,p0,p1,rfl⟩ r2)
 refine ah (bF (aK cT (aa 0 rfl) ai) (λh=>?_) (λ_=>aW r1))
 exact ao (lP CI hr (ae (aa 1 rfl) (ae (aa 2 rfl) aj)) ⟨v,p,rfl,hv,p0,p1,rfl⟩ r1)
theorem zm {Q:ay->Int->Prop}(CI:cn P w K mg base "cuts" 8 (de (gP Q C 0) K))(CY:cn P w K mg base "stretch_web" 10 (de (gP Q C 0) K))(CT:cn P w K mg base "stretches" 11 (de (gP Q C 1) K))(CP:cn P w K mg base "counts_by" 12 (de (gP Q C 1) K))(F:bC K "_law_asked" "_law_asked" jK f fd)(hm:mg "_law_asked"=some (.ref f))(hb:Binds K fd kM []):cn P w K mg base "_law_asked" 13 (de (zG (zg Q) C) K):=by
 have nd:=lg.nd
 have CI:=CI.mono (show 8<=12 by decide)
 have CY:=CY.mono (show 10<=12 by decide)
 have CT:=CT.mono (show 11<=12 by decide)
 refine d8 F lg hm hb (λqs o ⟨_,_,_,_,_,e,_⟩=>by rw[e];rfl) (λqs T ⟨_,_,_,_,_,_,_,e⟩=>by cases e) (λNl A outer s H R E qs c hr hS q=>?_)
 obtain⟨k,v,p,xs,n,rfl,⟨k0,k1,hq⟩,e⟩:=hS
 cases e
 change RS _ H R _ [av k,.im br v,av p,bH xs,bH n]
 refine fg (aK cT (aa 0 rfl) ai) (λh=>?_) λh0=>?_
 ·exact fN (dM CI hr (ae (aa 1 rfl) (ae (aa 2 rfl) aj)) ⟨v,p,[],rfl,rfl,hq,rfl⟩ q)
 refine fg (aK cT (aa 0 rfl) ai) (λh=>?_) λh1=>?_
 ·exact fN (dM CY hr (ae (aa 1 rfl) (ae (aa 2 rfl) aj)) ⟨v,p,[],rfl,rfl,hq,rfl⟩ q)
 refine fg (aK cT (aa 0 rfl) ai) (λh=>?_) λh2=>?_
 ·exact fN (dM CT hr (ae (aa 1 rfl) (ae (aa 2 rfl) (ae (aa 3 rfl) aj))) ⟨v,p,[_],rfl,rfl,hq,rfl⟩ q)
 refine fg (aK cT (aa 0 rfl) ai) (λh=>?_) λh3=>?_
 ·exact fN (dM CP hr (ae (aa 1 rfl) (ae (aa 2 rfl) (ae (aa 4 rfl) aj))) ⟨v,p,[_],rfl,rfl,hq,rfl⟩ q)
 have h0:¬k=0:=of_decide_eq_false h0
 have h1:¬k=1:=of_decide_eq_false h1
 have h2:¬k=2:=of_decide_eq_false h2
 have h3:¬k=3:=of_decide_eq_false h3
 omega
theorem Fs (CT:cn P w K mg base "stretches" 11 (de (DI C) K))(F:bC K "_law_asked" "_law_asked" jK f fd)(hm:mg "_law_asked"=some (.ref f))(hb:Binds K fd kM []):cn P w K mg base "_law_asked" 13 (de (zG Cg C) K):=by
 have nd:=lg.nd
 have CT:=CT.mono (show 11<=12 by decide)
 refine d8 F lg hm hb (λqs o ⟨_,_,_,_,_,e,_⟩=>by rw[e];rfl) (λqs T ⟨_,_,_,_,_,_,_,e⟩=>by cases e) (λNl A outer s H R E qs c hr hS q=>?_)
 obtain⟨k,v,p,xs,n,rfl,⟨rfl,hv,p0,p1,hl,ht⟩,e⟩:=hS
 cases e
 change RS _ H R _ [av 2,.im br v,av p,bH xs,bH n]
 refine fg (aK cT (aa 0 rfl) ai) (λh=>absurd h (by decide)) λ_=>?_
 refine fg (aK cT (aa 0 rfl) ai) (λh=>absurd h (by decide)) λ_=>?_
 refine fg (aK cT (aa 0 rfl) ai) (λh=>?_) λh=>absurd h (by decide)
 exact fN (dM CT hr (ae (aa 1 rfl) (ae (aa 2 rfl) (ae (aa 3 rfl) aj))) ⟨v,p,xs,rfl,hv,p0,p1,hl,ht,rfl⟩ q)
theorem FF (CP:cn P w K mg base "counts_by" 12 (de (BL C) K))(F:bC K "_law_asked" "_law_asked" jK f fd)(hm:mg "_law_asked"=some (.ref f))(hb:Binds K fd kM []):cn P w K mg base "_law_asked" 13 (de (zG Ca C) K):=by
 have nd:=lg.nd
 refine d8 F lg hm hb (λqs o ⟨_,_,_,_,_,e,_⟩=>by rw[e];rfl) (λqs T ⟨_,_,_,_,_,_,_,e⟩=>by cases e) (λNl A outer s H R E qs c hr hS q=>?_)
 obtain⟨k,v,p,xs,n,rfl,⟨rfl,hv,hle,p0,p1,ht⟩,e⟩:=hS
 cases e
 change RS _ H R _ [av 3,.im br v,av p,bH xs,bH n]
 refine fg (aK cT (aa 0 rfl) ai) (λh=>absurd h (by decide)) λ_=>?_
 refine fg (aK cT (aa 0 rfl) ai) (λh=>absurd h (by decide)) λ_=>?_
 refine fg (aK cT (aa 0 rfl) ai) (λh=>absurd h (by decide)) λ_=>?_
 refine fg (aK cT (aa 0 rfl) ai) (λh=>?_) λh=>absurd h (by decide)
 exact fN (dM CP hr (ae (aa 1 rfl) (ae (aa 2 rfl) (ae (aa 4 rfl) aj))) ⟨v,p,n,rfl,hv,hle,p0,p1,ht,rfl⟩ q)
abbrev qK:Stmt:=top mR
abbrev Hn:Ic:=["_law_k","_law_web_here","_law_part_here","_law_run","_law_numbers","_law_caught","e"]
theorem pH:aF Hn kM (ag qK):=ND
def l6 (Q:QA)(m:Ic):cf:=λK ps T=>∃(k:Int) (v:ay) (p:Int) (xs n:Ib),ps=sI k v p xs n/\Q k v p xs n/\T=bL K (ak cD) (· =m)
theorem Fi {Q:QA}(CA:cn P w K mg base "_law_asked" 13 (de (Hg Q) K))(F:bC K "_law_refused" "_law_refused" qK f fd)(hm:mg "_law_refused"=some (.ref f))(hb:Binds K fd kM []):ax P w K mg base "_law_refused" 14 (aG (l6 Q []) K):=by
 have nd:=pH.nd
 refine bM F pH hm hb (λqs T ⟨_,_,_,_,_,e,_⟩=>by rw[e];rfl) (λNl A outer s H E qs T hr hS=>?_)
 obtain⟨k,v,p,xs,n,rfl,hq,rfl⟩:=hS
 change WS _ _ [av k,.im br v,av p,bH xs,bH n,.no,.no] _ _
 refine ah (aO 5 lH ?_)
 refine vG (ps:=sI k v p xs n) CA hr (ae (aa 0 rfl) (ae (aa 1 rfl) (ae (aa 2 rfl) (ae (aa 3 rfl) (ae (aa 4 rfl) aj))))) ⟨k,v,p,xs,n,rfl,hq,rfl⟩ ?_
 refine ah (bF (aK Ct (aa 5 rfl) lH) (λh=>?_) (λh=>absurd h (by decide)))
 exact ao (bT (aE.im (aw (r:=cD) aD (by decide))) rfl)
theorem pM {Q:QA}{CE:Addr}{m:Ic}(CA:cn P w K mg base "_law_asked" 13 (de (zG Q C) K))(hCE:mg "CountError"=some (.ref CE))(hex:M7 K (.ref C) (.ref CE)=some true)(CM:∀ea,j8 P w K mg (λbase=>∃oe,base.get? ea=some oe/\oe.cls= .ref C) "_law_marks" 1 (aG (xV ea m) K))(F:bC K "_law_refused" "_law_refused" qK f fd)(hm:mg "_law_refused"=some (.ref f))(hb:Binds K fd kM []):ax P w K mg base "_law_refused" 14 (aG (l6 Q m) K):=by
 have nd:=pH.nd
 refine bM F pH hm hb (λqs T ⟨_,_,_,_,_,e,_⟩=>by rw[e];rfl) (λNl A outer s H E qs T hr hS=>?_)
 obtain⟨k,v,p,xs,n,rfl,hq,rfl⟩:=hS
 change WS _ _ [av k,.im br v,av p,bH xs,bH n,.no,.no] _ _
 refine ah (aO 5 lH ?_)
 refine DP 6 5 (ps:=sI k v p xs n) CA hr (ae (aa 0 rfl) (ae (aa 1 rfl) (ae (aa 2 rfl) (ae (aa 3 rfl) (ae (aa 4 rfl) aj))))) ⟨k,v,p,xs,n,rfl,hq,rfl⟩ hCE hex (λea oe he=>?_)
 refine ah (bF (aK Es (aa 5 rfl) lH) (λh=>absurd h (by decide)) (λ_=>aW ?_))
 exact ao (bT (yR ((CM ea).mono (show 1<=13 by decide)) IT (λbase h=>⟨oe,h,he⟩) hr (ae (aa 5 rfl) aj) ⟨rfl,rfl⟩) rfl)
end
section
abbrev zU:Stmt:=top qQ
abbrev nBT:Ic:=["_law_purse_here","_law_web_here","_law_run","_law_at","_law_other","_law_far","_law_some"]
abbrev G0:Ic:=["_law_purse_here","_law_web_here","_law_run"]
theorem C6:aF nBT G0 (ag zU):=ND
def Gx:jw Pu:=λK s ps T=>∃(n:Int) (v:ay) (xs:Ib),cR n s/\0<=n/\n<=20000/\ps=[⟨br,v⟩,⟨ak af,xs⟩]/\aY v/\1<=xs.length/\xs.length<=40/\T=λs'=>bL K (ak af) λys=>cR (n + 10) s'/\ys.length<=100
theorem FC (M:bR mg)(CD:ax P w K mg base "_law_draw" 1 (eo bg me K))(F:bC K "_law_bent" "_law_bent" zU f fd)(hm:mg "_law_bent"=some (.ref f))(hb:Binds K fd G0 []):ax P w K mg base "_law_bent" 2 (eo bg Gx K):=by
 have nd:=C6.nd
 refine jh F C6 hm hb (λxs qs T ⟨_,_,_,_,_,_,e,_⟩=>by rw[e];rfl) (λNl A outer s H E a b st qs T hr hS=>?_)
 obtain⟨n,v,xs,hP,n0,n1,rfl,hv,hl1,hl,rfl⟩:=hS
 have rl:=hv.rl
 change WS _ _ [.ob (bg.bx a b st),bB v,bH xs,.no,.no,.no,.no] _ _
 obtain⟨p,OE,p0,p1,Om,QF⟩:=bP hP (by omega) (b:=(xs.length:Int)) (by omega) (by omega)
 refine ah (aO 3 (bo 0 CD hr (ae (cK M.len (aa 2 rfl)) aj) rfl rfl (QF _)) ?_)
 obtain⟨o,OT,o0,o1,OK,Px⟩:=bP Om (by omega) (b:=(v.2.length:Int)) (by omega) (by omega)
 refine ah (aO 4 (bo 0 CD hr (ae (cK M.len (a9 (aa 1 rfl))) aj) rfl rfl (Px _)) ?_)
 obtain⟨d,OB,d0,d1,OJ,O2⟩:=bP OK (by omega) (b:=(10:Int) ^ (15:Int).toNat) (by decide +kernel) (by decide +kernel)
 obtain⟨e,Su,e0,e1,Qh,Ts⟩:=bP OJ (by omega) (b:=(10:Int) ^ (14:Int).toNat) (by decide +kernel) (by decide +kernel)
 refine ah (aO 5 (bX (nA (bo 0 CD hr (ae (gG ai ai ⟨by decide,by decide,by decide⟩) aj) rfl rfl (O2 _)) (gG ai ai ⟨by decide,by decide,by decide⟩) (.inr ⟨by decide +kernel,by decide +kernel⟩)) (bo 0 CD hr (ae (gG ai ai ⟨by decide,by decide,by decide⟩) aj) rfl rfl (Ts _))) ?_)
 generalize d * (10:Int) ^ (14:Int).toNat + e=NV
 have c1:=fO xs none (some p)
 have c2:=fO xs (some (p + 1)) none
 have c3:=fO xs (some p) none
 have RJ:cS xs p=some (xs.getD p.toNat 0):=bY p0 p1
 generalize xs.getD p.toNat 0=x0 at RJ
 refine ah (aO 6 (aE.im (aw (r:=ak af) (au (aa 2 rfl) (au (aa 2 rfl) (au (aE.im (dJ (aa 2 rfl) eB (eC (aa 3 rfl)))) (au (aE.im (cP (aE.im (cP (aE.im (dJ (aa 2 rfl) eB (eC (aa 3 rfl)))) (aE.im (aw (r:=af) (au (aN (aa 2 rfl) (aa 3 rfl) RJ) aD) (by show 1<=K4;decide))) (aB (by show _ + 1<=_;omega)))) (aE.im (dJ (aa 2 rfl) (eC (aa 3 rfl)) eB)) (aB (by rw[IL];show _ + 1 + _<=_;omega)))) (au (aE.im (cP (aE.im (dJ (aa 2 rfl) eB (eC (aa 3 rfl)))) (aE.im (dJ (aa 2 rfl) (eC (bX (aa 3 rfl) ai)) eB)) (aB (by omega)))) (au (aE.im (aw (r:=af) aD (by decide))) aD)))))) (by show 6<=K4;decide))) ?_)
 refine ah (aO 6 (aE.im (cP (aa 6 rfl) (aE.im (aw (r:=ak af) (au (aE.im (cP (aE.im (cP (aE.im (dJ (aa 2 rfl) eB (eC (aa 3 rfl)))) (aE.im (aw (r:=af) (au (aa 4 rfl) aD) (by show 1<=K4;decide))) (aB (by show _ + 1<=_;omega)))) (aE.im (dJ (aa 2 rfl) (eC (bX (aa 3 rfl) ai)) eB)) (aB (by rw[IL];show _ + 1 + _<=_;omega)))) (au (aE.im (cP (aE.im (cP (aE.im (dJ (aa 2 rfl) eB (eC (aa 3 rfl)))) (aE.im (aw (r:=af) (au (aa 4 rfl) aD) (by show 1<=K4;decide))) (aB (by show _ + 1<=_;omega)))) (aE.im (dJ (aa 2 rfl) (eC (aa 3 rfl)) eB)) (aB (by rw[IL];show _ + 1 + _<=_;omega)))) (au (aE.im (cP (aa 2 rfl) (aE.im (aw (r:=af) (au (aa 4 rfl) aD) (by show 1<=K4;decide))) (aB (by show _ + 1<=_;omega)))) aD))) (by show 3<=K4;decide))) (by show 6 + 3<=K4;decide))) ?_)
 refine ah (aO 6 (aE.im (cP (aa 6 rfl) (aE.im (aw (r:=ak af) (au (aE.im (cP (aE.im (aw (r:=af) (au (bW ai) aD) (by show 1<=K4;decide))) (aa 2 rfl) (aB (by show 1 + _<=_;omega)))) (au (aE.im (cP (aE.im (dJ (aa 2 rfl) eB (eC (aa 3 rfl)))) (aE.im (aw (r:=af) (au (bX (cK M.len (a9 (aa 1 rfl))) (aa 5 rfl)) aD) (by show 1<=K4;decide))) (aB (by show _ + 1<=_;omega)))) (au (aE.im (cP (aa 2 rfl) (aE.im (aw (r:=af) (au (dy (bW ai) (aa 5 rfl)) aD) (by show 1<=K4;decide))) (aB (by show _ + 1<=_;omega)))) aD))) (by show 3<=K4;decide))) (by show 9 + 3<=K4;decide))) ?_)
 obtain⟨y,Qk,y0,y1,Tu,Tr⟩:=bP Qh (by omega) (b:=12) (by decide) (by decide)
 obtain⟨ys,Rp,hyl⟩:∃ys:Ib,cS ([xs,xs,cut xs none (some p),cut xs none (some p)++[x0]++cut xs (some p) none,cut xs none (some p)++cut xs (some (p + 1)) none,[]]++[cut xs none (some p)++[o]++cut xs (some (p + 1)) none,cut xs none (some p)++[o]++cut xs (some p) none,xs++[o]]++[[-1]++xs,cut xs none (some p)++[(v.2.length:Int) + NV],xs++[-1 - NV]]) y=some ys/\ys.length<=100:=by
  rcases(show y=0∨y=1∨y=2∨y=3∨y=4∨y=5∨y=6∨y=7∨y=8∨y=9∨y=10∨y=11 by omega) with z | z | z | z | z | z | z | z | z | z | z | z<;>rw[z]<;>exact⟨_,rfl,by first | omega | (simp only[IL,I0,Kd];omega)⟩
 exact ao (eQ 0 (B:=bg) (aN (aa 6 rfl) (bo 0 CD hr (ae ai aj) rfl rfl (Tr _)) Rp) rfl ⟨Tu.mono (by omega),hyl⟩)
end
theorem gL {u:ay}(h:fA u=true):fZ u=true/\(∀r∈u.2,cX u.1 r=true)/\(∀q∈ups (0 + 1) ((u.1.length:Int) - (0 + 1)).toNat,called u.2 q=true)/\∀x∈nums u.1,mM u.2 x.1 x.2=true:=by
 unfold fA at h
 split at h
 ·cases h
 rename_i h1
 split at h
 ·cases h
 rename_i h2
 split at h
 ·cases h
 rename_i h3
 have h1:fZ u=true:=by simpa using h1
 have h2:((u.2.filter λ_=>true).map (cX u.1)).all id=true:=by
  cases e:((u.2.filter λ_=>true).map (cX u.1)).all id with
  | true=>rfl
  | false=>rw[e] at h2;exact absurd rfl h2
 have h3:(((ups (0 + 1) ((u.1.length:Int) - (0 + 1)).toNat).filter λ_=>true).map (called u.2)).all id=true:=by
  cases e:(((ups (0 + 1) ((u.1.length:Int) - (0 + 1)).toNat).filter λ_=>true).map (called u.2)).all id with
  | true=>rfl
  | false=>rw[e] at h3;exact absurd rfl h3
 exact⟨h1,all_map.mp h2,all_map.mp h3,all_map.mp h⟩
theorem not_true {b:Bool}(h:b=true->False):b=false:=by cases b<;>simp_all
theorem Cb {places:Ib}{rows:List Row}{r:Row}(hr:r∈rows)(hl:cX places r=false):fA (places,rows)=false:=not_true λh=>by
 have:=(gL h).2.1 r hr
 rw[hl] at this;cases this
theorem A0 {v:ay}(hv:aY v){p:Int}(p0:0<=p)(p1:p < (v.1.length:Int)){wide:Ib}(hw:wide[p.toNat]?=some (v.1.getD p.toNat 0 + 1)):fA (wide,v.2)=false:=not_true λh=>by
 have nb:=hv.sz (v.1.getD p.toNat 0) (by rw[IJ,IF (by omega)];exact Jb _)
 have h4:=(gL h).2.2.2 (p,v.1.getD p.toNat 0 + 1) (qW.mpr ⟨p.toNat,by show p=_;omega,hw⟩)
 unfold mM at h4
 have h5:=(Im.mp h4).1
 unfold jb at h5
 classical
 have h5:=of_decide_eq_true h5
 obtain⟨ks,k1,k2,k3⟩:=h5
 have:=ff (xs:=ks) (ys:=ups 0 (v.1.getD p.toNat 0).toNat) k1 λx hx=>by
  have hR:=(k2 x).mp hx
  have:0<=x/\x < v.1.getD p.toNat 0:=Reach.sub (P:=λx=>0<=x/\x < v.1.getD p.toNat 0) ⟨ID _,by omega⟩ (λa b _ NY=>by
   obtain⟨r,hr,r1,r2,r3⟩:=gr.mp NY
   have q:=hv.dD hr
   have e0:=q.e0;have en:=q.en
   rw[r1] at en
   rw[r3] at e0 en
   exact⟨e0,en⟩) hR
  exact bj.mpr (by omega)
 rw[aC] at this
 have k3:(ks.length:Int)=v.1.getD p.toNat 0 + 1:=k3
 omega
theorem Ba (places:Ib):fA (places,[])=false:=not_true λh=>by
 have:=(gL h).1
 unfold fZ at this
 simp at this
theorem xZ (rows:List Row):fA ([],rows)=false:=not_true λh=>by
 have:=(gL h).1
 unfold fZ at this
 simp at this
theorem ur {v:ay}(hv:aY v):fA (v.1++[2],v.2++[((v.1.length:Int),0,1, -1)])=false:=not_true λh=>by
 have pl:=hv.pl
 have h3:=(gL h).2.2.1 (v.1.length:Int) (by
  show(v.1.length:Int)∈ups (0 + 1) (((v.1++[2]).length:Int) - (0 + 1)).toNat
  unfold ups
  rw[Jf]
  refine⟨v.1.length - 1,JG.mpr ?_,?_⟩
  ·rw[IL,Jo];omega
  ·omega)
 unfold called at h3
 obtain⟨b,hb,hb2⟩:=JT.mp h3
 obtain⟨r,hr,rfl⟩:=Jf.mp hb
 have:r.2.2.2=(v.1.length:Int):=of_decide_eq_true hb2
 rcases IS.mp (IZ.mp hr).1 with q | q
 ·have q:=hv.dD q
  have c1:=q.c1
  omega
 ·rw[II.mp q] at this
  have this:(-1:Int)=(v.1.length:Int):=this
  omega
section
variable {C:Addr}
abbrev uC:Stmt:=top nY
abbrev Hu:Ic:=["_law_purse_here","_law_web_here","_law_places","_law_part_here","_law_far","_law_row","_law_way","_law_rows"]
theorem zO:aF Hu ["_law_purse_here","_law_web_here"] (ag uC):=ND
def Cw:jw Pu:=λK s ps T=>∃(n:Int) (v:ay),cR n s/\0<=n/\n<=20000/\ps=[⟨br,v⟩]/\aY v/\T=λs'=>bL K br λu=>cR (n + 10) s'/\fA u=false/\u.1.length<=1000/\u.2.length<=1000
theorem El (M:bR mg)(CD:ax P w K mg base "_law_draw" 1 (eo bg me K))(F:bC K "_law_no_web" "_law_no_web" uC f fd)(hm:mg "_law_no_web"=some (.ref f))(hb:Binds K fd ["_law_purse_here","_law_web_here"] []):ax P w K mg base "_law_no_web" 2 (eo bg Cw K):=by
 have nd:=zO.nd
 refine jh F zO hm hb (λxs qs T ⟨_,_,_,_,_,e,_⟩=>by rw[e];rfl) (λNl A outer s H E a b st qs T hr hS=>?_)
 obtain⟨n,v,hP,n0,n1,rfl,hv,rfl⟩:=hS
 have pl:=hv.pl
 have rl:=hv.rl
 change WS _ _ [.ob (bg.bx a b st),bB v,.no,.no,.no,.no,.no,.no] _ _
 refine ah (cL 2 (f9 M.list (c8 (aa 1 rfl))) ?_)
 obtain⟨p,OE,p0,p1,Om,QF⟩:=bP hP (by omega) (b:=(v.1.length:Int)) (by omega) (by omega)
 refine ah (aO 3 (bo 0 CD hr (ae (eA 2 M.len rfl) aj) rfl rfl (QF _)) ?_)
 obtain⟨d,OT,d0,d1,OK,Px⟩:=bP Om (by omega) (b:=(10:Int) ^ (15:Int).toNat) (by decide +kernel) (by decide +kernel)
 obtain⟨e,OB,e0,e1,OJ,O2⟩:=bP OK (by omega) (b:=2) (by decide) (by decide)
 have dx:0<=d * (10:Int) ^ (14:Int).toNat:=Int.mul_nonneg d0 (by decide +kernel)
 obtain⟨NV,hfar,f1⟩:∃NV,cS [(1:Int),1 + d * (10:Int) ^ (14:Int).toNat] e=some NV/\1<=NV:=by
  rcases(show e=0∨e=1 by omega) with z | z<;>rw[z]
  ·exact⟨_,rfl,by omega⟩
  ·exact⟨_,rfl,by omega⟩
 refine ah (aO 4 (aN (aE.im (aw (r:=af) (au ai (au (bX ai (nA (bo 0 CD hr (ae (gG ai ai ⟨by decide,by decide,by decide⟩) aj) rfl rfl (Px _)) (gG ai ai ⟨by decide,by decide,by decide⟩) (.inr ⟨by decide +kernel,by decide +kernel⟩))) aD)) (by show 2<=K4;decide))) (bo 0 CD hr (ae ai aj) rfl rfl (O2 _)) hfar) ?_)
 have hn:cS v.1 p=some (v.1.getD p.toNat 0):=bY p0 p1
 have szb:=hv.sz (v.1.getD p.toNat 0) (by rw[IJ,IF (by omega)];exact Jb _)
 have rw4:∀{X:Cx} {Γ Γ1:Ga} {es:Ii} {k:Nat} {pos:Pos} {x1 x2 x3 x4:Int},HA X es Γ [⟨af,x1⟩,⟨af,x2⟩,⟨af,x3⟩,⟨af,x4⟩] Γ1->True:=λ_=>trivial
 refine ah (aO 5 (aE.im (aw (r:=bA) (au (dR (ae (aa 3 rfl) (ae ai (ae ai (ae (bW ai) aj))))) (au (dR (ae (aa 3 rfl) (ae ai (ae (eV 2 (aa 3 rfl) rfl rfl hn) (ae (bW ai) aj))))) (au (dR (ae (aa 3 rfl) (ae ai (ae (dy ai (aa 4 rfl)) (ae (bW ai) aj))))) (au (dR (ae (aa 3 rfl) (ae ai (ae ai (ae (aa 3 rfl) aj))))) aD)))) (by show 4<=K4;decide))) ?_)
 refine ah (aO 5 (aE.im (cP (aa 5 rfl) (aE.im (aw (r:=bA) (au (dR (ae (aa 3 rfl) (ae ai (ae ai (ae (dy (bW ai) (aa 4 rfl)) aj))))) (au (dR (ae (aa 3 rfl) (ae ai (ae ai (ae (eA 2 M.len rfl) aj))))) (au (dR (ae (eA 2 M.len rfl) (ae ai (ae ai (ae (bW ai) aj))))) aD))) (by show 3<=K4;decide))) (by show 4 + 3<=K4;decide))) ?_)
 refine ah (aO 5 (aE.im (cP (aa 5 rfl) (aE.im (aw (r:=bA) (au (dR (ae (dy ai (aa 4 rfl)) (ae ai (ae ai (ae (bW ai) aj))))) (au (dR (ae (aa 3 rfl) (ae (eV 2 (aa 3 rfl) rfl rfl hn) (ae ai (ae (bW ai) aj))))) aD)) (by show 2<=K4;decide))) (by show 7 + 2<=K4;decide))) ?_)
 obtain⟨y,Su,y0,y1,Qh,Ts⟩:=bP OJ (by omega) (b:=13) (by decide) (by decide)
 refine ah (aO 6 (bo 0 CD hr (ae ai aj) rfl rfl (Ts _)) ?_)
 refine ah (bF (aK dX (aa 6 rfl) ai) (λh=>?_) (λh=>aW ?_))
 ·have h:y < 9:=of_decide_eq_true h
  generalize hsz:v.1.getD p.toNat 0=sz at szb ⊢
  obtain⟨bb,hbb,hf⟩:∃bb:Row,cS ([((p,1,0, -1):Row),(p,0,sz, -1),(p,0,0 - NV, -1),(p,0,1,p)]++[((p,0,1, -1 - NV):Row),(p,0,1,(v.1.length:Int)),((v.1.length:Int),0,1, -1)]++[((0 - NV,0,1, -1):Row),(p,sz,1, -1)]) y=some bb/\cX v.1 bb=false:=by
   have no:∀r:Row,(cX v.1 r=true->False)->cX v.1 r=false:=λr h=>not_true h
   rcases(show y=0∨y=1∨y=2∨y=3∨y=4∨y=5∨y=6∨y=7∨y=8 by omega) with z | z | z | z | z | z | z | z | z<;>rw[z]
   ·exact⟨_,rfl,no _ λh=>by unfold cX at h;simp at h⟩
   ·exact⟨_,rfl,no _ λh=>by unfold cX at h;rw[hsz] at h;simp at h⟩
   ·exact⟨_,rfl,no _ λh=>by unfold cX at h;simp at h<;>omega⟩
   ·exact⟨_,rfl,no _ λh=>by unfold cX at h;simp at h<;>omega⟩
   ·exact⟨_,rfl,no _ λh=>by unfold cX at h;simp at h<;>omega⟩
   ·exact⟨_,rfl,no _ λh=>by unfold cX at h;simp at h<;>omega⟩
   ·exact⟨_,rfl,no _ λh=>by unfold cX at h;simp at h⟩
   ·exact⟨_,rfl,no _ λh=>by unfold cX at h;simp at h<;>omega⟩
   ·exact⟨_,rfl,no _ λh=>by unfold cX at h;rw[hsz] at h;simp at h⟩
  refine ah (cL 7 (f9 M.list (a9 (aa 1 rfl))) ?_)
  obtain⟨z,Qk,z0,z1,Tu,Tr⟩:=bP Qh (by omega) (b:=(v.2.length:Int) + 1) (by omega) (by omega)
  refine ah (nG 7 (bo 0 CD hr (ae (bX (eA 7 M.len rfl) ai) aj) rfl rfl (Tr _)) (aN (aa 5 rfl) (aa 6 rfl) hbb) rfl rfl z0 (by omega) (Ko (show v.2.length<=1000 by omega) (by decide)) ?_)
  exact ao (eQ 0 (B:=bg) (rr:=aP (ak af) (ak bA)) (bS (ae (dm 2 rfl (aB (by omega))) (ae (dm 7 rfl (aB (by rw[gK];omega))) aj))) rfl ⟨Tu.mono (by omega),Cb (oF.mpr (.inl rfl)) hf,by show v.1.length<=1000;omega,by show(cJ _ _ _).length<=1000;rw[gK];omega⟩)
 refine ah (bF (aK cT (aa 6 rfl) ai) (λh=>?_) (λh=>aW ?_))
 ·refine ah (lS 2 (bX (eV 2 (aa 3 rfl) rfl rfl hn) ai) (aa 3 rfl) rfl rfl (eP p0 p1) ?_)
  exact ao (eQ 0 (B:=bg) (rr:=aP (ak af) (ak bA)) (bS (ae (dm 2 rfl (aB (by rw[Jp];omega))) (ae (aE.im (f9 M.list (a9 (aa 1 rfl)))) aj))) rfl ⟨Qh.mono (by omega),A0 hv p0 p1 (by rw[Ji (by omega)]),by show(List.set _ _ _).length<=1000;rw[Jp];omega,by show v.2.length<=1000;omega⟩)
 refine ah (bF (aK cT (aa 6 rfl) ai) (λh=>?_) (λh=>aW ?_))
 ·exact ao (eQ 0 (B:=bg) (rr:=aP (ak af) (ak bA)) (bS (ae (aE.im (cP (dm 2 rfl (aB (by omega))) (aE.im (aw (r:=af) (au ai aD) (by show 1<=K4;decide))) (aB (by show _ + 1<=_;omega)))) (ae (aE.im (cP (a9 (aa 1 rfl)) (aE.im (aw (r:=bA) (au (dR (ae (cK M.len (aa 2 rfl)) (ae ai (ae ai (ae (bW ai) aj))))) aD) (by show 1<=K4;decide))) (aB (by show _ + 1<=_;omega)))) aj))) rfl ⟨Qh.mono (by omega),ur hv,by show List.length (v.1++[2])<=1000;rw[IL];show _ + 1<=_;omega,by show List.length (v.2++[_])<=1000;rw[IL];show _ + 1<=_;omega⟩)
 refine ah (bF (aK cT (aa 6 rfl) ai) (λh=>?_) (λh=>aW ?_))
 ·exact ao (eQ 0 (B:=bg) (rr:=aP (ak af) (ak bA)) (bS (ae (dm 2 rfl (aB (by omega))) (ae (aE.im (aw (r:=bA) aD (by decide))) aj))) rfl ⟨Qh.mono (by omega),Ba _,by show v.1.length<=1000;omega,by show 0<=1000;decide⟩)
 ·exact ao (eQ 0 (B:=bg) (rr:=aP (ak af) (ak bA)) (bS (ae (aE.im (aw (r:=af) aD (by decide))) (ae (aE.im (f9 M.list (a9 (aa 1 rfl)))) aj))) rfl ⟨Qh.mono (by omega),xZ _,by show 0<=1000;decide,by show v.2.length<=1000;omega⟩)
end
theorem Bh {v:ay}{p:Int}{ns:Ib}{x:Int}(hx:x∈ns)(hb:x < 0∨N4 v p 0<=x):i7 v p ns=false:=by
 refine Iu.mpr λh=>?_
 unfold i7 at h
 have:=all_map.mp h x hx
 have:=Im.mp (by simpa using this:(decide (0<=x)&&decide (x < N4 v p 0))=true)
 have a:=of_decide_eq_true this.1
 have b:=of_decide_eq_true this.2
 omega
section
variable {C:Addr}
abbrev jG:Stmt:=top DT
abbrev Eh:Ic:=["_law_script","_law_purse_here","_law_web_here","_law_part_here","_law_far","_law_gone","_law_run","_law_rows","_law_marks_here","_law_many","_law_worth","_law_numbers","_law_way","_law_bad","_law_none","_law_due","_law_kept","_law_k"]
theorem Cs:aF Eh ["_law_script"] (ag jG):=ND
def qT:cf:=λK ps T=>∃ns:Ib,ps=[⟨fU,ns⟩]/\ns.length<=63/\(∀n∈ns,intBits n<=2 ^ 20)/\T=bL K aX (· =true)
def mD (b1 b2:Bool):List Ic:=[[],[],(Jd ((if b1 then 1 else 0:Int)).toNat [("run":Str)]).flatten,(Jd ((if b2 then 1 else 0:Int)).toNat [("way":Str)]).flatten]
noncomputable abbrev GL (ns:Ib)(a b:Addr)(s:Pu)(v:ay)(p NV gone:Int)(xs:Ib)(r:Ga):Ga:=.im fU ns:: .ob (bg.bx a b s)::bB v::av p::av NV::av gone::bH xs:: .im (ak bA) (dz v p (Nk v p)):: .im (ak (aP cD af)) (df v p (Nk v p))::av (N4 (cF v p) 0 0)::bH (cz (cF v p) 0 (N4 (cF v p) 0))::r
def Ae (v:ay)(p bad:Int)(nums:Ib):Prop:=nums.length<=30/\((bad < 4/\i7 (cF v p) 0 nums=false)∨(¬bad < 4/\uw v p nums))
theorem Er {k:Int}{v:ay}{p bad:Int}{xs n:Ib}(hv:aY v)(hle:v.2.length<=30)(p0:0<=p)(p1:p < (v.1.length:Int))(hl:xs.length<=100)(k0:0<=k)(k3:k<=3)(hn:Ae v p bad n)(Sl:ax P w K mg base "_law_refused" 14 (aG (l6 Dp []) K))(CG2:ax P w K mg base "_law_refused" 14 (aG (l6 Cg [("run":Str)]) K))(CG3:ax P w K mg base "_law_refused" 14 (aG (l6 Ca [("way":Str)]) K)):∃d,cS (mD (!bD v p 0 xs) (decide (bad < 4))) k=some d/\∃S:cf,ax P w K mg base "_law_refused" 14 (aG S K)/\S K (sI k v p xs n) (bL K (ak cD) (· =d)):=by
 rcases(show k=0∨k=1∨k=2∨k=3 by omega) with rfl | rfl | rfl | rfl
 ·exact⟨[],rfl,_,Sl,0,v,p,xs,n,rfl,⟨hv,hle,p0,p1,λh=>absurd h (by decide),λh=>absurd h (by decide)⟩,rfl⟩
 ·exact⟨[],rfl,_,Sl,1,v,p,xs,n,rfl,⟨hv,hle,p0,p1,λh=>absurd h (by decide),λh=>absurd h (by decide)⟩,rfl⟩
 ·cases ht:bD v p 0 xs with
  | true=>exact⟨[],rfl,_,Sl,2,v,p,xs,n,rfl,⟨hv,hle,p0,p1,λ_=>⟨by omega,ht⟩,λh=>absurd h (by decide)⟩,rfl⟩
  | false=>exact⟨[("run":Str)],rfl,_,CG2,2,v,p,xs,n,rfl,⟨rfl,hv,p0,p1,by omega,ht⟩,rfl⟩
 ·rcases hn.2 with⟨hb,hn⟩ | ⟨hb,hn⟩
  ·rw[decide_eq_true hb]
   exact⟨[("way":Str)],rfl,_,CG3,3,v,p,xs,n,rfl,⟨rfl,hv,hle,p0,p1,hn⟩,rfl⟩
  ·rw[decide_eq_false hb]
   exact⟨[],rfl,_,Sl,3,v,p,xs,n,rfl,⟨hv,hle,p0,p1,λh=>absurd h (by decide),λ_=>hn⟩,rfl⟩
theorem Fj (M:bR mg)(CU:ax P w K mg base "_law_purse" 1 (aG Gp K))(CD:ax P w K mg base "_law_draw" 1 (eo bg me K))(CW:ax P w K mg base "_law_web" 4 (eo bg GH K))(CC:ax P w K mg base "_law_copy" 1 (aG GJ K))(CM:ax P w K mg base "_law_marked" 20 (aG GF K))(CO:ax P w K mg base "_law_on" 2 (aG qu K))(CT:ax P w K mg base "_law_worths" 3 (aG GG K))(CR:ax P w K mg base "_law_own_run" 2 (eo bg Gy K))(CE:ax P w K mg base "_law_fell" 1 (aG G3 K))(CB:ax P w K mg base "_law_bent" 2 (eo bg Gx K))(CN:ax P w K mg base "_law_no_web" 2 (eo bg Cw K))(CF:ax P w K mg base "_law_goes" 2 (aG GR K))
 (Sl:ax P w K mg base "_law_refused" 14 (aG (l6 Dp []) K)) (CG2:ax P w K mg base "_law_refused" 14 (aG (l6 Cg [("run":Str)]) K)) (CG3:ax P w K mg base "_law_refused" 14 (aG (l6 Ca [("way":Str)]) K)) (CG4:ax P w K mg base "_law_refused" 14 (aG (l6 (zg zw) [("way":Str)]) K)) (CG5:ax P w K mg base "_law_refused" 14 (aG (l6 (zg zL) [("web":Str)]) K)) (F:bC K "law" "law" jG f fd):fH P w K mg base dW 21 f fd ["_law_script"] (aG qT K):=by
 have nd:=Cs.nd
 have Pj:Jl [("_law_at":Str),"_law_worth"]:=by decide
 have CU:=CU.mono (show 1<=20 by decide)
 have CD:=CD.mono (show 1<=20 by decide)
 have CW:=CW.mono (show 4<=20 by decide)
 have CC:=CC.mono (show 1<=20 by decide)
 have CO:=CO.mono (show 2<=20 by decide)
 have CT:=CT.mono (show 3<=20 by decide)
 have CR:=CR.mono (show 2<=20 by decide)
 have CE:=CE.mono (show 1<=20 by decide)
 have CB:=CB.mono (show 2<=20 by decide)
 have CN:=CN.mono (show 2<=20 by decide)
 have CF:=CF.mono (show 2<=20 by decide)
 have CG4:=CG4.mono (show 14<=20 by decide)
 have CG5:=CG5.mono (show 14<=20 by decide)
 refine vx F Cs (λqs T ⟨_,e,_⟩=>by rw[e];rfl) (λNl A outer s H E qs T hr hS=>?_)
 obtain⟨ns,rfl,hlen,Oz,rfl⟩:=hS
 have hu:∀n,n<=8->(A.deeper (KP "law" (ag jG) s.heap.objs.size f Nl)).units + n < cLine:=λn hn=>Ko (Ks (by omega:n<=64) _) hr.units
 have QS:=hu 1 (by decide)
 have hu4:=hu 4 (by decide)
 change WS _ _ [.im fU ns,.no,.no,.no,.no,.no,.no,.no,.no,.no,.no,.no,.no,.no,.no,.no,.no,.no] _ _
 refine ah (yh 1 CU hr (ae (aa 0 rfl) aj) ⟨ns,rfl,hlen,Oz,rfl⟩ ?_)
 intro a b st hP
 refine ah (mB 1 CW hr (ae dC aj) rfl rfl ⟨_,false,hP,by decide,rfl,rfl⟩ (aI 2) ?_)
 rintro OE v ⟨Om,hL⟩
 change WS _ _ [.im fU ns,.ob (bg.bx a b OE),bB v,.no,.no,.no,.no,.no,.no,.no,.no,.no,.no,.no,.no,.no,.no,.no] _ _
 have hv:=hL.g
 have hle:=hL.le
 have pl:=hv.pl
 have rl:=hv.rl
 obtain⟨p,OT,p0,p1,OK,Px⟩:=bP Om (by decide) (b:=(v.1.length:Int)) (by omega) (by omega)
 refine ah (aO 3 (bo 1 CD hr (ae (cK M.len (c8 (aa 2 rfl))) aj) rfl rfl (Px _)) ?_)
 change WS _ _ [.im fU ns,.ob (bg.bx a b OT),bB v,av p,.no,.no,.no,.no,.no,.no,.no,.no,.no,.no,.no,.no,.no,.no] _ _
 obtain⟨hW,hR⟩:=jW hv hle p0 p1
 have W1:(0:Int) < ((cF v p).1.length:Int):=by show(0:Int) < ((1:Nat):Int);decide
 have hs:=hW.sz ((cF v p).1.getD (0:Int).toNat 0) (by rw[IJ,IF (by omega)];exact Jb _)
 obtain⟨d,OB,d0,d1,OJ,O2⟩:=bP OK (by decide) (b:=(10:Int) ^ (15:Int).toNat) (by decide +kernel) (by decide +kernel)
 obtain⟨e,Su,e0,e1,Qh,Ts⟩:=bP OJ (by decide) (b:=(10:Int) ^ (14:Int).toNat) (by decide +kernel) (by decide +kernel)
 have dx:0<=d * (10:Int) ^ (14:Int).toNat:=Int.mul_nonneg d0 (by decide +kernel)
 refine ah (aO 4 (bX (nA (bo 1 CD hr (ae (gG ai ai ⟨by decide,by decide,by decide⟩) aj) rfl rfl (O2 _)) (gG ai ai ⟨by decide,by decide,by decide⟩) (.inr ⟨by decide +kernel,by decide +kernel⟩)) (bo 1 CD hr (ae (gG ai ai ⟨by decide,by decide,by decide⟩) aj) rfl rfl (Ts _))) ?_)
 have fr0:0<=d * (10:Int) ^ (14:Int).toNat + e:=by omega
 generalize d * (10:Int) ^ (14:Int).toNat + e=NV at fr0 ⊢
 change WS _ _ [.im fU ns,.ob (bg.bx a b Su),bB v,av p,av NV,.no,.no,.no,.no,.no,.no,.no,.no,.no,.no,.no,.no,.no] _ _
 obtain⟨t,Qk,t0,t1,Tu,Tr⟩:=bP Qh (by decide) (b:=4) (by decide) (by decide)
 obtain⟨gone,Ta,P0⟩:∃q:Int,cS [(-1:Int),(v.1.length:Int),(v.1.length:Int) + NV, -1 - NV] t=some q/\(q < 0∨(v.1.length:Int)<=q):=by
  rcases(show t=0∨t=1∨t=2∨t=3 by omega) with z | z | z | z<;>rw[z]<;>exact⟨_,rfl,by omega⟩
 refine ah (aO 5 (aN (aE.im (aw (r:=af) (au (bW ai) (au (cK M.len (c8 (aa 2 rfl))) (au (bX (cK M.len (c8 (aa 2 rfl))) (aa 4 rfl)) (au (dy (bW ai) (aa 4 rfl)) aD)))) (by show 4<=K4;decide))) (bo 1 CD hr (ae ai aj) rfl rfl (Tr _)) Ta) ?_)
 change WS _ _ [.im fU ns,.ob (bg.bx a b Qk),bB v,av p,av NV,av gone,.no,.no,.no,.no,.no,.no,.no,.no,.no,.no,.no,.no] _ _
 have ne:∀z:Ib,bD v p 0 z=true->1<=z.length:=λz hz=>by
  cases z with
  | nil=>exact absurd hz (by unfold bD;decide)
  | cons _ _=>simp
 refine ah (yy 1 (rr:=ak af) (Pd:=λs' (ys:Ib)=>cR (3000 + 10) s'/\ys.length<=100) CB hr (tf (aa 2 rfl) (pX 1 CR hr (ae (aa 2 rfl) (ae (aa 3 rfl) (ae ai aj))) rfl rfl ⟨_,v,p,12,Tu,by decide,by decide,rfl,hv,p0,p1,by decide,by decide,rfl⟩ (λs' z hz=>zB aj))) rfl ?_ (aI 6) ?_)
 ·rintro ps Γ1 ⟨_,rfl,s',z,_,⟨QH,ht,hl⟩,rfl,rfl,rfl⟩
  exact⟨s',rfl,3000,v,z,QH.mono (by omega),by decide,by decide,rfl,hv,ne z ht,by omega,rfl⟩
 rintro ps Γ1 Ss xs ⟨_,rfl,s',z,_,_,rfl,rfl,rfl⟩ ⟨hP6,hxl⟩
 change WS _ _ [.im fU ns,.ob (bg.bx a b Ss),bB v,av p,av NV,av gone,bH xs,.no,.no,.no,.no,.no,.no,.no,.no,.no,.no,.no] _ _
 refine ah (zp (bc CM hr (ae (aa 2 rfl) (ae (aa 3 rfl) aj)) ⟨v,p,rfl,hv,p0,p1,rfl⟩) (gZ 7 8) ?_)
 change WS _ _ [.im fU ns,.ob (bg.bx a b Ss),bB v,av p,av NV,av gone,bH xs,.im (ak bA) (dz v p (Nk v p)),.im (ak (aP cD af)) (df v p (Nk v p)),.no,.no,.no,.no,.no,.no,.no,.no,.no] _ _
 refine ah (aO 9 (y:=N4 (cF v p) 0 0) (kI QS CO hr (ae (bS (ae (aE.im (aw (au (aN (c8 (aa 2 rfl)) (aa 3 rfl) (bY p0 p1)) aD) (by show 1<=K4;decide))) (ae (aa 7 rfl) aj))) (ae ai aj)) ⟨cF v p,0,rfl,hW,by decide,W1,hR,rfl⟩ ai (λF ⟨h1,h2⟩=>eL.get hW (by decide) W1 hR h1 h2 (by decide) (by omega))) ?_)
 change WS _ _ [.im fU ns,.ob (bg.bx a b Ss),bB v,av p,av NV,av gone,bH xs,.im (ak bA) (dz v p (Nk v p)),.im (ak (aP cD af)) (df v p (Nk v p)),av (N4 (cF v p) 0 0),.no,.no,.no,.no,.no,.no,.no,.no] _ _
 refine ah (iU 10 CT hr (ae (bS (ae (aE.im (aw (au (aN (c8 (aa 2 rfl)) (aa 3 rfl) (bY p0 p1)) aD) (by show 1<=K4;decide))) (ae (aa 7 rfl) aj))) (ae ai aj)) ⟨cF v p,0,rfl,hW,by decide,W1,hR,rfl⟩ ?_)
 rintro ws ⟨g,hE,rfl⟩
 rw[kA hW (by decide) W1 hR hE (iY hW (by decide) W1 hR)]
 change WS _ _ (GL ns a b Ss v p NV gone xs [.no,.no,.no,.no,.no,.no,.no]) _ _
 have wl:(cz (cF v p) 0 (N4 (cF v p) 0)).length=(cF v p).2.length:=by unfold cz;rw[IM,aC]
 refine ah (cL 11 (r:=af) (aw aD (by decide)) ?_)
 change WS _ _ (GL ns a b Ss v p NV gone xs [.mu af [],.no,.no,.no,.no,.no,.no]) _ _
 have rest:∀(st:Pu) (nums:Ib) (bad:Int) (OS:Ent),cR 9000 st->Ae v p bad nums->WS (bQ dW P w K mg base Eh "law" (ag jG) f Nl A outer s H E).cO ((bG jG).drop 13) (GL ns a b st v p NV gone xs [.mu af nums,OS,av bad,.no,.no,.no,.no]) (λ_=>False) (bL K aX (· =true)):=by
  intro st nums bad OS hPq hB
  refine WS.freeze 11 rfl (aB (by have:=hB.1;omega)) ?_
  change WS _ _ (GL ns a b st v p NV gone xs [bH nums,OS,av bad,.no,.no,.no,.no]) _ _
  refine ah (mB 1 CN hr (ae (aa 2 rfl) aj) rfl rfl ⟨_,v,hPq,by decide,by decide,rfl,hv,rfl⟩ (aI 14) ?_)
  rintro RY u ⟨_,hw,l1,l2⟩
  change WS _ _ (GL ns a b RY v p NV gone xs [bH nums,OS,av bad,bB u,.no,.no,.no]) _ _
  refine ah (aO 15 (y:=mD (!bD v p 0 xs) (decide (bad < 4))) (aE.im (aw (r:=ak cD) (au (aE.im (aw (r:=cD) aD (by decide))) (au (aE.im (aw (r:=cD) aD (by decide))) (au (aE.im (iP (aE.im (aw (r:=cD) (au dU aD) (by show 1<=K4;decide))) (tI M.int (xE (bc CF hr (ae (aa 2 rfl) (ae (aa 3 rfl) (ae (aa 6 rfl) aj))) ⟨v,p,xs,rfl,by omega,by omega,rfl⟩))) (by split<;>decide) (by split<;>decide) (by split<;>(show 1 * _<=K4;decide)))) (au (aE.im (iP (aE.im (aw (r:=cD) (au dU aD) (by show 1<=K4;decide))) (tI M.int (fF dX (aa 13 rfl) ai)) (by split<;>decide) (by split<;>decide) (by split<;>(show 1 * _<=K4;decide)))) aD)))) (by show 4<=K4;decide))) ?_)
  change WS _ _ (GL ns a b RY v p NV gone xs [bH nums,OS,av bad,bB u,.im (ak (ak cD)) (mD (!bD v p 0 xs) (decide (bad < 4))),.no,.no]) _ _
  refine ah (aO 16 (aE.im (aw (r:=kB br (ak af)) (au (EV.inl (bc CC hr (ae (aa 2 rfl) aj) ⟨v,rfl,rfl⟩)) (au (EV.inl (bc CC hr (ae (aa 14 rfl) aj) ⟨u,rfl,rfl⟩)) (au (EV.inr (aE.im (f9 M.list (aa 6 rfl)))) (au (EV.inr (aE.im (f9 M.list (aa 11 rfl)))) aD)))) (by show 4<=K4;decide))) ?_)
  change WS _ _ (GL ns a b RY v p NV gone xs [bH nums,OS,av bad,bB u,.im (ak (ak cD)) (mD (!bD v p 0 xs) (decide (bad < 4))),.im (ak (kB br (ak af))) [.inl v,.inl u,.inr xs,.inr nums],.no]) _ _
  refine ah (cB (r:=af) (λi Γ=>∃v17,Γ=GL ns a b RY v p NV gone xs [bH nums,OS,av bad,bB u,.im (ak (ak cD)) (mD (!bD v p 0 xs) (decide (bad < 4))),.im (ak (kB br (ak af))) [.inl v,.inl u,.inr xs,.inr nums],v17]) (d5 M.range ai ⟨by decide,by decide⟩) (aI 17) ⟨_,rfl⟩ ?_ ?_)
  ·rintro i k Γ hk ⟨v17,rfl⟩
   have kb:=bj.mp (IQ hk)
   have k3:k<=3:=by omega
   obtain⟨du,hdu,S,hC,hSS⟩:=Er (P:=P) (w:=w) (K:=K) (mg:=mg) (base:=base) hv hle p0 p1 hxl kb.1 k3 hB Sl CG2 CG3
   have hC:=hC.mono (show 14<=20 by decide)
   change WS _ _ (GL ns a b RY v p NV gone xs [bH nums,OS,av bad,bB u,.im (ak (ak cD)) (mD (!bD v p 0 xs) (decide (bad < 4))),.im (ak (kB br (ak af))) [.inl v,.inl u,.inr xs,.inr nums],av k]) _ _
   refine ah (bF (TW.tv (ig (aK (pI (r:=cD) eq_str QS) (bc hC hr (ae (aa 17 rfl) (ae (aa 2 rfl) (ae (aa 3 rfl) (ae (aa 6 rfl) (ae (aa 11 rfl) aj))))) hSS) (aN (aa 15 rfl) (aa 17 rfl) hdu)) (λ_=>fY (aK (pI (r:=cD) eq_str QS) (bc CG4 hr (ae (aa 17 rfl) (ae (aa 2 rfl) (ae (aa 5 rfl) (ae (aa 6 rfl) (ae (aa 11 rfl) aj))))) ⟨k,v,gone,xs,nums,rfl,⟨kb.1,k3,hv,by
    rcases P0 with z | z
    ·rw[decide_eq_false (show¬0<=gone by omega)];rfl
    ·rw[decide_eq_false (show¬gone < (v.1.length:Int) by omega)];simp⟩,rfl⟩) (aE.im (aw (r:=cD) (au dU aD) (by show 1<=K4;decide))))))) (λh=>?_) (λ_=>aW ?_))
   ·simp at h
   change WS _ _ (GL ns a b RY v p NV gone xs [bH nums,OS,av bad,bB u,.im (ak (ak cD)) (mD (!bD v p 0 xs) (decide (bad < 4))),.im (ak (kB br (ak af))) [.inl v,.inl u,.inr xs,.inr nums],av k]) _ _
   refine ao (bF (TW.tv (ig (aK (pI (r:=cD) eq_str QS) (bc CG5 hr (ae (aa 17 rfl) (ae (aa 14 rfl) (ae (aa 5 rfl) (ae (aa 6 rfl) (ae (aa 11 rfl) aj))))) ⟨k,u,gone,xs,nums,rfl,⟨kb.1,k3,l1,l2,hw⟩,rfl⟩) (aE.im (aw (r:=cD) (au dU aD) (by show 1<=K4;decide)))) (λ_=>fY (aK (pI (r:=cD) eq_str QS) (bc CG5 hr (ae (aa 17 rfl) (ae (aa 14 rfl) (ae (aa 3 rfl) (ae (aa 6 rfl) (ae (aa 11 rfl) aj))))) ⟨k,u,p,xs,nums,rfl,⟨kb.1,k3,l1,l2,hw⟩,rfl⟩) (aE.im (aw (r:=cD) (au dU aD) (by show 1<=K4;decide))))))) (λh=>?_) (λ_=>aW ⟨_,rfl⟩))
   simp at h
  ·rintro Γ ⟨v17,rfl⟩
   exact ao (bT (fF (zQ (α:=(Ib×List Row) ⊕ Ib) (r:=kB (aP (ak af) (ak bA)) (ak af)) (Bk (n:=3) (m:=1) (k:=3) (sT (eq_list eq_int) (eq_list DH) (by decide) (by decide)) (eq_list eq_int) (by decide) (by decide)) hu4) (aE.im (aw (au (EV.inl (aa 2 rfl)) (au (EV.inl (aa 14 rfl)) (au (EV.inr (aa 6 rfl)) (au (EV.inr (aa 11 rfl)) aD)))) (by show 4<=K4;decide))) (aa 16 rfl)) (by simp))
 refine ah (BE (r:=ak af) (P:=λL Γ=>∃(s':Pu) (run:Ib),Γ=GL ns a b s' v p NV gone xs [.mu af [],.no,.no,.no,.no,.no,.no]/\cR 4000 s'/\bD v p 0 run=true/\run.length<=19/\L=eG v p (Nk v p) [] run)
  (λL i Γ=>∃(s':Pu) (OS:Ent),Γ=GL ns a b s' v p NV gone xs [.mu af ((L.take i).map (ef v p)),OS,.no,.no,.no,.no,.no]/\cR 4000 s') (yF (xN CE hr (tf (aa 8 rfl) (pX 1 CR hr (ae (aa 2 rfl) (ae (aa 3 rfl) (ae ai aj))) rfl rfl ⟨_,v,p,4,hP6,by decide,by decide,rfl,hv,p0,p1,by decide,by decide,rfl⟩ (λs' z hz=>zB aj))) ?hS)) (aI 12) ?_ ?_ ?_)
 case hS=>
  rintro ps Γ1 ⟨_,rfl,s',z,_,⟨QH,ht,hl⟩,rfl,rfl,rfl⟩
  exact⟨_,⟨v,p,z,rfl,by omega,nS ht,rfl⟩,λys hy=>⟨s',z,rfl,QH.mono (by omega),ht,by omega,hy⟩⟩
 ·rintro L Γ1 ⟨s',run,rfl,QH,_⟩
  exact⟨s',_,rfl,QH⟩
 ·rintro L ⟨_,_,run,_,_,ht,hl,rfl⟩ i way Γ hi ⟨s',OS,rfl,QH⟩
  have wm:=IQ hi
  have hw:=n5 ht way wm
  have il:=(IG.mp hi).1
  have pb:=(jR (v:=v) (p:=p) (C:=Nk v p) run []).1
  have tk:(eG v p (Nk v p) [] run).take (i + 1)=(eG v p (Nk v p) [] run).take i++[way]:=by rw[JD,hi];rfl
  have ew:((way.filter λ_=>true).map λk=>(cz (cF v p) 0 (N4 (cF v p) 0)).getD k.toNat 0).sum=ef v p way:=by
   unfold ef;rw[Jr.mpr (by simp)]
  refine ao (bU 11 (ny M.sum (aE.im (bK (own:=["_law_at"]) (fr:=["_law_worth"]) (ix:=[10]) (ra:=af) (rb:=af) (p:=λ_=>true) (f:=λk=>(cz (cF v p) 0 (N4 (cF v p) 0)).getD k.toNat 0) (bu (so:=ag jG) (N0:=Eh) rfl rfl (λx h=>aU h) (by decide +kernel)) (aT (aa 12 rfl))
   (λC s H ex=>aI 0) (λx=>⟨.inr rfl,.inl rfl,trivial⟩) (λC s H ex x hx=>cg) (λC s H ex k hk _=>aN (aa 1 rfl) (aa 0 rfl) (by have:=iW hw k hk;exact bY this.1 (by omega)))))) rfl rfl (Ko (show _<=10000 by rw[IM,Jm];omega) (by decide)) ?_)
  rw[ew]
  exact⟨s',_,by rw[tk,Jq];rfl,QH⟩
 rintro L ⟨_,_,run,_,_,ht,hl,rfl⟩ Γ ⟨s',OS,rfl,QH⟩
 rw[Jz]
 have pb:=(jR (v:=v) (p:=p) (C:=Nk v p) run []).1
 have good:uw v p ((eG v p (Nk v p) [] run).map (ef v p)):=⟨_,rfl,by omega,n5 ht⟩
 have nl:((eG v p (Nk v p) [] run).map (ef v p)).length<=20:=by rw[IM];omega
 generalize (eG v p (Nk v p) [] run).map (ef v p)=nums at good nl ⊢
 change WS _ _ (GL ns a b s' v p NV gone xs [.mu af nums,OS,.no,.no,.no,.no,.no]) _ _
 obtain⟨bad,st9,b0,b1,hP9,hS9⟩:=bP QH (by decide) (b:=5) (by decide) (by decide)
 refine ah (aO 13 (bo 1 CD hr (ae ai aj) rfl rfl (hS9 _)) ?_)
 change WS _ _ (GL ns a b st9 v p NV gone xs [.mu af nums,OS,av bad,.no,.no,.no,.no]) _ _
 refine ah (bF (aK dX (aa 13 rfl) ai) (λh=>?_) (λh=>aW (rest st9 nums bad OS (hP9.mono (by decide)) ⟨by omega,.inr ⟨of_decide_eq_false h,good⟩⟩)))
 have h:bad < 4:=of_decide_eq_true h
 obtain⟨y,st10,y0,y1,hP10,hS10⟩:=bP hP9 (by decide) (b:=(nums.length:Int) + 1) (by omega) (by omega)
 obtain⟨x,hx,hxb⟩:∃x:Int,cS [(-1:Int),N4 (cF v p) 0 0,N4 (cF v p) 0 0 + NV, -1 - NV] bad=some x/\(x < 0∨N4 (cF v p) 0 0<=x):=by
  rcases(show bad=0∨bad=1∨bad=2∨bad=3 by omega) with z | z | z | z<;>rw[z]<;>exact⟨_,rfl,by omega⟩
 refine ao (nG 11 (bo 1 CD hr (ae (bX (eA 11 M.len rfl) ai) aj) rfl rfl (hS10 _)) (aN (aE.im (aw (r:=af) (au (bW ai) (au (aa 9 rfl) (au (bX (aa 9 rfl) (aa 4 rfl)) (au (dy (bW ai) (aa 4 rfl)) aD)))) (by show 4<=K4;decide))) (aa 13 rfl) hx) rfl rfl y0 (by omega) (Ko (show _<=10000 by omega) (by decide)) ?_)
 exact rest st10 (cJ y.toNat x nums) bad OS (hP10.mono (by decide)) ⟨by rw[gK];omega,.inl ⟨h,Bh (oF.mpr (.inl rfl)) hxb⟩⟩
end
section
variable {h:Heap}
structure qL (K:MP) (mg:HZ) (x:Str) (D:Addr) (b1 b2 b3 b4 b5:Bool):Prop where
 own:lh K mg x D
 ce:∃CE,mg "CountError"=some (.ref CE)/\M7 K (.ref D) (.ref CE)=some true
 fa:GZ K mg D b1 b2 b3 b4 b5
theorem pS (KX:K.In h)(G:h.Ns K5 mg)(x:Str)(b1 b2 b3 b4 b5:Bool){D CE C1 C2 C3 C4 C5 P1 P2 P3 P4 P5 P6 P7 P8 P9 P10 P11 P12:Addr}{cd:ClassData}
 (e1:MQ K K5 x=some (some (.ref D))) (e2:MQ K K5 "CountError"=some (some (.ref CE))) (f1:MQ K K5 "NoWeb"=some (some (.ref C1))) (f2:MQ K K5 "NoWay"=some (some (.ref C2))) (f3:MQ K K5 "NoLoose"=some (some (.ref C3))) (f4:MQ K K5 "NoRun"=some (some (.ref C4))) (f5:MQ K K5 "NoChain"=some (some (.ref C5))) (g1:MQ K K5 "NoAnswer"=some (some (.ref P1))) (g2:MQ K K5 "NoChoice"=some (some (.ref P2))) (g3:MQ K K5 "NoCode"=some (some (.ref P3))) (g4:MQ K K5 "NoCounts"=some (some (.ref P4))) (g5:MQ K K5 "NoGuess"=some (some (.ref P5))) (g6:MQ K K5 "NoLog"=some (some (.ref P6))) (g7:MQ K K5 "NoMarks"=some (some (.ref P7))) (g8:MQ K K5 "NoName"=some (some (.ref P8))) (g9:MQ K K5 "NoPlan"=some (some (.ref P9))) (RQ:MQ K K5 "NoProgram"=some (some (.ref P10))) (RO:MQ K K5 "NoRow"=some (some (.ref P11))) (RM:MQ K K5 "NoText"=some (some (.ref P12))) (e6:MQ K K5 "ValueError"=some none)
 (q1:Nf K D Dz "ValueError.__new__"=true) (q2:M7 K (.ref D) (.ref CE)=some true) (r0:M5 K (.ref D) "__getattribute__"=some (some (.builtin "BaseException.__getattribute__"))) (r1:M5 K (.ref D) "__getattr__"=some none) (r2:M5 K (.ref D) "__class__"=some (some (.builtin "object.__class__"))) (r3:PySem.W.specialIn K (.builtin "object.__class__") "__get__"=some (some (.builtin "getset_descriptor.__get__"))) (r4:PySem.W.takesIn K (.builtin "object.__class__")=some true) (r5:PySem.W.mroIn K D (.type "object")=some true) (r7:PySem.W.subIn K (.ref D) (.type "BaseException")=some true) (r6:PySem.W.clsIn K D=some cd)
 (k1:MX K (.ref D) (.ref C1)=some b1) (k2:MX K (.ref D) (.ref C2)=some b2) (k3:MX K (.ref D) (.ref C3)=some b3) (k4:MX K (.ref D) (.ref C4)=some b4) (k5:MX K (.ref D) (.ref C5)=some b5) (o1:M8 K (.ref D) [.ref P1,.ref P2,.ref P3]=some false) (o2:M8 K (.ref D) [.ref P4,.ref P5,.ref P6]=some false) (o3:M8 K (.ref D) [.ref P7,.ref P8,.ref P9]=some false) (o4:M8 K (.ref D) [.ref P10,.ref P11,.ref P12]=some false) (q6:MX K (.ref D) (.type "ValueError")=some true):∃D,qL K mg x D b1 b2 b3 b4 b5:=
 ⟨D,⟨MS KX G e1,q1⟩,⟨CE,MS KX G e2,q2⟩,⟨by unfold dZ;rw[r0,r1,r2,r3,r4,r5,r7,r6];rfl,⟨C1,MS KX G f1,k1⟩,⟨C2,MS KX G f2,k2⟩,⟨C3,MS KX G f3,k3⟩,⟨C4,MS KX G f4,k4⟩,⟨C5,MS KX G f5,k5⟩,⟨P1,P2,P3,MS KX G g1,MS KX G g2,MS KX G g3,o1⟩,⟨P4,P5,P6,MS KX G g4,MS KX G g5,MS KX G g6,o2⟩,⟨P7,P8,P9,MS KX G g7,MS KX G g8,MS KX G g9,o3⟩,⟨P10,P11,P12,MS KX G RQ,MS KX G RO,MS KX G RM,o4⟩,MT KX G e6,q6⟩⟩
structure Top (K:MP) (mg:HZ):Prop where
 M:bR mg
 X1:∃C,qL K mg "NoWeb" C true false false false false
 X2:∃C,qL K mg "NoWay" C false true false false false
 X3:∃C,qL K mg "NoRun" C false false false true false
 IW:Def K mg "is_whole" zW ["value"]
 AW:Def K mg "are_whole" tq ["values"]
 RF:Def K mg "has_row_form" z8 ["row"]
 WF:Def K mg "has_web_form" wk ["web"]
 WZ:Def K mg "has_web_sizes" wy ["web"]
 LW:Def K mg "leads_within" zM ["places","row"]
 IC:Def K mg "is_called" wA ["rows","part"]
 RE:Def K mg "reached" z7 ["leads","start"]
 LO:Def K mg "lies_on_ways" sP ["rows","part","size"]
 WE:Def K mg "is_web" qE ["web"]
 NW:Def K mg "need_web" zK ["web"]
 IP:Def K mg "is_part" wX ["web","part"]
 NP:Def K mg "need_part" sV ["web","part"]
 RV:Def K mg "rows_leaving" vh ["web","part"]
 WN:Def K mg "ways_on" oY ["web","part"]
 WI:Def K mg "worths_in" vY ["web","part"]
 RW:Def K mg "is_row" zX ["web","number"]
 CG:Def K mg "can_go" xA ["web","stack","number"]
 LT:Def K mg "leads_through" zP ["web","part","rows"]
 YB:Def K mg "way_by" xK ["web","known","leaving","number"]
 WS:Def K mg "ways_of" lY ["web","part","numbers"]
 CU:Def K mg "cuts" vp ["web","part"]
 LY:Def K mg "laid_out" rH ["web","part"]
 SW:Def K mg "stretch_web" qf ["web","part"]
 FN:Def K mg "fallen" xq ["web","part","rows"]
 CB:Def K mg "counts_by" sE ["web","part","numbers"]
 ST:Def K mg "stretches" pf ["web","part","rows"]
 DR:Def K mg "_law_draw" zI ["_law_purse_here","_law_out_of"]
 PU:Def K mg "_law_purse" rq ["_law_script"]
 OR:Def K mg "_law_order" zH ["_law_purse_here","_law_many"]
 PT:Def K mg "_law_part" lu ["_law_purse_here","_law_many","_law_loose"]
 CL:Def K mg "_law_called" vB ["_law_purse_here","_law_rows","_law_parts"]
 WB:Def K mg "_law_web" tR ["_law_purse_here","_law_loose"]
 CP:Def K mg "_law_copy" vm ["_law_web_here"]
 FR:Def K mg "_law_from" sG ["_law_web_here","_law_part_here","_law_place"]
 ON:Def K mg "_law_on" oS ["_law_web_here","_law_part_here"]
 WO:Def K mg "_law_worths" vW ["_law_web_here","_law_part_here"]
 NE:Def K mg "_law_near" vo ["_law_web_here","_law_part_here"]
 OU:Def K mg "_law_own_run" oX ["_law_purse_here","_law_web_here","_law_part_here","_law_most"]
 LG:Def K mg "_law_go" zE ["_law_web_here","_law_part_here","_law_standing","_law_left","_law_cut"]
 LC:Def K mg "_law_cuts" Ad ["_law_web_here","_law_part_here"]
 MK:Def K mg "_law_marked" zJ ["_law_web_here","_law_part_here"]
 FE:Def K mg "_law_fell" xv ["_law_marks_here","_law_run"]
 GO:Def K mg "_law_goes" z5 ["_law_web_here","_law_part_here","_law_rows"]
 BT:Def K mg "_law_bent" zU ["_law_purse_here","_law_web_here","_law_run"]
 NO8:Def K mg "_law_no_web" uC ["_law_purse_here","_law_web_here"]
 MR:Def K mg "_law_marks" rD ["_law_caught"]
 AS:Def K mg "_law_asked" jK ["_law_k","_law_web_here","_law_part_here","_law_run","_law_numbers"]
 RG:Def K mg "_law_refused" qK ["_law_k","_law_web_here","_law_part_here","_law_run","_law_numbers"]
theorem BZ {P:K7}{w:World}{base:Heap}{f:Addr}{fd:Ld}(T:Top K mg)(F:bC K "law" "law" jG f fd):fH P w K mg base dW 21 f fd ["_law_script"] (aG qT K):=by
 have M:=T.M
 obtain⟨D1,X1⟩:=T.X1
 obtain⟨CE1,hCE1,hex1⟩:=X1.ce
 obtain⟨D2,X2⟩:=T.X2
 obtain⟨CE2,Tx,hex2⟩:=X2.ce
 obtain⟨D3,X3⟩:=T.X3
 obtain⟨CE3,hCE3,hex3⟩:=X3.ce
 obtain⟨_,_,F1,m1,b1⟩:=T.IW
 have IW:=F4 (P:=P) (w:=w) (base:=base) M F1 m1 b1
 obtain⟨_,_,F1,m1,b1⟩:=T.AW
 have AW:=Ge (P:=P) (w:=w) (base:=base) M IW F1 m1 b1
 obtain⟨_,_,F1,m1,b1⟩:=T.RF
 have RF:=Gb (P:=P) (w:=w) (base:=base) M AW F1 m1 b1
 obtain⟨_,_,F1,m1,b1⟩:=T.WF
 have WF:=FX (P:=P) (w:=w) (base:=base) M AW RF F1 m1 b1
 obtain⟨_,_,F1,m1,b1⟩:=T.WZ
 have WZ:=Fb (P:=P) (w:=w) (base:=base) M F1 m1 b1
 obtain⟨_,_,F1,m1,b1⟩:=T.LW
 have LW:=Fp (P:=P) (w:=w) (base:=base) M F1 m1 b1
 obtain⟨_,_,F1,m1,b1⟩:=T.IC
 have IC:=F6 (P:=P) (w:=w) (base:=base) M F1 m1 b1
 obtain⟨_,_,F1,m1,b1⟩:=T.RE
 have RE:=FW (P:=P) (w:=w) (base:=base) F1 m1 b1
 obtain⟨_,_,F1,m1,b1⟩:=T.LO
 have LO:=FL (P:=P) (w:=w) (base:=base) M RE F1 m1 b1
 obtain⟨_,_,F1,m1,b1⟩:=T.WE
 have WE:=FO (P:=P) (w:=w) (base:=base) M WF WZ LW IC LO F1 m1 b1
 obtain⟨_,_,F1,m1,b1⟩:=T.NW
 have NW:=Gk (P:=P) (w:=w) (base:=base) WE F1 m1 b1
 obtain⟨_,_,F1,m1,b1⟩:=T.IP
 have IP:=FK (P:=P) (w:=w) (base:=base) M IW F1 m1 b1
 obtain⟨_,_,F1,m1,b1⟩:=T.NP
 have NP:=EC (P:=P) (w:=w) (base:=base) NW IP F1 m1 b1
 obtain⟨_,_,F1,m1,b1⟩:=T.RV
 have RV:=zu (P:=P) (w:=w) (base:=base) true M F1 m1 b1
 have RVf:=zu (P:=P) (w:=w) (base:=base) false M F1 m1 b1
 obtain⟨_,_,F1,m1,b1⟩:=T.WN
 have WN:=FD (P:=P) (w:=w) (base:=base) M RV F1 m1 b1
 obtain⟨_,_,F1,m1,b1⟩:=T.WI
 have WI:=Et (P:=P) (w:=w) (base:=base) M WN RV F1 m1 b1
 obtain⟨_,_,F1,m1,b1⟩:=T.RW
 have RW:=E7 (P:=P) (w:=w) (base:=base) M IW F1 m1 b1
 obtain⟨_,_,F1,m1,b1⟩:=T.CG
 have CG:=DZ (P:=P) (w:=w) (base:=base) RW F1 m1 b1
 obtain⟨_,_,F1,m1,b1⟩:=T.LT
 have LT:=Ey (P:=P) (w:=w) (base:=base) M CG F1 m1 b1
 obtain⟨_,_,F1,m1,b1⟩:=T.YB
 have YB:=F9 (P:=P) (w:=w) (base:=base) M F1 m1 b1
 obtain⟨_,_,F1,m1,b1⟩:=T.WS
 have WS:=Ft (P:=P) (w:=w) (base:=base) M IW WI WN RV YB F1 m1 b1
 obtain⟨_,_,F1,m1,b1⟩:=T.CU
 have CU:=Fg (P:=P) (w:=w) (base:=base) M NP RVf F1 m1 b1
 obtain⟨_,_,F1,m1,b1⟩:=T.LY
 have LY:=EH (P:=P) (w:=w) (base:=base) M CU F1 m1 b1
 obtain⟨_,_,F1,m1,b1⟩:=T.SW
 have SW:=Gj (P:=P) (w:=w) (base:=base) true M LY F1 m1 b1
 obtain⟨_,_,F1,m1,b1⟩:=T.FN
 have FN:=EZ (P:=P) (w:=w) (base:=base) M LY CU F1 m1 b1
 obtain⟨_,_,F1,m1,b1⟩:=T.CB
 have CB:=EF (P:=P) (w:=w) (base:=base) M LY SW WS F1 m1 b1
 obtain⟨_,_,F1,m1,b1⟩:=T.ST
 have ST:=F3 (P:=P) (w:=w) (base:=base) M NP LT SW WI FN F1 m1 b1
 obtain⟨_,_,F1,m1,b1⟩:=T.DR
 have DR:=Eu (P:=P) (w:=w) (base:=base) M F1 m1 b1
 obtain⟨_,_,F1,m1,b1⟩:=T.PU
 have PU:=F2 (P:=P) (w:=w) (base:=base) F1 m1 b1
 obtain⟨_,_,F1,m1,b1⟩:=T.OR
 have OR:=EM (P:=P) (w:=w) (base:=base) M DR F1 m1 b1
 obtain⟨_,_,F1,m1,b1⟩:=T.PT
 have PT:=Ff (P:=P) (w:=w) (base:=base) M DR OR F1 m1 b1
 obtain⟨_,_,F1,m1,b1⟩:=T.CL
 have CL:=Ew (P:=P) (w:=w) (base:=base) M DR F1 m1 b1
 obtain⟨_,_,F1,m1,b1⟩:=T.WB
 have WB:=F5 (P:=P) (w:=w) (base:=base) M DR OR PT CL F1 m1 b1
 obtain⟨_,_,F1,m1,b1⟩:=T.CP
 have CP:=EL (P:=P) (w:=w) (base:=base) M F1 m1 b1
 obtain⟨_,_,F1,m1,b1⟩:=T.FR
 have FR:=Fd (P:=P) (w:=w) (base:=base) M F1 m1 b1
 obtain⟨_,_,F1,m1,b1⟩:=T.ON
 have ON:=Fv (P:=P) (w:=w) (base:=base) M FR F1 m1 b1
 obtain⟨_,_,F1,m1,b1⟩:=T.WO
 have WO:=EU (P:=P) (w:=w) (base:=base) M ON FR F1 m1 b1
 obtain⟨_,_,F1,m1,b1⟩:=T.NE
 have NE:=Gd (P:=P) (w:=w) (base:=base) M F1 m1 b1
 obtain⟨_,_,F1,m1,b1⟩:=T.OU
 have OU:=FI (P:=P) (w:=w) (base:=base) M DR FR NE F1 m1 b1
 obtain⟨_,_,F1,m1,b1⟩:=T.LG
 have LG:=z6 (P:=P) (w:=w) (base:=base) M FR F1 m1 b1
 obtain⟨_,_,F1,m1,b1⟩:=T.LC
 have LC:=Fz (P:=P) (w:=w) (base:=base) M (LG 16) F1 m1 b1
 obtain⟨_,_,F1,m1,b1⟩:=T.MK
 have MK:=F7 (P:=P) (w:=w) (base:=base) M LC F1 m1 b1
 obtain⟨_,_,F1,m1,b1⟩:=T.FE
 have FE:=Gh (P:=P) (w:=w) (base:=base) F1 m1 b1
 obtain⟨_,_,F1,m1,b1⟩:=T.GO
 have GO:=Fy (P:=P) (w:=w) (base:=base) FR F1 m1 b1
 obtain⟨_,_,F1,m1,b1⟩:=T.BT
 have BT:=FC (P:=P) (w:=w) (base:=base) M DR F1 m1 b1
 obtain⟨_,_,F1,m1,b1⟩:=T.NO8
 have NO8:=El (P:=P) (w:=w) (base:=base) M DR F1 m1 b1
 obtain⟨_,_,F1,m1,b1⟩:=T.MR
 have MX1:∀ea,j8 P w K mg (λbase=>∃oe,base.get? ea=some oe/\oe.cls= .ref D1) "_law_marks" 1 (aG (xV ea [("web":Str)]) K):=λea=>uN M X1.fa F1 m1 b1 ea
 have MX2:∀ea,j8 P w K mg (λbase=>∃oe,base.get? ea=some oe/\oe.cls= .ref D2) "_law_marks" 1 (aG (xV ea [("way":Str)]) K):=λea=>uN M X2.fa F1 m1 b1 ea
 have MX3:∀ea,j8 P w K mg (λbase=>∃oe,base.get? ea=some oe/\oe.cls= .ref D3) "_law_marks" 1 (aG (xV ea [("run":Str)]) K):=λea=>uN M X3.fa F1 m1 b1 ea
 obtain⟨_,_,F1,m1,b1⟩:=T.AS
 have AS:=EN (P:=P) (w:=w) (base:=base) CU SW ST CB F1 m1 b1
 obtain⟨_,_,F1,m1,b1⟩:=T.RG
 have RG:=Fi (P:=P) (w:=w) (base:=base) AS F1 m1 b1
 obtain⟨_,_,F1,m1,b1⟩:=T.NW
 have NWx:=Em (P:=P) (w:=w) (base:=base) X1.own WE F1 m1 b1
 obtain⟨_,_,F1,m1,b1⟩:=T.IP
 have IPb:=Ek (P:=P) (w:=w) (base:=base) M IW F1 m1 b1
 obtain⟨_,_,F1,m1,b1⟩:=T.NP
 have NPn:=BO (P:=P) (w:=w) (base:=base) NWx F1 m1 b1
 obtain⟨_,_,F1,m1,b1⟩:=T.CU
 have CUn:=xr (P:=P) (w:=w) (base:=base) NPn F1 m1 b1
 obtain⟨_,_,F1,m1,b1⟩:=T.LY
 have LYn:=xU (P:=P) (w:=w) (base:=base) CUn F1 m1 b1
 obtain⟨_,_,F1,m1,b1⟩:=T.SW
 have SWn:=xy (P:=P) (w:=w) (base:=base) LYn F1 m1 b1
 obtain⟨_,_,F1,m1,b1⟩:=T.ST
 have STn:=vT (P:=P) (w:=w) (base:=base) NPn F1 m1 b1
 obtain⟨_,_,F1,m1,b1⟩:=T.CB
 have CBn:=wW (P:=P) (w:=w) (base:=base) LYn F1 m1 b1
 obtain⟨_,_,F1,m1,b1⟩:=T.AS
 have ASn:=zm (P:=P) (w:=w) (base:=base) CUn SWn STn CBn F1 m1 b1
 obtain⟨_,_,F1,m1,b1⟩:=T.RG
 have RW0:=pM (P:=P) (w:=w) (base:=base) ASn hCE1 hex1 MX1 F1 m1 b1
 obtain⟨_,_,F1,m1,b1⟩:=T.NP
 have NPp:=BF (P:=P) (w:=w) (base:=base) X2.own NW IPb F1 m1 b1
 obtain⟨_,_,F1,m1,b1⟩:=T.CU
 have CUp:=xr (P:=P) (w:=w) (base:=base) NPp F1 m1 b1
 obtain⟨_,_,F1,m1,b1⟩:=T.LY
 have LYp:=xU (P:=P) (w:=w) (base:=base) CUp F1 m1 b1
 obtain⟨_,_,F1,m1,b1⟩:=T.SW
 have SWp:=xy (P:=P) (w:=w) (base:=base) LYp F1 m1 b1
 obtain⟨_,_,F1,m1,b1⟩:=T.ST
 have STp:=vT (P:=P) (w:=w) (base:=base) NPp F1 m1 b1
 obtain⟨_,_,F1,m1,b1⟩:=T.CB
 have CBp:=wW (P:=P) (w:=w) (base:=base) LYp F1 m1 b1
 obtain⟨_,_,F1,m1,b1⟩:=T.AS
 have ASp:=zm (P:=P) (w:=w) (base:=base) CUp SWp STp CBp F1 m1 b1
 obtain⟨_,_,F1,m1,b1⟩:=T.RG
 have RP:=pM (P:=P) (w:=w) (base:=base) ASp Tx hex2 MX2 F1 m1 b1
 obtain⟨_,_,F1,m1,b1⟩:=T.ST
 have STr:=BV (P:=P) (w:=w) (base:=base) X3.own NP LT F1 m1 b1
 obtain⟨_,_,F1,m1,b1⟩:=T.AS
 have ASr:=Fs (P:=P) (w:=w) (base:=base) STr F1 m1 b1
 obtain⟨_,_,F1,m1,b1⟩:=T.RG
 have RN:=pM (P:=P) (w:=w) (base:=base) ASr hCE3 hex3 MX3 F1 m1 b1
 obtain⟨_,_,F1,m1,b1⟩:=T.WS
 have WSx:=D4 (P:=P) (w:=w) (base:=base) M X2.own IW WI WN F1 m1 b1
 obtain⟨_,_,F1,m1,b1⟩:=T.CB
 have CBw:=Cq (P:=P) (w:=w) (base:=base) M LY SW WSx F1 m1 b1
 obtain⟨_,_,F1,m1,b1⟩:=T.AS
 have ASw:=FF (P:=P) (w:=w) (base:=base) CBw F1 m1 b1
 obtain⟨_,_,F1,m1,b1⟩:=T.RG
 have RB:=pM (P:=P) (w:=w) (base:=base) ASw Tx hex2 MX2 F1 m1 b1
 exact Fj M PU DR WB CP MK ON WO OU FE BT NO8 GO RG RN RB RP RW0 F
theorem Bg (KX:K.In h)(G:h.Ns K5 mg){t1 t2 t3 t4 t5 t6 t7 t8:Tok}
 (a1:MQ K K5 "MOST_PARTS"=some (some (.int 4 t1))) (a2:MQ K K5 "LEAST_PLACES"=some (some (.int 2 t2))) (a3:MQ K K5 "MOST_PLACES"=some (some (.int 16 t3))) (a4:MQ K K5 "MOST_ROWS"=some (some (.int 60 t4))) (a5:MQ K K5 "FIRST_PART"=some (some (.int 0 t5))) (a6:MQ K K5 "BEGIN"=some (some (.int 0 t6))) (a7:MQ K K5 "END"=some (some (.int 1 t7))) (a8:MQ K K5 "NO_CALL"=some (some (.int (-1) t8)))
 (b1:MQ K K5 "len"=some none) (b2:MQ K K5 "all"=some none) (b3:MQ K K5 "any"=some none) (b4:MQ K K5 "range"=some none) (b5:MQ K K5 "enumerate"=some none) (b6:MQ K K5 "isinstance"=some none) (b7:MQ K K5 "int"=some none) (b8:MQ K K5 "bool"=some none) (b9:MQ K K5 "list"=some none) (b10:MQ K K5 "tuple"=some none) (b11:MQ K K5 "min"=some none) (b12:MQ K K5 "max"=some none) (b13:MQ K K5 "sorted"=some none) (b14:MQ K K5 "sum"=some none) (b15:MQ K K5 "zip"=some none) (b16:MQ K K5 "reversed"=some none):bR mg:=
 ⟨⟨_,MS KX G a1⟩,⟨_,MS KX G a2⟩,⟨_,MS KX G a3⟩,⟨_,MS KX G a4⟩,⟨_,MS KX G a5⟩,⟨_,MS KX G a6⟩,⟨_,MS KX G a7⟩,⟨_,MS KX G a8⟩,MT KX G b1,MT KX G b2,MT KX G b3,MT KX G b4,MT KX G b5,MT KX G b6,MT KX G b7,MT KX G b8,MT KX G b9,MT KX G b10,MT KX G b11,MT KX G b12,MT KX G b13,MT KX G b14,MT KX G b15,MT KX G b16⟩
theorem Bu {l:Nc}{w:World}{fa f:Addr}{oc kV doc pm Nl ct:Value}{od an:Option Addr}{O7:Array Ie}(KX:K.In h)(G:h.Ns K5 mg)(hfa:mg "law"=some (.ref fa))(T:Top K mg)
 (a:MQ K K5 "law"=some (some (.ref f))) (lk:K.lookup f=some ⟨oc,od,.func (MY "law" "law" (gq jG) (bG jG) (ag jG) .none kV doc pm an Nl ct),O7⟩) (c:M6 K Nl "law"=true) (k:MZ K (.ref f)=true):
 ∃fd:Ld,(∀(s:K3) (v:Value),Md s fd ⟨[v],[]⟩ [("_law_script",v)])/\∀base:Heap,K.In base->base.Ns K5 mg->fH l.prog w K mg base dW 21 fa fd ["_law_script"] (aG qT K):=by
 have e:=hfa.symm.trans (MS KX G a)
 cases e
 exact⟨MY "law" "law" (gq jG) (bG jG) (ag jG) .none kV doc pm an Nl ct,λs v=>.of_eq rfl,λbase _ _=>BZ T (rW lk c k)⟩
theorem walk {l:Nc}{q:K7}{loose:Ic}{XP:(HZ)->Heap->Prop}{YP:World->Heap->Prop}{d:DefRec}{K:Params->MP}(hn:l.most=some 63)(Th:d.params.defaults=[])
 (hY:∀(w:World) (h:Heap),YP w h->(K w.params).In h)
 (F:∀(w:World) (mg:HZ) (fa:Addr) (h:Heap),(K w.params).In h->h.Ns K5 mg->mg d.name=some (.ref fa)->
  ∃fd:Ld,(∀(s:K3) (u:Value),Md s fd ⟨[u],[]⟩ [("_law_script",u)])/\∀base:Heap,(K w.params).In base->base.Ns K5 mg->fH l.prog w (K w.params) mg base dW 21 fa fd ["_law_script"] (aG qT (K w.params))):
 PySem.W.WalkO q loose XP YP l.row.toRowW d [] (λf vs=>PySem.call f vs):=
 L2.yq (n:=63) (k:=21) (x:="_law_script") (CX:=λ_=>dW) (sp:=λw=>aG qT (K w.params)) hn (by decide) Th ⟨rfl,by decide,by decide⟩ hY F
   (λw H a ns hl Oz _ hS=>⟨H,[⟨fU,ns⟩],_,ar.refl _,.cons ⟨a,rfl,hS,hl⟩ .nil,⟨ns,rfl,hl,Oz,rfl⟩,λv H' R' _ t=>by obtain⟨y,hy,rfl⟩:=t;exact hy⟩) λ_ _ _ _ _ z=>z
end
end K1
open PySem PySem.W PyProof.Rows
namespace PySem.W.Fast
def tw4935523808799279081:=0
def tw9626608578339922870:=0
def tw10880485213767581669:=0
def tw16390293366704244025:=0
def tw12444722431744334747:=0
def tw4043451850899773202:=0
def tw7727011065168695194:=0
def tw282513778199920464:=0
def tw4699183983796017685:=0
def tw11018802321733435799:=0
def tw17579128037411278734:=0
def tw9406088669050011633:=0
def tw13440550935009328167:=0
def tw3970614579465270421:=0
def tw12500564619210122805:=0
def tw13024547364207499659:=0
def tw1506750402397255326:=0
def tw14138718301465665590:=0
def tw16545660377238693622:=0
def tw13352513068866465660:=0
def tw6909226481595300495:=0
def tw499506991158152252:=0
def tw11237526050953423682:=0
def tw18354688205421602438:=0
def tw15396551772978226490:=0
def tw10836419906865209157:=0
def tw15970612230001978543:=0
def tw1966581926914118668:=0
def tw9872219498839828888:=0
def tw1304131885852205690:=0
def tw9001825170287724382:=0
def tw16199081362942388317:=0
def tw17224655714829113890:=0
def tw10954428693939204936:=0
def tw5042252560551856838:=0
def tw11727341134415316534:=0
def tw3162481182164123136:=0
def tw5766569651925226561:=0
def tw13228338133394160961:=0
def tw17841900571774135690:=0
def tw7262434121554081473:=0
def tw266421559944693949:=0
def tw1832065078052707739:=0
def tw1712419790140113325:=0
def tw13193443228491654895:=0
def tw16461501757368939641:=0
def tw794161319130034674:=0
def tw726570464998153167:=0
def tw16084733822283639657:=0
def tw3255073615992368702:=0
def tw11520691481605771180:=0
def tw8667479216256140205:=0
def tw8151177787307602016:=0
def tw3112764545253543336:=0
def tw9115315107066705288:=0
def tw12868396787252242213:=0
def tw666649035660188391:=0
def tw15610240512834186555:=0
def tw15782253310995935467:=0
def tw3236528093887271922:=0
def tw11000421032596075955:=0
def tw2336545702740838486:=0
def tw17488701463754571595:=0
def tw14923799339557092454:=0
def tw9570313189798114086:=0
def tw17404470379986739193:=0
def tw18347019136311609249:=0
def tw6627755220228033889:=0
def tw16194567436399005754:=0
def tw15917549481811059578:=0
def tw18236822960483983563:=0
def tw17169520473934639051:=0
def tw17350676964343955522:=0
def tw6733254483932973423:=0
def tw12965018195451200249:=0
def tw16863852937666209546:=0
def tw14252742196987546991:=0
def tw7420640233652359357:=0
def tw14129254538652652445:=0
def tw12224261375921931303:=0
def tw11650902545458727260:=0
def tw18065041050005340598:=0
def tw545137932518691773:=0
def tw78088690361755938:=0
def tw8343055049328771438:=0
def tw16958320745800811324:=0
def tw16043444753908047164:=0
def tw17014914721952569704:=0
def tw8470235845305050028:=0
def tw11358650453539596078:=0
def tw4038718038315282478:=0
def tw15012401413738900232:=0
def tw863413794791358327:=0
def tw1655728455829573300:=0
def tw5037309383027429235:=0
def tw15035203307616646403:=0
def tw5906671330664251996:=0
def tw4142556674900731759:=0
def tw13153235084982508335:=0
def tw14092951055041315478:=0
def tw4778462802198702249:=0
def tw132861158204374851:=0
def tw15286124027362983693:=0
def tw13668143431957871843:=0
def tw536184436137714596:=0
def tw15969594558443773077:=0
def tw8627328461527124182:=0
def tw14286242298631859259:=0
def tw10575604151281999172:=0
def tw5920152232872119492:=0
def tw4438898173846960626:=0
def tw18425580820865192260:=0
def tw7940860590213350326:=0
def tw9845591868810874950:=0
def tw10007713628095211807:=0
def tw5910855411383628883:=0
def tw17574344982921544061:=0
def tw13018071198519386990:=0
def tw11346511420699003177:=0
def tw6809493108076737572:=0
def tw17276709546663388087:=0
def tw16706144779516761140:=0
def tw17276651996161684003:=0
def tw3456785553949725501:=0
def tw16781639928226026691:=0
def tw2799844744489909038:=0
def tw4900528354527139524:=0
def tw11044260799733908157:=0
def tw2163924232423513695:=0
def tw14380131140868484895:=0
def tw8094376804239552459:=0
def tw11302678091559910802:=0
def tw14432417669228158549:=0
def tw15241557241553258919:=0
def tw7336597440528260918:=0
def tw7232267748735794933:=0
def tw17815584884615670205:=0
def tw2095951790101457051:=0
def tw10794987839082847655:=0
def tw7727139005158257230:=0
def tw10784863184721619780:=0
def tw5642120733463699794:=0
def tw1489079193216862005:=0
def tw14834994591493872338:=0
def tw15314668618386011416:=0
def tw9845527411983349847:=0
def tw2420172132395394614:=0
def tw16530136856178841878:=0
def tw7423046343809896632:=0
def tw13367006958075256673:=0
def tw3736088790886845821:=0
def tw7861299385065875380:=0
def tw15498547204022527911:=0
def tw2222655061734312644:=0
def tw16615651768099823287:=0
def tw7167106034506014228:=0
def tw9495111245236847993:=0
def tw13462474814813659603:=0
def tw3595605045796398155:=0
def tw904159557743721820:=0
def tw1867014352728692256:=0
def tw6757699646025986322:=0
def tw8185270628710976281:=0
def tw10732001785754780387:=0
def tw2230278118702658786:=0
end PySem.W.Fast
set_option maxRecDepth 100000 in
set_option maxHeartbeats 0 in
theorem PySem.Challenge.cw_fewcounters_k54_stretches_refused_holds : PySem.Challenge.rw_fewcounters_k54_stretches_refused.Holds := by
 w_on;o_law;k_head;(case hw=>w_witness2)
 k_fill
 refine K1.walk (l:=PySem.Challenge.rw_fewcounters_k54_stretches_refused) rfl rfl (λw h Y=>PySem.W.kIn_of Y) ?F
 case F=>
  intro w mg fa h KX G S4
  have M:K1.bR mg:=by
   refine' K1.Bg KX G ?a1 ?a2 ?a3 ?a4 ?a5 ?a6 ?a7 ?a8 ?b1 ?b2 ?b3 ?b4 ?b5 ?b6 ?b7 ?b8 ?b9 ?b10 ?b11 ?b12 ?b13 ?b14 ?b15 ?b16
   (case a1=>k_is);(case a2=>k_is);(case a3=>k_is);(case a4=>k_is);(case a5=>k_is);(case a6=>k_is);(case a7=>k_is);(case a8=>k_is);(case b1=>k_is);(case b2=>k_is);(case b3=>k_is);(case b4=>k_is);(case b5=>k_is);(case b6=>k_is);(case b7=>k_is);(case b8=>k_is);(case b9=>k_is);(case b10=>k_is);(case b11=>k_is);(case b12=>k_is);(case b13=>k_is);(case b14=>k_is);(case b15=>k_is);(case b16=>k_is)
  have DX1:∃C,K1.qL (L2.aR KX) mg "NoWeb" C true false false false false:=by
   dsimp only[L2.aR]
   refine' K1.pS KX G "NoWeb" true false false false false ?e1 ?e2 ?f1 ?f2 ?f3 ?f4 ?f5 ?g1 ?g2 ?g3 ?g4 ?g5 ?g6 ?g7 ?g8 ?g9 ?RQ ?RO ?RM ?e6 ?q1 ?q2 ?r0 ?r1 ?r2 ?r3 ?r4 ?r5 ?r7 ?r6 ?k1 ?k2 ?k3 ?k4 ?k5 ?o1 ?o2 ?o3 ?o4 ?q6
   (case e1=>k_is);(case e2=>k_is);(case f1=>k_is);(case f2=>k_is);(case f3=>k_is);(case f4=>k_is);(case f5=>k_is);(case g1=>k_is);(case g2=>k_is);(case g3=>k_is);(case g4=>k_is);(case g5=>k_is);(case g6=>k_is);(case g7=>k_is);(case g8=>k_is);(case g9=>k_is);(case RQ=>k_is);(case RO=>k_is);(case RM=>k_is);(case e6=>k_is);(case q1=>k_exc);(case q2=>kts_exm);(case r0=>k_is);(case r1=>k_is);(case r2=>k_is);(case r3=>k_is);(case r4=>k_is);(case r5=>k_is);(case r7=>k_is);(case r6=>k_is);(case k1=>kit_is);(case k2=>kit_is);(case k3=>kit_is);(case k4=>kit_is);(case k5=>kit_is);(case o1=>kit_is);(case o2=>kit_is);(case o3=>kit_is);(case o4=>kit_is);(case q6=>kit_is)
  have DX2:∃C,K1.qL (L2.aR KX) mg "NoWay" C false true false false false:=by
   dsimp only[L2.aR]
   refine' K1.pS KX G "NoWay" false true false false false ?e1 ?e2 ?f1 ?f2 ?f3 ?f4 ?f5 ?g1 ?g2 ?g3 ?g4 ?g5 ?g6 ?g7 ?g8 ?g9 ?RQ ?RO ?RM ?e6 ?q1 ?q2 ?r0 ?r1 ?r2 ?r3 ?r4 ?r5 ?r7 ?r6 ?k1 ?k2 ?k3 ?k4 ?k5 ?o1 ?o2 ?o3 ?o4 ?q6
   (case e1=>k_is);(case e2=>k_is);(case f1=>k_is);(case f2=>k_is);(case f3=>k_is);(case f4=>k_is);(case f5=>k_is);(case g1=>k_is);(case g2=>k_is);(case g3=>k_is);(case g4=>k_is);(case g5=>k_is);(case g6=>k_is);(case g7=>k_is);(case g8=>k_is);(case g9=>k_is);(case RQ=>k_is);(case RO=>k_is);(case RM=>k_is);(case e6=>k_is);(case q1=>k_exc);(case q2=>kts_exm);(case r0=>k_is);(case r1=>k_is);(case r2=>k_is);(case r3=>k_is);(case r4=>k_is);(case r5=>k_is);(case r7=>k_is);(case r6=>k_is);(case k1=>kit_is);(case k2=>kit_is);(case k3=>kit_is);(case k4=>kit_is);(case k5=>kit_is);(case o1=>kit_is);(case o2=>kit_is);(case o3=>kit_is);(case o4=>kit_is);(case q6=>kit_is)
  have DX3:∃C,K1.qL (L2.aR KX) mg "NoRun" C false false false true false:=by
   dsimp only[L2.aR]
   refine' K1.pS KX G "NoRun" false false false true false ?e1 ?e2 ?f1 ?f2 ?f3 ?f4 ?f5 ?g1 ?g2 ?g3 ?g4 ?g5 ?g6 ?g7 ?g8 ?g9 ?RQ ?RO ?RM ?e6 ?q1 ?q2 ?r0 ?r1 ?r2 ?r3 ?r4 ?r5 ?r7 ?r6 ?k1 ?k2 ?k3 ?k4 ?k5 ?o1 ?o2 ?o3 ?o4 ?q6
   (case e1=>k_is);(case e2=>k_is);(case f1=>k_is);(case f2=>k_is);(case f3=>k_is);(case f4=>k_is);(case f5=>k_is);(case g1=>k_is);(case g2=>k_is);(case g3=>k_is);(case g4=>k_is);(case g5=>k_is);(case g6=>k_is);(case g7=>k_is);(case g8=>k_is);(case g9=>k_is);(case RQ=>k_is);(case RO=>k_is);(case RM=>k_is);(case e6=>k_is);(case q1=>k_exc);(case q2=>kts_exm);(case r0=>k_is);(case r1=>k_is);(case r2=>k_is);(case r3=>k_is);(case r4=>k_is);(case r5=>k_is);(case r7=>k_is);(case r6=>k_is);(case k1=>kit_is);(case k2=>kit_is);(case k3=>kit_is);(case k4=>kit_is);(case k5=>kit_is);(case o1=>kit_is);(case o2=>kit_is);(case o3=>kit_is);(case o4=>kit_is);(case q6=>kit_is)
  have DIW:Fc.Def (L2.aR KX) mg "is_whole" K1.zW ["value"]:=by
   dsimp only[L2.aR]
   refine' Fc.aZ KX G ?a ?l ?c ?k ?b
   case a|l|c|k=>k_is
   (case b=>exact fun | _,_,_,_,_,_,[_],_=>rfl)
  have DAW:Fc.Def (L2.aR KX) mg "are_whole" K1.tq ["values"]:=by
   dsimp only[L2.aR]
   refine' Fc.aZ KX G ?a ?l ?c ?k ?b
   case a|l|c|k=>k_is
   (case b=>exact fun | _,_,_,_,_,_,[_],_=>rfl)
  have DRF:Fc.Def (L2.aR KX) mg "has_row_form" K1.z8 ["row"]:=by
   dsimp only[L2.aR]
   refine' Fc.aZ KX G ?a ?l ?c ?k ?b
   case a|l|c|k=>k_is
   (case b=>exact fun | _,_,_,_,_,_,[_],_=>rfl)
  have DWF:Fc.Def (L2.aR KX) mg "has_web_form" K1.wk ["web"]:=by
   dsimp only[L2.aR]
   refine' Fc.aZ KX G ?a ?l ?c ?k ?b
   case a|l|c|k=>k_is
   (case b=>exact fun | _,_,_,_,_,_,[_],_=>rfl)
  have DWZ:Fc.Def (L2.aR KX) mg "has_web_sizes" K1.wy ["web"]:=by
   dsimp only[L2.aR]
   refine' Fc.aZ KX G ?a ?l ?c ?k ?b
   case a|l|c|k=>k_is
   (case b=>exact fun | _,_,_,_,_,_,[_],_=>rfl)
  have DLW:Fc.Def (L2.aR KX) mg "leads_within" K1.zM ["places","row"]:=by
   dsimp only[L2.aR]
   refine' Fc.aZ KX G ?a ?l ?c ?k ?b
   case a|l|c|k=>k_is
   (case b=>exact fun | _,_,_,_,_,_,[_,_],_=>rfl)
  have DIC:Fc.Def (L2.aR KX) mg "is_called" K1.wA ["rows","part"]:=by
   dsimp only[L2.aR]
   refine' Fc.aZ KX G ?a ?l ?c ?k ?b
   case a|l|c|k=>k_is
   (case b=>exact fun | _,_,_,_,_,_,[_,_],_=>rfl)
  have DRE:Fc.Def (L2.aR KX) mg "reached" K1.z7 ["leads","start"]:=by
   dsimp only[L2.aR]
   refine' Fc.aZ KX G ?a ?l ?c ?k ?b
   case a|l|c|k=>k_is
   (case b=>exact fun | _,_,_,_,_,_,[_,_],_=>rfl)
  have DLO:Fc.Def (L2.aR KX) mg "lies_on_ways" K1.sP ["rows","part","size"]:=by
   dsimp only[L2.aR]
   refine' Fc.aZ KX G ?a ?l ?c ?k ?b
   case a|l|c|k=>k_is
   (case b=>exact fun | _,_,_,_,_,_,[_,_,_],_=>rfl)
  have DWE:Fc.Def (L2.aR KX) mg "is_web" K1.qE ["web"]:=by
   dsimp only[L2.aR]
   refine' Fc.aZ KX G ?a ?l ?c ?k ?b
   case a|l|c|k=>k_is
   (case b=>exact fun | _,_,_,_,_,_,[_],_=>rfl)
  have DNW:Fc.Def (L2.aR KX) mg "need_web" K1.zK ["web"]:=by
   dsimp only[L2.aR]
   refine' Fc.aZ KX G ?a ?l ?c ?k ?b
   case a|l|c|k=>k_is
   (case b=>exact fun | _,_,_,_,_,_,[_],_=>rfl)
  have DIP:Fc.Def (L2.aR KX) mg "is_part" K1.wX ["web","part"]:=by
   dsimp only[L2.aR]
   refine' Fc.aZ KX G ?a ?l ?c ?k ?b
   case a|l|c|k=>k_is
   (case b=>exact fun | _,_,_,_,_,_,[_,_],_=>rfl)
  have DNP:Fc.Def (L2.aR KX) mg "need_part" K1.sV ["web","part"]:=by
   dsimp only[L2.aR]
   refine' Fc.aZ KX G ?a ?l ?c ?k ?b
   case a|l|c|k=>k_is
   (case b=>exact fun | _,_,_,_,_,_,[_,_],_=>rfl)
  have DRV:Fc.Def (L2.aR KX) mg "rows_leaving" K1.vh ["web","part"]:=by
   dsimp only[L2.aR]
   refine' Fc.aZ KX G ?a ?l ?c ?k ?b
   case a|l|c|k=>k_is
   (case b=>exact fun | _,_,_,_,_,_,[_,_],_=>rfl)
  have DWN:Fc.Def (L2.aR KX) mg "ways_on" K1.oY ["web","part"]:=by
   dsimp only[L2.aR]
   refine' Fc.aZ KX G ?a ?l ?c ?k ?b
   case a|l|c|k=>k_is
   (case b=>exact fun | _,_,_,_,_,_,[_,_],_=>rfl)
  have DWI:Fc.Def (L2.aR KX) mg "worths_in" K1.vY ["web","part"]:=by
   dsimp only[L2.aR]
   refine' Fc.aZ KX G ?a ?l ?c ?k ?b
   case a|l|c|k=>k_is
   (case b=>exact fun | _,_,_,_,_,_,[_,_],_=>rfl)
  have DRW:Fc.Def (L2.aR KX) mg "is_row" K1.zX ["web","number"]:=by
   dsimp only[L2.aR]
   refine' Fc.aZ KX G ?a ?l ?c ?k ?b
   case a|l|c|k=>k_is
   (case b=>exact fun | _,_,_,_,_,_,[_,_],_=>rfl)
  have DCG:Fc.Def (L2.aR KX) mg "can_go" K1.xA ["web","stack","number"]:=by
   dsimp only[L2.aR]
   refine' Fc.aZ KX G ?a ?l ?c ?k ?b
   case a|l|c|k=>k_is
   (case b=>exact fun | _,_,_,_,_,_,[_,_,_],_=>rfl)
  have DLT:Fc.Def (L2.aR KX) mg "leads_through" K1.zP ["web","part","rows"]:=by
   dsimp only[L2.aR]
   refine' Fc.aZ KX G ?a ?l ?c ?k ?b
   case a|l|c|k=>k_is
   (case b=>exact fun | _,_,_,_,_,_,[_,_,_],_=>rfl)
  have DYB:Fc.Def (L2.aR KX) mg "way_by" K1.xK ["web","known","leaving","number"]:=by
   dsimp only[L2.aR]
   refine' Fc.aZ KX G ?a ?l ?c ?k ?b
   case a|l|c|k=>k_is
   (case b=>exact fun | _,_,_,_,_,_,[_,_,_,_],_=>rfl)
  have DWS:Fc.Def (L2.aR KX) mg "ways_of" K1.lY ["web","part","numbers"]:=by
   dsimp only[L2.aR]
   refine' Fc.aZ KX G ?a ?l ?c ?k ?b
   case a|l|c|k=>k_is
   (case b=>exact fun | _,_,_,_,_,_,[_,_,_],_=>rfl)
  have DCU:Fc.Def (L2.aR KX) mg "cuts" K1.vp ["web","part"]:=by
   dsimp only[L2.aR]
   refine' Fc.aZ KX G ?a ?l ?c ?k ?b
   case a|l|c|k=>k_is
   (case b=>exact fun | _,_,_,_,_,_,[_,_],_=>rfl)
  have DLY:Fc.Def (L2.aR KX) mg "laid_out" K1.rH ["web","part"]:=by
   dsimp only[L2.aR]
   refine' Fc.aZ KX G ?a ?l ?c ?k ?b
   case a|l|c|k=>k_is
   (case b=>exact fun | _,_,_,_,_,_,[_,_],_=>rfl)
  have DSW:Fc.Def (L2.aR KX) mg "stretch_web" K1.qf ["web","part"]:=by
   dsimp only[L2.aR]
   refine' Fc.aZ KX G ?a ?l ?c ?k ?b
   case a|l|c|k=>k_is
   (case b=>exact fun | _,_,_,_,_,_,[_,_],_=>rfl)
  have DFN:Fc.Def (L2.aR KX) mg "fallen" K1.xq ["web","part","rows"]:=by
   dsimp only[L2.aR]
   refine' Fc.aZ KX G ?a ?l ?c ?k ?b
   case a|l|c|k=>k_is
   (case b=>exact fun | _,_,_,_,_,_,[_,_,_],_=>rfl)
  have DCB:Fc.Def (L2.aR KX) mg "counts_by" K1.sE ["web","part","numbers"]:=by
   dsimp only[L2.aR]
   refine' Fc.aZ KX G ?a ?l ?c ?k ?b
   case a|l|c|k=>k_is
   (case b=>exact fun | _,_,_,_,_,_,[_,_,_],_=>rfl)
  have DST:Fc.Def (L2.aR KX) mg "stretches" K1.pf ["web","part","rows"]:=by
   dsimp only[L2.aR]
   refine' Fc.aZ KX G ?a ?l ?c ?k ?b
   case a|l|c|k=>k_is
   (case b=>exact fun | _,_,_,_,_,_,[_,_,_],_=>rfl)
  have DDR:Fc.Def (L2.aR KX) mg "_law_draw" K1.zI ["_law_purse_here","_law_out_of"]:=by
   dsimp only[L2.aR]
   refine' Fc.aZ KX G ?a ?l ?c ?k ?b
   case a|l|c|k=>k_is
   (case b=>exact fun | _,_,_,_,_,_,[_,_],_=>rfl)
  have DPU:Fc.Def (L2.aR KX) mg "_law_purse" K1.rq ["_law_script"]:=by
   dsimp only[L2.aR]
   refine' Fc.aZ KX G ?a ?l ?c ?k ?b
   case a|l|c|k=>k_is
   (case b=>exact fun | _,_,_,_,_,_,[_],_=>rfl)
  have DOR:Fc.Def (L2.aR KX) mg "_law_order" K1.zH ["_law_purse_here","_law_many"]:=by
   dsimp only[L2.aR]
   refine' Fc.aZ KX G ?a ?l ?c ?k ?b
   case a|l|c|k=>k_is
   (case b=>exact fun | _,_,_,_,_,_,[_,_],_=>rfl)
  have DPT:Fc.Def (L2.aR KX) mg "_law_part" K1.lu ["_law_purse_here","_law_many","_law_loose"]:=by
   dsimp only[L2.aR]
   refine' Fc.aZ KX G ?a ?l ?c ?k ?b
   case a|l|c|k=>k_is
   (case b=>exact fun | _,_,_,_,_,_,[_,_,_],_=>rfl)
  have DCL:Fc.Def (L2.aR KX) mg "_law_called" K1.vB ["_law_purse_here","_law_rows","_law_parts"]:=by
   dsimp only[L2.aR]
   refine' Fc.aZ KX G ?a ?l ?c ?k ?b
   case a|l|c|k=>k_is
   (case b=>exact fun | _,_,_,_,_,_,[_,_,_],_=>rfl)
  have DWB:Fc.Def (L2.aR KX) mg "_law_web" K1.tR ["_law_purse_here","_law_loose"]:=by
   dsimp only[L2.aR]
   refine' Fc.aZ KX G ?a ?l ?c ?k ?b
   case a|l|c|k=>k_is
   (case b=>exact fun | _,_,_,_,_,_,[_,_],_=>rfl)
  have DCP:Fc.Def (L2.aR KX) mg "_law_copy" K1.vm ["_law_web_here"]:=by
   dsimp only[L2.aR]
   refine' Fc.aZ KX G ?a ?l ?c ?k ?b
   case a|l|c|k=>k_is
   (case b=>exact fun | _,_,_,_,_,_,[_],_=>rfl)
  have DFR:Fc.Def (L2.aR KX) mg "_law_from" K1.sG ["_law_web_here","_law_part_here","_law_place"]:=by
   dsimp only[L2.aR]
   refine' Fc.aZ KX G ?a ?l ?c ?k ?b
   case a|l|c|k=>k_is
   (case b=>exact fun | _,_,_,_,_,_,[_,_,_],_=>rfl)
  have DON:Fc.Def (L2.aR KX) mg "_law_on" K1.oS ["_law_web_here","_law_part_here"]:=by
   dsimp only[L2.aR]
   refine' Fc.aZ KX G ?a ?l ?c ?k ?b
   case a|l|c|k=>k_is
   (case b=>exact fun | _,_,_,_,_,_,[_,_],_=>rfl)
  have DWO:Fc.Def (L2.aR KX) mg "_law_worths" K1.vW ["_law_web_here","_law_part_here"]:=by
   dsimp only[L2.aR]
   refine' Fc.aZ KX G ?a ?l ?c ?k ?b
   case a|l|c|k=>k_is
   (case b=>exact fun | _,_,_,_,_,_,[_,_],_=>rfl)
  have DNE:Fc.Def (L2.aR KX) mg "_law_near" K1.vo ["_law_web_here","_law_part_here"]:=by
   dsimp only[L2.aR]
   refine' Fc.aZ KX G ?a ?l ?c ?k ?b
   case a|l|c|k=>k_is
   (case b=>exact fun | _,_,_,_,_,_,[_,_],_=>rfl)
  have DOU:Fc.Def (L2.aR KX) mg "_law_own_run" K1.oX ["_law_purse_here","_law_web_here","_law_part_here","_law_most"]:=by
   dsimp only[L2.aR]
   refine' Fc.aZ KX G ?a ?l ?c ?k ?b
   case a|l|c|k=>k_is
   (case b=>exact fun | _,_,_,_,_,_,[_,_,_,_],_=>rfl)
  have DLG:Fc.Def (L2.aR KX) mg "_law_go" K1.zE ["_law_web_here","_law_part_here","_law_standing","_law_left","_law_cut"]:=by
   dsimp only[L2.aR]
   refine' Fc.aZ KX G ?a ?l ?c ?k ?b
   case a|l|c|k=>k_is
   (case b=>exact fun | _,_,_,_,_,_,[_,_,_,_,_],_=>rfl)
  have DLC:Fc.Def (L2.aR KX) mg "_law_cuts" K1.Ad ["_law_web_here","_law_part_here"]:=by
   dsimp only[L2.aR]
   refine' Fc.aZ KX G ?a ?l ?c ?k ?b
   case a|l|c|k=>k_is
   (case b=>exact fun | _,_,_,_,_,_,[_,_],_=>rfl)
  have DMK:Fc.Def (L2.aR KX) mg "_law_marked" K1.zJ ["_law_web_here","_law_part_here"]:=by
   dsimp only[L2.aR]
   refine' Fc.aZ KX G ?a ?l ?c ?k ?b
   case a|l|c|k=>k_is
   (case b=>exact fun | _,_,_,_,_,_,[_,_],_=>rfl)
  have DFE:Fc.Def (L2.aR KX) mg "_law_fell" K1.xv ["_law_marks_here","_law_run"]:=by
   dsimp only[L2.aR]
   refine' Fc.aZ KX G ?a ?l ?c ?k ?b
   case a|l|c|k=>k_is
   (case b=>exact fun | _,_,_,_,_,_,[_,_],_=>rfl)
  have DGO:Fc.Def (L2.aR KX) mg "_law_goes" K1.z5 ["_law_web_here","_law_part_here","_law_rows"]:=by
   dsimp only[L2.aR]
   refine' Fc.aZ KX G ?a ?l ?c ?k ?b
   case a|l|c|k=>k_is
   (case b=>exact fun | _,_,_,_,_,_,[_,_,_],_=>rfl)
  have DBT:Fc.Def (L2.aR KX) mg "_law_bent" K1.zU ["_law_purse_here","_law_web_here","_law_run"]:=by
   dsimp only[L2.aR]
   refine' Fc.aZ KX G ?a ?l ?c ?k ?b
   case a|l|c|k=>k_is
   (case b=>exact fun | _,_,_,_,_,_,[_,_,_],_=>rfl)
  have DNO8:Fc.Def (L2.aR KX) mg "_law_no_web" K1.uC ["_law_purse_here","_law_web_here"]:=by
   dsimp only[L2.aR]
   refine' Fc.aZ KX G ?a ?l ?c ?k ?b
   case a|l|c|k=>k_is
   (case b=>exact fun | _,_,_,_,_,_,[_,_],_=>rfl)
  have DMR:Fc.Def (L2.aR KX) mg "_law_marks" K1.rD ["_law_caught"]:=by
   dsimp only[L2.aR]
   refine' Fc.aZ KX G ?a ?l ?c ?k ?b
   case a|l|c|k=>k_is
   (case b=>exact fun | _,_,_,_,_,_,[_],_=>rfl)
  have DAS:Fc.Def (L2.aR KX) mg "_law_asked" K1.jK ["_law_k","_law_web_here","_law_part_here","_law_run","_law_numbers"]:=by
   dsimp only[L2.aR]
   refine' Fc.aZ KX G ?a ?l ?c ?k ?b
   case a|l|c|k=>k_is
   (case b=>exact fun | _,_,_,_,_,_,[_,_,_,_,_],_=>rfl)
  have DRG:Fc.Def (L2.aR KX) mg "_law_refused" K1.qK ["_law_k","_law_web_here","_law_part_here","_law_run","_law_numbers"]:=by
   dsimp only[L2.aR]
   refine' Fc.aZ KX G ?a ?l ?c ?k ?b
   case a|l|c|k=>k_is
   (case b=>exact fun | _,_,_,_,_,_,[_,_,_,_,_],_=>rfl)
  refine' K1.Bu KX G S4 ⟨M,DX1,DX2,DX3,DIW,DAW,DRF,DWF,DWZ,DLW,DIC,DRE,DLO,DWE,DNW,DIP,DNP,DRV,DWN,DWI,DRW,DCG,DLT,DYB,DWS,DCU,DLY,DSW,DFN,DCB,DST,DDR,DPU,DOR,DPT,DCL,DWB,DCP,DFR,DON,DWO,DNE,DOU,DLG,DLC,DMK,DFE,DGO,DBT,DNO8,DMR,DAS,DRG⟩ ?a ?l ?c ?k
  case a|l|c|k=>k_is
