import PyProof.Rows.All
import Wide.All
import OpenK.AllK
import Wide.FinOn
import Lean
import PyProof.EqAt
import PyProof.EqKinds
import PyProof.TupleCall
import PyProof.NeKinds
import PyProof.WalksEnum
import PyProof.EnumMake
import KE.KTryMore
import PyProof.NsDelKeeps
import PyProof.SumWalkG
import PyProof.SeqI3
import KE.KDictSum
import PyProof.AttrMiss
import PyProof.IsiH_list
import KE.KDictOf
import PyProof.ZipIter
import PyProof.TupleIter
import PyProof.Draws
import PyProof.StrCalls
import PySem.Challenge.RW_fewcounters_k60_programs_let_by
import PyProof.StrWalks
import PyProof.StrCalls2
import PyProof.StrCalls3
import PyProof.StrLawsTight
import PyProof.StrLawsChain
import PyProof.StrLawsJoin
import PyProof.Rows.StrItems
import PyProof.FString5
import PyProof.Rows.Range3
import PyProof.EnumIter
import KE.KRevIter
import PyProof.MeetsDict
set_option Elab.async false
set_option linter.all false
set_option maxRecDepth 100000
namespace L2
open PySem PySem.Spec PyProof.Rows
section
variable {a b:Addr}
abbrev Key:=Sum Int Str
def jV:Key->Value->Bool
 | .inl k,v=>Value.isInt k v
 | .inr x,v=>Value.isStrOf x v
def Ft (w:World):Key->Int
 | .inl k=>hashInt k
 | .inr x=>hashStr w x
theorem cH:∀{k:Key} {v:Value},jV k v=true->(∃i t,k=Sum.inl i/\v=Value.int i t)∨(∃x t,k=Sum.inr x/\v=Value.str x t)
 | .inl i,v,h=>by
   obtain ⟨t,e⟩:=Value.isInt_shape (k:=i) (v:=v) h
   exact .inl ⟨i,t,rfl,e⟩
 | .inr x,v,h=>by
   obtain ⟨t,e⟩:=Value.isStrOf_shape (x:=x) (v:=v) h
   exact .inr ⟨x,t,rfl,e⟩
theorem tI (i:Int)(t:Tok):jV (.inl i) (.int i t)=true:=by simp [jV,Value.isInt]
theorem tY (x:Str)(t:Tok):jV (.inr x) (.str x t)=true:=by simp [jV,Value.isStrOf]
theorem Ba (a b:Int):decide ((Sum.inl a:Key)=Sum.inl b)=(a==b):=by
 by_cases e:a=b
 ·subst e;simp
 ·have h:¬(Sum.inl a:Key)=Sum.inl b:=λq=>e (Sum.inl.inj q)
  rw [decide_eq_false h]
  exact (beq_eq_false_iff_ne.mpr e).symm
theorem zY (a b:Str):decide ((Sum.inr a:Key)=Sum.inr b)=decide (a=b):=by
 by_cases e:a=b
 ·subst e;simp
 ·have h:¬(Sum.inr a:Key)=Sum.inr b:=λq=>e (Sum.inr.inj q)
  rw [decide_eq_false h,decide_eq_false e]
theorem A8 (a:Int)(b:Str):decide ((Sum.inl a:Key)=Sum.inr b)=false:=decide_eq_false (λq=>nomatch q)
theorem Bi (a:Str)(b:Int):decide ((Sum.inr a:Key)=Sum.inl b)=false:=decide_eq_false (λq=>nomatch q)
def bB (prog:Program)(w:World):PySem.KeyKind prog w Key where
 is:=jV
 hash:=Ft w
 inj:=λv a b ha hb=>by
  rcases cH ha with ⟨i,t,rfl,rfl⟩ | ⟨x,t,rfl,rfl⟩
  ·rcases cH hb with ⟨j,u,rfl,e⟩ | ⟨y,u,rfl,e⟩
   ·injection e with e1 _;rw [e1]
   ·exact nomatch e
  ·rcases cH hb with ⟨j,u,rfl,e⟩ | ⟨y,u,rfl,e⟩
   ·exact nomatch e
   ·injection e with e1 _;rw [e1]
 byValue:=λk v h=>by
  rcases cH h with ⟨i,t,rfl,rfl⟩ | ⟨x,t,rfl,rfl⟩<;>rfl
 pyHash:=λhv h=>by
  rcases cH hv with ⟨i,t,rfl,rfl⟩ | ⟨x,t,rfl,rfl⟩
  ·exact wpAny_pyHash_int h
  ·exact wpAny_pyHash_str h
 eqBool:=λhu hv h=>by
  rcases cH hu with ⟨i,t,rfl,rfl⟩ | ⟨x,t,rfl,rfl⟩
  ·rcases cH hv with ⟨j,u,rfl,rfl⟩ | ⟨y,u,rfl,rfl⟩
   ·rw [Ba] at h;exact wpAny_eqBool_int h
   ·rw [A8] at h;exact SeqAt.EqAt.int_str i t y u _ _ _ _ h
  ·rcases cH hv with ⟨j,u,rfl,rfl⟩ | ⟨y,u,rfl,rfl⟩
   ·rw [Bi] at h;exact SeqAt.EqAt.str_int x t j u _ _ _ _ h
   ·rw [zY] at h;exact wpAny_eqBool_str h
 «strs»:=λk x t v h=>by
  rcases cH h with ⟨i,u,rfl,e⟩ | ⟨y,u,rfl,e⟩
  ·exact nomatch e
  ·injection e with e1 _
   subst e1
   cases v<;>rfl
theorem pR (prog:Program)(w:World)(i:Int)(t:Tok):(bB prog w).is (.inl i) (.int i t)=true:=tI i t
theorem cK (prog:Program)(w:World)(x:Str)(t:Tok):(bB prog w).is (.inr x) (.str x t)=true:=tY x t
inductive V where
 | non | bl (b:Bool) | int (i:Int) | str (x:Str) | byt (b:Array UInt8) | flt (b:UInt64) | ref (a:Addr) | ty (n:String)
 deriving DecidableEq
def RelV:V->Value->Prop
 | .non,u=>u=Value.none
 | .bl b,u=>u=Value.bool b
 | .int i,u=>∃t,u=Value.int i t
 | .str x,u=>∃t,u=Value.str x t
 | .byt b,u=>∃t,u=Value.bytes b t
 | .flt b,u=>∃t,u=Value.float b t
 | .ref a,u=>u=Value.ref a
 | .ty n,u=>u=Value.type n
abbrev Vals:List V->List Value->Prop:=Paired RelV
theorem Vals.length {xs:List V}{us:List Value}(r:Vals xs us):xs.length=us.length:=Paired.length r
theorem Vals.get:∀{xs:List V} {us:List Value} {i:Nat} {x:V},Vals xs us->xs[i]?=some x->∃u,us[i]?=some u/\RelV x u
 | _,_,_,_,.nil,e=>by simp at e
 | _,_,0,_,.cons r _,e=>by simp at e;subst e;exact ⟨_,rfl,r⟩
 | _,_,i + 1,x,.cons _ t,e=>by
   obtain ⟨u,h1,h2⟩:=Vals.get (i:=i) (x:=x) t (by simpa using e)
   exact ⟨u,by simpa using h1,h2⟩
theorem Vals.set {x:V}{u:Value}(r:RelV x u):∀{xs:List V} {us:List Value} (i:Nat),Vals xs us->Vals (xs.set i x) (us.set i u)
 | _,_,_,.nil=>.nil
 | _,_,0,.cons _ t=>.cons r t
 | _,_,i + 1,.cons q t=>.cons q (Vals.set r i t)
theorem Vals.append:∀{xs ys:List V} {us ws:List Value},Vals xs us->Vals ys ws->Vals (xs++ys) (us++ws)
 | _,_,_,_,.nil,s=>s
 | _,_,_,_,.cons r t,s=>.cons r (Vals.append t s)
theorem Vals.take:∀{xs:List V} {us:List Value} (n:Nat),Vals xs us->Vals (xs.take n) (us.take n)
 | _,_,0,_=>.nil
 | _,_,_ + 1,.nil=>.nil
 | _,_,n + 1,.cons r t=>.cons r (Vals.take n t)
theorem Vals.drop:∀{xs:List V} {us:List Value} (n:Nat),Vals xs us->Vals (xs.drop n) (us.drop n)
 | _,_,0,r=>r
 | _,_,_ + 1,.nil=>.nil
 | _,_,n + 1,.cons _ t=>Vals.drop n t
def fC:Option V->Option Value->Prop
 | some v,some u=>RelV v u
 | none,none=>True
 | _,_=>False
def KV {κ:Type}:List (κ×V)->List (κ×Value)->Prop:=Paired λ(p:κ×V) (q:κ×Value)=>p.1=q.1/\RelV p.2 q.2
def kV:Key->V
 | .inl i=>.int i
 | .inr x=>.str x
inductive HO where
 /-- a list -/
 | lst (xs:List V)
 /-- a tuple (never changes) -/
 | tup (xs:List V)
 /-- a dict whose keys are ints and texts;one whose keys are tuples of ints and texts (the empty one is both) -/
 | dK (kvs:List (Key×V)) | dT (kvs:List (List Key×V))
 /-- a set of ints:its members,its size -/
 | set (S:Int->Bool) (n:Nat)
 /-- an instance of the class at C,its dict at dx,its attributes -/
 | ins (C dx:Addr) (fs:List (Str×V))
 /-- the dict of the instance at x -/
 | own (x:Addr)
 /-- the dict of an exception -/
 | xd (fs:List (Str×V))
 /-- a bound method,f of x -/
 | met (f x:Addr)
 /-- a range object lo,lo + 1,.. below hi -/
 | rng (lo hi:Int)
 /-- a thing that is known to the object (the script;a dict while a loop walks it):read,never written while it is so -/
 | frz (o:Obj) (u:HO)
 /-- a code object's table -/
 | tbl (ps:Array Value)
 /-- any other thing,by what is true of its one object (a def of one's own:SetO a S n:=HO.ext λh=>..) -/
 | ext (φ:Heap->Prop)
abbrev Hp:=Addr->Option HO
def upd (H:Hp)(a:Addr)(o:HO):Hp:=λb=>if b=a then some o else H b
theorem av {H:Hp}{o:HO}:upd H a o a=some o:=by unfold upd;rw [if_pos rfl]
theorem aw {H:Hp}{o:HO}(h:b≠a):upd H a o b=H b:=by unfold upd;rw [if_neg h]
theorem Cu {H:Hp}{o u:HO}(h:H a=some o)(h':H b=some u)(d:o≠u):a≠b:=by
 intro e;subst e;rw [h] at h';exact d (Option.some.inj h')
theorem bY {H:Hp}{o:HO}(h:H a=some o)(h':H b=none):a≠b:=by
 intro e;subst e;rw [h] at h';cases h'
end
section
variable (P:Program)(w:World)
def cJ (H:Hp)(h:Heap)(a:Addr):HO->Prop
 | .lst xs=>xs.length<=sizeLine/\∃(its:List Value) (n:Nat),Vals xs its/\h.get? a=some {cls:=.type "list",data:=.seq its.toArray n}
 | .tup xs=>xs.length<=sizeLine/\∃its:List Value,Vals xs its/\IsTup h a its.toArray
 | .dK kvs=>kvs.length<=sizeLine/\(a==sysModules)=false/\∃vs,KV kvs vs/\h.DictOf (bB P w) a vs
 | .dT kvs=>kvs.length<=sizeLine/\(a==sysModules)=false/\∃xs:List (List Key×Addr×Value),
  Paired (λ(p:List Key×V) (q:List Key×Addr×Value)=>p.1=q.1/\H q.2.1=some (.tup (p.1.map kV))/\RelV p.2 q.2.2) kvs xs/\
  ∃o es ep,h.get? a=some o/\o.ExactDict/\o.data= .dict es ep/\es.toList=xs.map (entryOfKey (tupleKind (bB P w)))/\(xs.map (·.1)).Nodup
 | .set S n=>h.SetOf (intKind P w) a S n
 | .ins C dx fs=>H dx=some (.own a)/\fs.length<=1000/\dx≠a/\h.get? a=some (PySem.W.instObj C dx)/\
  ∃mA,h.Ns1 dx mA/\(∀f,fC (fs.lookup f) (mA f))/\PySem.Within mA (fs.map (·.1))
 | .own _=>∃o,h.get? a=some o
 | .xd fs=>∃mA,h.Ns1 a mA/\∀f,fC (fs.lookup f) (mA f)
 | .rng lo hi=>∃t u v,h.get? a=some {cls:=.type "range",data:=.fields #[.int lo t,.int hi u,.int 1 v]}
 | .frz o u=>h.get? a=some o/\cJ H h a u
 | .tbl ps=>h.get? a=some {cls:=.none,data:=.fields ps}
 | .met f x=>h.get? a=some (PySem.W.methodObj (.ref f) (.ref x))
 | .ext φ=>φ h/\(∃o,h.get? a=some o)/\∀h1 h2:Heap,φ h1->(∀o,h1.get? a=some o->h2.get? a=some o)->φ h2
def cU (H:Hp)(h:Heap):Prop:=∀a o,H a=some o->cJ P w H h a o
end
section
variable {P:Program}{w:World}{H H':Hp}{h h':Heap}{a:Addr}{o:HO}
theorem cJ.lt (x:cJ P w H h a o):a < h.objs.size:=by
 cases o with
 | lst xs=>obtain ⟨_,_,_,_,e⟩:=x;exact Heap.lt_size e
 | tup xs=>obtain ⟨_,_,_,p⟩:=x;exact p.lt
 | dK kvs=>obtain ⟨_,_,_,_,o,_,_,e,_⟩:=x;exact Heap.lt_size e
 | dT kvs=>obtain ⟨_,_,_,_,o,_,_,e,_⟩:=x;exact Heap.lt_size e
 | set S n=>obtain ⟨o,_,_,_,e,_⟩:=x;exact Heap.lt_size e
 | ins C dx fs=>obtain ⟨_,_,_,e,_⟩:=x;exact Heap.lt_size e
 | own y=>obtain ⟨_,e⟩:=x;exact Heap.lt_size e
 | xd fs=>obtain ⟨_,⟨_,_,_,e,_⟩,_⟩:=x;exact Heap.lt_size e
 | rng lo hi=>obtain ⟨_,_,_,e⟩:=x;exact Heap.lt_size e
 | frz ob u=>obtain ⟨e,_⟩:=x;exact Heap.lt_size e
 | tbl ps=>exact Heap.lt_size (show h.get? a=some _ from x)
 | met f y=>exact Heap.lt_size (show h.get? a=some _ from x)
 | ext φ=>obtain ⟨_,⟨_,e⟩,_⟩:=x;exact Heap.lt_size e
theorem Paired.wK {α β:Type}{F G:α->β->Prop}:∀{l₁:List α} {l₂:List β},Paired F l₁ l₂->(∀a b,F a b->G a b)->Paired G l₁ l₂
 | _,_,.nil,_=>.nil
 | _,_,.cons r t,f=>.cons (f _ _ r) (Paired.wK t f)
theorem cJ.stay (x:cJ P w H h a o)(k:∀b u,(b=a∨H b=some (.own a))->h.get? b=some u->h'.get? b=some u)
 (ho:∀b,H b=some (.own a)->H' b=some (.own a)) (ht:∀b xs,H b=some (.tup xs)->H' b=some (.tup xs)):cJ P w H' h' a o:=by
 induction o with
 | lst xs=>obtain ⟨z,its,n,r,e⟩:=x;exact ⟨z,its,n,r,k _ _ (.inl rfl) e⟩
 | tup xs=>obtain ⟨z,its,r,ob,e,c⟩:=x;exact ⟨z,its,r,ob,k _ _ (.inl rfl) e,c⟩
 | dK kvs=>obtain ⟨z,y,vs,r,ob,es,ep,e,c⟩:=x;exact ⟨z,y,vs,r,ob,es,ep,k _ _ (.inl rfl) e,c⟩
 | dT kvs=>
   obtain ⟨z,y,xs,r,ob,es,ep,e,c⟩:=x
   exact ⟨z,y,xs,Paired.wK r λp q z=>⟨z.1,ht _ _ z.2.1,z.2.2⟩,ob,es,ep,k _ _ (.inl rfl) e,c⟩
 | set S n=>obtain ⟨ob,es,ep,t,e,c⟩:=x;exact ⟨ob,es,ep,t,k _ _ (.inl rfl) e,c⟩
 | ins C dx fs=>
   obtain ⟨d,z,ne,e,mA,⟨od,es,ep,e2,c⟩,r⟩:=x
   exact ⟨ho _ d,z,ne,k _ _ (.inl rfl) e,mA,⟨od,es,ep,k _ _ (.inr d) e2,c⟩,r⟩
 | own y=>obtain ⟨ob,e⟩:=x;exact ⟨ob,k _ _ (.inl rfl) e⟩
 | xd fs=>obtain ⟨mA,⟨od,es,ep,e,c⟩,r⟩:=x;exact ⟨mA,⟨od,es,ep,k _ _ (.inl rfl) e,c⟩,r⟩
 | rng lo hi=>obtain ⟨t,u,v,e⟩:=x;exact ⟨t,u,v,k _ _ (.inl rfl) e⟩
 | frz ob u ih=>obtain ⟨e,q⟩:=x;exact ⟨k _ _ (.inl rfl) e,ih q⟩
 | tbl ps=>
   have e:h.get? a=some {cls:=.none,data:=.fields ps}:=x
   show h'.get? a=some {cls:=.none,data:=.fields ps}
   exact k a _ (.inl rfl) e
 | met f y=>
   have e:h.get? a=some (PySem.W.methodObj (.ref f) (.ref y)):=x
   show h'.get? a=some (PySem.W.methodObj (.ref f) (.ref y))
   exact k a _ (.inl rfl) e
 | ext φ=>obtain ⟨p,⟨o,e⟩,st⟩:=x;exact ⟨st _ _ p λo q=>k _ _ (.inl rfl) q,⟨o,k _ _ (.inl rfl) e⟩,st⟩
theorem cU.lt (x:cU P w H h)(e:H a=some o):a < h.objs.size:=(x a o e).lt
theorem cU.fresh (x:cU P w H h)(e:h.objs.size<=a):H a=none:=by
 cases q:H a with
 | none=>rfl
 | some u=>exact absurd (Nat.lt_of_lt_of_le (x.lt q) e) (Nat.lt_irrefl _)
theorem cU.kept (x:cU P w H h)(k:∀b u,h.get? b=some u->h'.get? b=some u):cU P w H h':=λa o e=>
 (x a o e).stay (λb u _ q=>k b u q) (λ_ q=>q) λ_ _ q=>q
theorem cU.laid (x:cU P w H h)(k:∀b u,h.get? b=some u->h'.get? b=some u)(hp:h.objs.size<=a)(new:cJ P w (upd H a o) h' a o):cU P w (upd H a o) h':=λb u e=>by
 have hn:=x.fresh hp
 by_cases hb:b=a
 ·subst hb;rw [av] at e;cases e;exact new
 ·rw [aw hb] at e
  exact (x b u e).stay (λc v _ q=>k c v q) (λc q=>by rw [aw (bY q hn)];exact q) λc xs q=>by rw [aw (bY q hn)];exact q
end
def Rd (H:Hp)(a:Addr)(u:HO):Prop:=H a=some u∨∃o,H a=some (.frz o u)
theorem Rd.ok {P:Program}{w:World}{H:Hp}{h:Heap}{a:Addr}{u:HO}(r:Rd H a u)(x:cU P w H h):cJ P w H h a u:=by
 rcases r with r | ⟨o,r⟩
 ·exact x a u r
 ·obtain ⟨_,q⟩:=x a _ r
  exact q
def sY:Option HO->Prop
 | some (.lst _)=>True
 | some (.dK _)=>True
 | some (.dT _)=>True
 | some (.set _ _)=>True
 | some (.ins _ _ _)=>True
 | some (.ext _)=>True
 | _=>False
section
variable {P:Program}{w:World}{H:Hp}{h h':Heap}{x e:Addr}{o':HO}
theorem cU.write (ok:cU P w H h)(mu:sY (H x))(he:e=x∨H e=some (.own x))(k:∀b u,b≠e->h.get? b=some u->h'.get? b=some u)(heo:∃u,h'.get? e=some u)
 (new:cJ P w (upd H x o') h' x o'):cU P w (upd H x o') h':=λb u q=>by
 have nown:∀c y,H c=some (.own y)->c≠x:=λc y r z=>by subst z;rw [r] at mu;exact mu
 have ntup:∀c xs,H c=some (.tup xs)->c≠x:=λc xs r z=>by subst z;rw [r] at mu;exact mu
 by_cases hb:b=x
 ·subst hb;rw [av] at q;cases q;exact new
 ·rw [aw hb] at q
  by_cases hbe:b=e
  ·have q':H b=some (.own x):=by
    rcases he with z | z
    ·exact absurd (hbe.trans z) hb
    ·rw [hbe];exact z
   rw [q] at q';cases q'
   obtain ⟨v,hv⟩:=heo
   exact ⟨v,by rw [hbe];exact hv⟩
  ·refine (ok b u q).stay (λc v hc r=>k c v ?_ r) (λc r=>by rw [aw (nown c b r)];exact r) λc xs r=>by rw [aw (ntup c xs r)];exact r
   rcases hc with rfl | hc
   ·exact hbe
   ·rintro rfl
    rcases he with z | z
    ·exact nown c b hc z
    ·rw [hc] at z;cases z;exact hb rfl
end
structure Un (fs ex:List Addr) (H H':Hp) (h h':Heap):Prop where
 keep:∀b o,h.get? b=some o->H b=none->b∉fs->b∉ex->h'.get? b=some o
 slot:∀b o,h.get? b=some o->H b=none->b∈fs->b∉ex->∃sl,h'.get? b=some {o with slots:=sl}
 free:∀b o,h.get? b=some o->H b=none->b∉ex->H' b=none
 there:∀b o,h.get? b=some o->b∉ex->∃o',h'.get? b=some o'
 tups:∀b xs,H b=some (.tup xs)->H' b=some (.tup xs)
 frzs:∀b o u,H b=some (.frz o u)->H' b=some (.frz o u)
 tbls:∀b ps,H b=some (.tbl ps)->∃more,H' b=some (.tbl (ps++more))
section
variable {fs fs' ex ex':List Addr}{H H1 H2:Hp}{h h1 h2 h':Heap}{a x e:Addr}{o:HO}
theorem Un.any (u:Un fs ex H H1 h h1){b:Addr}{ob:Obj}(q:h.get? b=some ob)(n:H b=none)(hx:b∉ex):∃sl,h1.get? b=some {ob with slots:=sl}:=by
 by_cases hb:b∈fs
 ·exact u.slot b ob q n hb hx
 ·exact ⟨ob.slots,u.keep b ob q n hb hx⟩
theorem Un.kept (k:∀b u,h.get? b=some u->h'.get? b=some u):Un fs ex H H h h':=
 ⟨λb ob q _ _ _=>k b ob q,λb ob q _ _ _=>⟨ob.slots,k b ob q⟩,λ_ _ _ n _=>n,λb ob q _=>⟨ob,k b ob q⟩,λ_ _ q=>q,λ_ _ _ q=>q,λ_ ps q=>⟨#[],by rw [q];simp⟩⟩
theorem Un.refl:Un fs ex H H h h:=Un.kept λ_ _ q=>q
theorem Un.laid (k:∀b u,h.get? b=some u->h'.get? b=some u)(hp:h.objs.size<=a)(hn:H a=none):Un fs ex H (upd H a o) h h' where
 keep:=λb u q _ _ _=>k b u q
 slot:=λb u q _ _ _=>⟨u.slots,k b u q⟩
 free:=λb u q n _=>by rw [aw (Nat.ne_of_lt (Nat.lt_of_lt_of_le (Heap.lt_size q) hp))];exact n
 there:=λb u q _=>⟨u,k b u q⟩
 tups:=λb xs q=>by rw [aw (bY q hn)];exact q
 frzs:=λb u xs q=>by rw [aw (bY q hn)];exact q
 tbls:=λb ps q=>⟨#[],by rw [aw (bY q hn),q];simp⟩
theorem Un.write (mu:sY (H x))(he:e=x∨H e=some (.own x))(k:∀b u,b≠e->h.get? b=some u->h'.get? b=some u)(heo:∃u,h'.get? e=some u):Un fs ex H (upd H x o) h h':=by
 have hx:∀b,H b=none->b≠x:=λb n z=>by subst z;rw [n] at mu;exact mu
 have hb:∀b,H b=none->b≠e:=λb n z=>by
  subst z
  rcases he with r | r
  ·exact hx b n r
  ·rw [n] at r;cases r
 have hm:∀b u,H b=some u->¬sY (some u)->b≠x:=λb u q nm z=>by subst z;rw [q] at mu;exact nm mu
 refine ⟨λb u q n _ _=>k b u (hb b n) q,λb u q n _ _=>⟨u.slots,k b u (hb b n) q⟩,λb u q n _=>by rw [aw (hx b n)];exact n,λb u q _=>?_,
  λb xs q=>by rw [aw (hm b _ q λz=>z)];exact q,λb u xs q=>by rw [aw (hm b _ q λz=>z)];exact q,λb ps q=>⟨#[],by rw [aw (hm b _ q λz=>z),q];simp⟩⟩
 by_cases hbe:b=e
 ·subst hbe;exact heo
 ·exact ⟨u,k b u hbe q⟩
end
def xS (h:Heap)(H:Hp):List Addr:=(List.range h.objs.size).filter λa=>(H a).isSome
def iU (h:Heap)(H:Hp):Heap:=PySem.W.hideAll h (xS h H)
theorem uM (h:Heap)(H:Hp):(iU h H).objs.size=h.objs.size:=PySem.W.hideAll_size _ _
theorem vy {h:Heap}{H:Hp}{b:Addr}{o:Obj}(e:h.get? b=some o)(n:H b=none):(iU h H).get? b=some o:=
 PySem.W.hideAll_get _ e λhm=>by
  have q:(H b).isSome=true:=(List.mem_filter.mp hm).2
  rw [n] at q;simp at q
theorem zi {h:Heap}{H:Hp}{b:Addr}{o:Obj}(e:(iU h H).get? b=some o):h.get? b=some o/\H b=none:=by
 have e':h.get? b=some o:=PySem.W.of_hideAll (xS h H) e
 refine ⟨e',?_⟩
 cases q:H b with
 | none=>rfl
 | some x=>
   have hm:b∈xS h H:=List.mem_filter.mpr ⟨List.mem_range.mpr (Heap.lt_size e'),by simp [q]⟩
   have z:(iU h H).get? b=none:=PySem.W.hideAll_none (xS h H) hm
   rw [z] at e;cases e
structure Mod (K:PySem.W.Frag) (mg:Str->Option Value) (base:Heap):Prop where
 kin:K.In base
 glob:base.Ns mainGlobals mg
 blt:∃mb,base.Ns builtinsNs mb/\∀x:Str,x≠"__name__"->mb x=bootBuiltins x
 nolimit:base.NoLimit
structure Cx where
 prog:Program
 w:World
 K:PySem.W.Frag
 mg:Str->Option Value
 base:Heap
 A:Around
 N:List Str
 s₀:Shared
 H₀:Hp
 env:Env
 outer:List Env
 stack:List Env
 ex:List Addr
 fn:Str->Bool
 calm:Bool
 pn:List (Addr×Obj)
 xe:Value->Shared->Prop
def iM (l:List Env):List Addr:=l.filterMap (·.frame)
abbrev Cx.fs (X:Cx):List Addr:=iM X.outer
def cy (sc:Scope)(x:Str):Prop:=sc.names.lookup x=some .local∨sc.names.lookup x=some .cell∨sc.names.lookup x=some .free
def Loc (sc:Scope)(x:Str):Prop:=sc.names.lookup x=some .local∨sc.names.lookup x=some .cell
def Look (env:Env)(h:Heap)(m:Str->Option Value)(x:Str)(u:Value):Prop:=
 (env.kindOf x=some .local/\m x=some u)∨((env.kindOf x=some .cell∨env.kindOf x=some .free)/\∃c,env.cells.lookup x=some c/\h.IsCell c (some u))
structure Cx.Ok (X:Cx):Prop where
 mod:Mod X.K X.mg X.base
 kind:X.env.scope.kind= .function
 glob:X.env.globals=mainGlobals
 blt:X.env.builtins=builtinsNs
 above:X.s₀.heap.objs.size<=X.env.locals
 inj:∀x y c,X.env.cells.lookup x=some c->X.env.cells.lookup y=some c->x=y
 has:∀x,(X.env.kindOf x=some .cell∨X.env.kindOf x=some .free)->∃c,X.env.cells.lookup x=some c
 cab:∀x c,X.fn x=true->X.env.cells.lookup x=some c->X.s₀.heap.objs.size<=c
 hd:X.calm=true->X.A.handled=none
 frames:X.A.frames=some X.stack
 stk:X.stack=X.outer∨(X.stack=X.env::X.outer/\X.env.frame=some X.env.locals)
 exf:∀b∈X.ex,b≠X.env.locals/\∀x c,X.env.cells.lookup x=some c->c≠b
 bs:∀b o,X.base.get? b=some o->X.s₀.heap.get? b=some o/\X.H₀ b=none
 bsz:X.base.objs.size<=X.s₀.heap.objs.size
 noex:∀b o,X.base.get? b=some o->b∉X.ex
 exfs:∀b∈X.ex,b∉X.fs
 funs:X.s₀.heap.FunFrames X.base X.outer
 frf:∀b∈X.fs,X.H₀ b=none
structure Inv (X:Cx) (pins:List (Addr×Obj)) (σ:List (Option V)) (H:Hp) (s:Shared):Prop where
 ok:X.Ok
 os:s.os=X.s₀.os
 bare:AllBare s.gens
 base:Un X.fs X.ex X.H₀ H X.s₀.heap s.heap
 loc:∃m,s.heap.Ns X.env.locals m/\∀(i:Nat) (x:Str) (v:V),X.N[i]?=some x->σ[i]?=some (some v)->cy X.env.scope x->∃u,RelV v u/\Look X.env s.heap m x u
 cell:∀x c,X.env.cells.lookup x=some c->∃v,s.heap.IsCell c v
 free:H X.env.locals=none
 freeC:∀x c,X.env.cells.lookup x=some c->H c=none
 pin:∀p∈X.pn++pins,s.heap.get? p.1=some p.2/\H p.1=none/\p.1≠X.env.locals/\p.1∉X.fs/\∀v,p.2.data≠ .cell v
 hok:cU X.prog X.w H s.heap
 len:σ.length=X.N.length
section
variable {X:Cx}{pins:List (Addr×Obj)}{σ:List (Option V)}{H H':Hp}{s:Shared}{h':Heap}
variable {t':Nat}{ch:List Addr}{x:Str}{i:Nat}
theorem Cx.Ok.Fq (ok:X.Ok){b:Addr}{o:Obj}(e:X.base.get? b=some o):b∉X.fs:=λhb=>by
 have:=(ok.funs.mem hb).1
 rw [e] at this;cases this
theorem Inv.bs (I:Inv X pins σ H s):∀b o,X.base.get? b=some o->s.heap.get? b=some o/\H b=none:=λb o e=>
 ⟨I.base.keep b o (I.ok.bs b o e).1 (I.ok.bs b o e).2 (I.ok.Fq e) (I.ok.noex b o e),I.base.free b o (I.ok.bs b o e).1 (I.ok.bs b o e).2 (I.ok.noex b o e)⟩
theorem Inv.bk (I:Inv X pins σ H s):∀b o,X.base.get? b=some o->s.heap.get? b=some o:=λb o e=>(I.bs b o e).1
theorem Inv.mod (I:Inv X pins σ H s):Mod X.K X.mg X.base:=I.ok.mod
theorem Inv.g7 (I:Inv X pins σ H s):X.K.In s.heap:=I.ok.mod.kin.keeps I.bk
theorem Inv.lt (I:Inv X pins σ H s):X.env.locals < s.heap.objs.size:=let ⟨_,hn,_⟩:=I.loc;hn.lt
theorem Inv.sz (I:Inv X pins σ H s):X.s₀.heap.objs.size<=s.heap.objs.size:=Nat.le_trans I.ok.above (Nat.le_of_lt I.lt)
theorem Inv.Fs (I:Inv X pins σ H s){a:Addr}(h:s.heap.objs.size<=a):a∉X.fs:=λhb=>by
 obtain ⟨_,o,ho,_⟩:=I.ok.funs.mem hb
 exact absurd (Nat.lt_of_lt_of_le (Heap.lt_size ho) (Nat.le_trans I.sz h)) (Nat.lt_irrefl _)
theorem Inv.cne (I:Inv X pins σ H s):∀x c,X.env.cells.lookup x=some c->c≠X.env.locals:=λx c e z=>by
 obtain ⟨v,o,ho,hd⟩:=I.cell x c e
 obtain ⟨m,⟨o',es,ep,ho',hd',_⟩,_⟩:=I.loc
 rw [z,ho'] at ho;cases ho;rw [hd'] at hd;cases hd
theorem Inv.funs (I:Inv X pins σ H s):s.heap.FunFrames X.base X.outer:=by
 have all:∀(l:List Env),(∀b∈iM l,b∈X.fs)->X.s₀.heap.FunFrames X.base l->s.heap.FunFrames X.base l:=by
  intro l
  induction l with
  | nil=>intro _ _;trivial
  | cons env r ih=>
    intro hs hl
    obtain ⟨hk,⟨L,o,hf,hn,ho,hd⟩,hr⟩:=hl
    have hL:L∈X.fs:=hs L (by unfold iM;rw [List.filterMap_cons,hf];exact List.mem_cons_self)
    obtain ⟨sl,e⟩:=I.base.slot L o ho (I.ok.frf L hL) hL λz=>I.ok.exfs L z hL
    exact ⟨hk,⟨L,_,hf,hn,e,hd⟩,ih (λb hb=>hs b (by unfold iM;rw [List.filterMap_cons,hf];exact List.mem_cons_of_mem _ hb)) hr⟩
 exact all X.outer (λ_ hb=>hb) I.ok.funs
theorem Inv.stack (I:Inv X pins σ H s):s.heap.FunFrames X.base X.stack:=by
 rcases I.ok.stk with e | ⟨e,hf⟩
 ·rw [e];exact I.funs
 ·rw [e]
  obtain ⟨m,hn,_⟩:=I.loc
  refine .cons (by rw [I.ok.kind];decide) hf hn ?_ I.funs
  exact Heap.get?_none_of_le (Nat.le_trans I.ok.bsz I.ok.above)
theorem Inv.oy (I:Inv X pins σ H s):∀b∈iM X.stack,b∈X.env.locals::X.fs:=λb hb=>by
 rcases I.ok.stk with e | ⟨e,hf⟩
 ·rw [e] at hb;exact List.mem_cons_of_mem _ hb
 ·rw [e] at hb
  unfold iM at hb
  rw [List.filterMap_cons,hf] at hb
  exact hb
theorem Inv.qG (I:Inv X pins σ H s):∀b∈iM X.stack,H b=none:=λb hb=>by
 rcases List.mem_cons.mp (I.oy b hb) with e | hb
 ·rw [e];exact I.free
 ·obtain ⟨_,o,ho,_⟩:=I.ok.funs.mem hb
  exact I.base.free b o ho (I.ok.frf b hb) λz=>I.ok.exfs b z hb
theorem Inv.step {g':Array GenState}{d':Drawn}(I:Inv X pins σ H s)
 (hch:∀b∈ch,(b∈X.ex∨X.s₀.heap.objs.size<=b)/\b≠X.env.locals/\(∀x c,X.env.cells.lookup x=some c->c≠b)/\∀p∈X.pn++pins,p.1≠b)
 (keep:∀b o,b≠X.env.locals->b∉X.fs->b∉ch->s.heap.get? b=some o->H b=none->h'.get? b=some o)
 (slot:∀b o,b≠X.env.locals->b∈X.fs->b∉ch->s.heap.get? b=some o->H b=none->∃sl,h'.get? b=some {o with slots:=sl}) (free:∀b o,b∉ch->s.heap.get? b=some o->H b=none->H' b=none)
 (there:∀b o,b∉ch->s.heap.get? b=some o->∃o',h'.get? b=some o')
 (tups:∀b xs,H b=some (.tup xs)->H' b=some (.tup xs)) (frzs:∀b o u,H b=some (.frz o u)->H' b=some (.frz o u)) (tbls:∀b ps,H b=some (.tbl ps)->∃more,H' b=some (.tbl (ps++more)))
 (ns:∀m,s.heap.Ns X.env.locals m->h'.Ns X.env.locals m) (hok:cU X.prog X.w H' h') (hg:AllBare g'):
 Inv X pins σ H' {s with heap:=h',gens:=g',drawn:=d',toks:=t'}:=by
 have neL:∀b o,X.s₀.heap.get? b=some o->b≠X.env.locals:=λb o e=>Nat.ne_of_lt (Nat.lt_of_lt_of_le (Heap.lt_size e) I.ok.above)
 have neC:∀b o,X.s₀.heap.get? b=some o->b∉X.ex->b∉ch:=λb o e hx hb=>by
  rcases (hch b hb).1 with z | z
  ·exact hx z
  ·exact absurd (Nat.lt_of_lt_of_le (Heap.lt_size e) z) (Nat.lt_irrefl _)
 have cellK:∀x c,X.env.cells.lookup x=some c->∀v,s.heap.IsCell c v->h'.IsCell c v:=λx c e v ⟨o,ho,hd⟩=>by
  have nch:c∉ch:=λz=>(hch c z).2.2.1 x c e rfl
  by_cases hc:c∈X.fs
  ·obtain ⟨sl,q⟩:=slot c o (I.cne x c e) hc nch ho (I.freeC x c e)
   exact ⟨_,q,hd⟩
  ·exact ⟨o,keep c o (I.cne x c e) hc nch ho (I.freeC x c e),hd⟩
 refine ⟨I.ok,I.os,hg,⟨λb o e n hb hx=>?_,λb o e n hb hx=>?_,λb o e n hx=>?_,λb o e hx=>?_,λb xs e=>tups b xs (I.base.tups b xs e),λb o xs e=>frzs b o xs (I.base.frzs b o xs e),λb ps e=>?_⟩,?_,λx c e=>?_,?_,λx c e=>?_,λp hp=>?_,hok,I.len⟩
 ·exact keep b o (neL b o e) hb (neC b o e hx) (I.base.keep b o e n hb hx) (I.base.free b o e n hx)
 ·obtain ⟨sl,e1⟩:=I.base.slot b o e n hb hx
  obtain ⟨sl',e2⟩:=slot b _ (neL b o e) hb (neC b o e hx) e1 (I.base.free b o e n hx)
  exact ⟨sl',e2⟩
 ·obtain ⟨o',e1⟩:=I.base.there b o e hx
  exact free b o' (neC b o e hx) e1 (I.base.free b o e n hx)
 ·obtain ⟨o',e1⟩:=I.base.there b o e hx
  exact there b o' (neC b o e hx) e1
 ·obtain ⟨m1,e1⟩:=I.base.tbls b ps e
  obtain ⟨m2,e2⟩:=tbls b _ e1
  exact ⟨m1++m2,by rw [e2,Array.append_assoc]⟩
 ·obtain ⟨m,hn,hl⟩:=I.loc
  refine ⟨m,ns m hn,λi x v e1 e2 e3=>?_⟩
  obtain ⟨u,r,l⟩:=hl i x v e1 e2 e3
  refine ⟨u,r,?_⟩
  rcases l with l | ⟨k,c,e,z⟩
  ·exact .inl l
  ·exact .inr ⟨k,c,e,cellK x c e _ z⟩
 ·obtain ⟨v,z⟩:=I.cell x c e
  exact ⟨v,cellK x c e v z⟩
 ·obtain ⟨m,⟨o,_,_,ho,_⟩,_⟩:=I.loc
  exact free _ o (λz=>(hch _ z).2.1 rfl) ho I.free
 ·obtain ⟨v,o,ho,hd⟩:=I.cell x c e
  exact free c o (λz=>(hch c z).2.2.1 x c e rfl) ho (I.freeC x c e)
 ·obtain ⟨e,n,ne,nf,d⟩:=I.pin p hp
  have nch:p.1∉ch:=λz=>(hch p.1 z).2.2.2 p hp rfl
  exact ⟨keep p.1 p.2 ne nf nch e n,free p.1 p.2 nch e n,ne,nf,d⟩
theorem Inv.un (I:Inv X pins σ H s)(u:Un X.fs [] H H' s.heap h')(hok:cU X.prog X.w H' h'):Inv X pins σ H' {s with heap:=h',toks:=t'}:=by
 obtain ⟨m,⟨o,es,ep,ho,r⟩,_⟩:=id I.loc
 obtain ⟨sl,hL⟩:=u.any ho I.free (by simp)
 exact I.step (g':=s.gens) (d':=s.drawn) (ch:=[]) (λ_ z=>nomatch z) (λb o _ hb _ e n=>u.keep b o e n hb (by simp)) (λb o _ hb _ e n=>u.slot b o e n hb (by simp)) (λb o _ e n=>u.free b o e n (by simp)) (λb o _ e=>u.there b o e (by simp)) u.tups u.frzs u.tbls (λm' hm=>by
  obtain ⟨o',es',ep',ho',r'⟩:=hm
  rw [ho] at ho';cases ho'
  exact ⟨_,es',ep',hL,r'⟩) hok I.bare
theorem Inv.call {g':Array GenState}{d':Drawn}(I:Inv X pins σ H s)(u:Un (iM X.stack) ch H H' s.heap h')(hok:cU X.prog X.w H' h')(hg:AllBare g')
 (hch:∀b∈ch,(b∈X.ex∨X.s₀.heap.objs.size<=b)/\b≠X.env.locals/\(∀x c,X.env.cells.lookup x=some c->c≠b)/\∀p∈X.pn++pins,p.1≠b):
 Inv X pins σ H' {s with heap:=h',gens:=g',drawn:=d',toks:=t'}:=by
 obtain ⟨m,⟨o,es,ep,ho,r⟩,_⟩:=id I.loc
 obtain ⟨sl,hL⟩:=u.any ho I.free λz=>(hch _ z).2.1 rfl
 exact I.step (ch:=ch) hch (λb o hL hb hc e n=>u.keep b o e n (λz=>(List.mem_cons.mp (I.oy b z)).elim hL hb) hc) (λb o _ _ hc e n=>u.any e n hc) (λb o hc e n=>u.free b o e n hc) (λb o hc e=>u.there b o e hc) u.tups u.frzs u.tbls (λm' hm=>by
  obtain ⟨o',es',ep',ho',r'⟩:=hm
  rw [ho] at ho';cases ho'
  exact ⟨_,es',ep',hL,r'⟩) hok hg
theorem Inv.turned {it:Addr}(I:Inv X pins σ H s)(k:∀b o,b≠it->s.heap.get? b=some o->h'.get? b=some o)(hn:H it=none)(hL:it≠X.env.locals)
 (h1:it∈X.ex∨X.s₀.heap.objs.size<=it) (h2:∀x c,X.env.cells.lookup x=some c->c≠it) (h3:∀p∈X.pn++pins,p.1≠it):Inv X pins σ H {s with heap:=h',toks:=t'}:=by
 have nit:∀b u,H b=some u->b≠it:=λb u e z=>by rw [z,hn] at e;cases e
 refine I.step (g':=s.gens) (d':=s.drawn) (ch:=[it]) (λb hb=>?_) (λb o _ _ hc e _=>k b o (λz=>hc (by simp [z])) e) (λb o _ _ hc e _=>⟨o.slots,k b o (λz=>hc (by simp [z])) e⟩) (λ_ _ _ _ n=>n)
  (λb o hc e=>⟨o,k b o (λz=>hc (by simp [z])) e⟩) (λ_ _ e=>e) (λ_ _ _ e=>e) (λb ps e=>⟨#[],by rw [e];simp⟩) (λm hm=>?_) (λb u e=>?_) I.bare
 ·have e:b=it:=by simpa using hb
  subst e
  exact ⟨h1,hL,h2,h3⟩
 ·obtain ⟨o,es,ep,ho,r⟩:=hm
  exact ⟨o,es,ep,k _ o (Ne.symm hL) ho,r⟩
 ·refine (I.hok b u e).stay (λc v hc q=>k c v ?_ q) (λ_ q=>q) λ_ _ q=>q
  rcases hc with z | z
  ·rw [z];exact nit b u e
  ·exact nit c _ z
theorem Inv.tok (I:Inv X pins σ H s)(t:Nat):Inv X pins σ H {s with toks:=t}:=I.un (h':=s.heap) (t':=t) Un.refl I.hok
theorem Inv.kept (I:Inv X pins σ H s)(k:∀b u,s.heap.get? b=some u->h'.get? b=some u):Inv X pins σ H {s with heap:=h',toks:=t'}:=I.un (Un.kept k) (I.hok.kept k)
theorem Inv.laid {a:Addr}{o:HO}(I:Inv X pins σ H s)(k:∀b u,s.heap.get? b=some u->h'.get? b=some u)(hp:s.heap.objs.size<=a)(new:cJ X.prog X.w (upd H a o) h' a o):
 Inv X pins σ (upd H a o) {s with heap:=h',toks:=t'}:=I.un (Un.laid k hp (I.hok.fresh hp)) (I.hok.laid k hp new)
theorem Inv.write {x e:Addr}{o:HO}(I:Inv X pins σ H s)(mu:sY (H x))(he:e=x∨H e=some (.own x))(k:∀b u,b≠e->s.heap.get? b=some u->h'.get? b=some u)(heo:∃u,h'.get? e=some u)
 (new:cJ X.prog X.w (upd H x o) h' x o):Inv X pins σ (upd H x o) {s with heap:=h',toks:=t'}:=I.un (Un.write mu he k heo) (I.hok.write mu he k heo new)
theorem Inv.gy {pins':List (Addr×Obj)}(I:Inv X pins σ H s)(h:∀p∈pins',s.heap.get? p.1=some p.2/\H p.1=none/\p.1≠X.env.locals/\p.1∉X.fs/\∀v,p.2.data≠ .cell v):Inv X pins' σ H s:=
 ⟨I.ok,I.os,I.bare,I.base,I.loc,I.cell,I.free,I.freeC,λp hp=>(List.mem_append.mp hp).elim (λz=>I.pin p (List.mem_append_left _ z)) (h p),I.hok,I.len⟩
theorem pf {N:List Str}(hN:N.Nodup){j:Nat}(a:N[i]?=some x)(b:N[j]?=some x):i=j:=by
 obtain ⟨h1,e1⟩:=List.getElem?_eq_some_iff.mp a
 obtain ⟨h2,e2⟩:=List.getElem?_eq_some_iff.mp b
 exact (List.getElem_inj hN).mp (e1.trans e2.symm)
theorem mM {M:Model}{A:Around}{E:Value->Shared->Prop}{v:V}{u:Value}{Q:Unit->Shared->Prop}(I:Inv X pins σ H s)(hN:X.N.Nodup)(hi:X.N[i]?=some x)(hx:Loc X.env.scope x)(r:RelV v u)
 (h:∀s',Inv X pins (σ.set i (some v)) H s'->(∃a,Heap.SameBut a s.heap s'.heap/\(a=X.env.locals∨X.env.cells.lookup x=some a))->Q () s') (hf:X.fn x=true∨X.env.scope.names.lookup x=some .local:=by first | exact .inl rfl | exact .inr rfl | assumption):wpAny M A (storeName X.env x u) Q E s:=by
 obtain ⟨m,hn,hl⟩:=id I.loc
 have hcls:(X.env.scope.kind== .class ||(X.env.scope.kind== .module&&X.env.locals != X.env.globals))=false:=by rw [I.ok.kind];rfl
 have hiσ:i < σ.length:=by rw [I.len];exact (List.getElem?_eq_some_iff.mp hi).1
 have cne:=I.cne
 have tracked:∀{a:Addr} {h':Heap},(∃o,s.heap.get? a=some o/\H a=none)->Heap.SameBut a s.heap h'->cU X.prog X.w H h':=λ{a h'} ha hs b ob e=>by
  obtain ⟨_,_,hfree⟩:=ha
  refine (I.hok b ob e).stay (λc w' hc q=>(hs.2 c ?_).trans q) (λ_ q=>q) λ_ _ q=>q
  rintro rfl
  rcases hc with rfl | hc
  ·rw [hfree] at e;cases e
  ·rw [hfree] at hc;cases hc
 rcases hx with hk | hk
 ·refine wpAny_storeName_local hk hn (λh' hn' hs=>?_) hcls
  obtain ⟨oL,_,_,hoL,_⟩:=id hn
  refine h _ ⟨I.ok,I.os,I.bare,⟨λb o e n hb hx=>?_,λb o e n hb hx=>?_,I.base.free,λb o e hx=>?_,I.base.tups,I.base.frzs,I.base.tbls⟩,⟨_,hn',λj y v' e1 e2 e3=>?_⟩,λy c e=>?_,I.free,I.freeC,λp hp=>?_,tracked ⟨oL,hoL,I.free⟩ hs,by simpa using I.len⟩ ⟨_,hs,.inl rfl⟩
  ·exact (hs.2 b (Nat.ne_of_lt (Nat.lt_of_lt_of_le (Heap.lt_size e) I.ok.above))).trans (I.base.keep b o e n hb hx)
  ·obtain ⟨sl,e1⟩:=I.base.slot b o e n hb hx
   exact ⟨sl,(hs.2 b (Nat.ne_of_lt (Nat.lt_of_lt_of_le (Heap.lt_size e) I.ok.above))).trans e1⟩
  ·obtain ⟨o',e1⟩:=I.base.there b o e hx
   exact ⟨o',(hs.2 b (Nat.ne_of_lt (Nat.lt_of_lt_of_le (Heap.lt_size e) I.ok.above))).trans e1⟩
  ·by_cases hj:j=i
   ·subst hj
    rw [hi] at e1;cases e1
    rw [List.getElem?_set_self hiσ] at e2
    cases e2
    exact ⟨u,r,.inl ⟨hk,by simp⟩⟩
   ·rw [List.getElem?_set_ne (Ne.symm hj)] at e2
    obtain ⟨u',r',q⟩:=hl j y v' e1 e2 e3
    refine ⟨u',r',?_⟩
    rcases q with ⟨k,e⟩ | ⟨k,c,e,z⟩
    ·refine .inl ⟨k,?_⟩
     have:y≠x:=λe=>hj (pf hN e1 (e▸hi))
     simp [this,e]
    ·exact .inr ⟨k,c,e,z.sameBut hs (cne y c e)⟩
  ·obtain ⟨w',z⟩:=I.cell y c e
   exact ⟨w',z.sameBut hs (cne y c e)⟩
  ·obtain ⟨e,n,ne,nf,d⟩:=I.pin p hp
   exact ⟨(hs.2 p.1 ne).trans e,n,ne,nf,d⟩
 ·have hfn:X.fn x=true:=by
   rcases hf with z | z
   ·exact z
   ·rw [z] at hk;cases hk
  obtain ⟨c,hc⟩:=I.ok.has x (.inl hk)
  obtain ⟨w',z⟩:=I.cell x c hc
  refine wpAny_storeName_cell I.ok.kind hk hc z (λh' hc' hs=>?_)
  obtain ⟨oc,hoc,hocd⟩:=id z
  refine h {s with heap:=h'} ⟨I.ok,I.os,I.bare,⟨λb o e n hb hx=>?_,λb o e n hb hx=>?_,I.base.free,λb o e hx=>?_,I.base.tups,I.base.frzs,I.base.tbls⟩,⟨m,hn.sameBut hs (Ne.symm (cne x c hc)),λj y v' e1 e2 e3=>?_⟩,λy c' e=>?_,I.free,I.freeC,λp hp=>?_,tracked ⟨oc,hoc,I.freeC x c hc⟩ hs,by simpa using I.len⟩ ⟨c,hs,.inr hc⟩
  ·exact (hs.2 b (Nat.ne_of_lt (Nat.lt_of_lt_of_le (Heap.lt_size e) (I.ok.cab x c hfn hc)))).trans (I.base.keep b o e n hb hx)
  ·obtain ⟨sl,e1⟩:=I.base.slot b o e n hb hx
   exact ⟨sl,(hs.2 b (Nat.ne_of_lt (Nat.lt_of_lt_of_le (Heap.lt_size e) (I.ok.cab x c hfn hc)))).trans e1⟩
  ·obtain ⟨o',e1⟩:=I.base.there b o e hx
   exact ⟨o',(hs.2 b (Nat.ne_of_lt (Nat.lt_of_lt_of_le (Heap.lt_size e) (I.ok.cab x c hfn hc)))).trans e1⟩
  ·by_cases hj:j=i
   ·subst hj
    rw [hi] at e1;cases e1
    rw [List.getElem?_set_self hiσ] at e2
    cases e2
    exact ⟨u,r,.inr ⟨.inl hk,c,hc,hc'⟩⟩
   ·rw [List.getElem?_set_ne (Ne.symm hj)] at e2
    obtain ⟨u',r',q⟩:=hl j y v' e1 e2 e3
    refine ⟨u',r',?_⟩
    rcases q with q | ⟨k,c',e,z'⟩
    ·exact .inl q
    ·refine .inr ⟨k,c',e,z'.sameBut hs ?_⟩
     rintro rfl
     exact hj (pf hN e1 (I.ok.inj _ _ _ e hc▸hi))
  ·by_cases hcc:c'=c
   ·subst hcc;exact ⟨_,hc'⟩
   ·obtain ⟨w2,z2⟩:=I.cell y c' e
    exact ⟨w2,z2.sameBut hs hcc⟩
  ·obtain ⟨e,n,ne,nf,d⟩:=I.pin p hp
   refine ⟨(hs.2 p.1 ?_).trans e,n,ne,nf,d⟩
   intro q
   rw [q,hoc] at e
   have q':oc=p.2:=Option.some.inj e
   exact d w' (by rw [← q'];exact hocd)
theorem kC {M:Model}{A:Around}{E:Value->Shared->Prop}{v:V}{u:Value}{Q:Unit->Shared->Prop}(I:Inv X pins σ H s)(hN:X.N.Nodup)(hi:X.N[i]?=some x)(hx:Loc X.env.scope x)(r:RelV v u)
 (h:∀s',Inv X pins (σ.set i (some v)) H s'->Q () s') (hf:X.fn x=true∨X.env.scope.names.lookup x=some .local:=by first | exact .inl rfl | exact .inr rfl | assumption):wpAny M A (storeName X.env x u) Q E s:=
 mM I hN hi hx r (λs' I' _=>h s' I') hf
theorem Inv.CB {s':Shared}(I:Inv X pins σ H s)(ho:s'.os=s.os)(u:Un (iM X.stack) ch H H' s.heap s'.heap)(hok:cU X.prog X.w H' s'.heap)(hg:AllBare s'.gens)
 (hch:∀b∈ch,(b∈X.ex∨X.s₀.heap.objs.size<=b)/\b≠X.env.locals/\(∀x c,X.env.cells.lookup x=some c->c≠b)/\∀p∈X.pn++pins,p.1≠b):Inv X pins σ H' s':=by
 obtain ⟨h',g',d',t',o'⟩:=s'
 have e:o'=s.os:=ho
 subst e
 exact I.call (g':=g') (t':=t') (d':=d') u hok hg hch
end
abbrev XK:=Value->Option Addr->Hp->Prop
abbrev St:=List (Option V)
abbrev VK:=V->Hp->Prop
abbrev TE:=St->Hp->VK->Prop
abbrev TT:=St->Hp->(Bool->Hp->Prop)->Prop
abbrev TA:=St->Hp->(List V->Hp->Prop)->Prop
structure Ends where
 nx:St->Hp->Prop
 rt:VK
 bk:St->Hp->Prop:=λ_ _=>False
 ct:St->Hp->Prop:=λ_ _=>False
abbrev TS:=Ends->St->Hp->Prop
def EP (X:Cx)(pins:List (Addr×Obj))(σ:St)(Q:VK)(u:Value)(s':Shared):Prop:=∃v H',Inv X pins σ H' s'/\RelV v u/\Q v H'
def TP (X:Cx)(pins:List (Addr×Obj))(σ:St)(Q:Bool->Hp->Prop)(b:Bool)(s':Shared):Prop:=∃H',Inv X pins σ H' s'/\Q b H'
def AP (X:Cx)(pins:List (Addr×Obj))(σ:St)(Q:List V->Hp->Prop)(us:List Value)(s':Shared):Prop:=∃vs H',Inv X pins σ H' s'/\Vals vs us/\Q vs H'
def SP (X:Cx)(pins:List (Addr×Obj))(D:Ends)(f:Flow)(s':Shared):Prop:=
 match f with
 | .next=>∃σ' H',Inv X pins σ' H' s'/\D.nx σ' H'
 | .brk=>∃σ' H',Inv X pins σ' H' s'/\D.bk σ' H'
 | .cont=>∃σ' H',Inv X pins σ' H' s'/\D.ct σ' H'
 | .ret u=>∃v σ' H',Inv X pins σ' H' s'/\RelV v u/\D.rt v H'
def PE (X:Cx)(e:Expr)(t:TE):Prop:=
 ∀(pins:List (Addr×Obj)) (s:Shared) (σ:St) (H:Hp) (Q:VK),Inv X pins σ H s->t σ H Q->wpAny (model X.prog X.w) X.A (eval e X.env) (EP X pins σ Q) X.xe s
def PT (X:Cx)(e:Expr)(t:TT):Prop:=
 ∀(pins:List (Addr×Obj)) (s:Shared) (σ:St) (H:Hp) (Q:Bool->Hp->Prop),Inv X pins σ H s->t σ H Q->wpAny (model X.prog X.w) X.A (isTrue e X.env (eval e X.env)) (TP X pins σ Q) X.xe s
def PW (X:Cx)(e:Expr)(t:TT):Prop:=
 ∀(whole:Sem Value) (pins:List (Addr×Obj)) (s:Shared) (σ:St) (H:Hp) (Q:Bool->Hp->Prop),Inv X pins σ H s->t σ H Q->wpAny (model X.prog X.w) X.A (isTrue e X.env whole) (TP X pins σ Q) X.xe s
theorem PW.pt {X:Cx}{e:Expr}{t:TT}(h:PW X e t):PT X e t:=h _
def PA (X:Cx)(es:List Expr)(t:TA):Prop:=
 ∀(pos:Pos) (pins:List (Addr×Obj)) (s:Shared) (σ:St) (H:Hp) (Q:List V->Hp->Prop),Inv X pins σ H s->t σ H Q->wpAny (model X.prog X.w) X.A (spliced (backTo pos (starEach es X.env))) (AP X pins σ Q) X.xe s
def PS (X:Cx)(st:Stmt)(t:TS):Prop:=
 ∀(pins:List (Addr×Obj)) (s:Shared) (σ:St) (H:Hp) (D:Ends),Inv X pins σ H s->t D σ H->wpAny (model X.prog X.w) X.A (exec st X.env) (SP X pins D) X.xe s
def gF (X:Cx)(st:List Stmt)(t:TS):Prop:=
 ∀(pins:List (Addr×Obj)) (s:Shared) (σ:St) (H:Hp) (D:Ends),Inv X pins σ H s->t D σ H->wpAny (model X.prog X.w) X.A (execs st X.env) (SP X pins D) X.xe s
theorem aF {α:Type}{t:Sem α}{Q Q':α->Shared->Prop}{M:Model}{A:Around}{E:Value->Shared->Prop}{s:Shared}(h:wpAny M A t Q E s)(hQ:∀a s,Q a s->Q' a s):wpAny M A t Q' E s:=wpAny_mono h hQ λ_ _ x=>x
section
variable {X:Cx}
def FA (i:Nat):TE:=λσ H Q=>∃v,σ[i]?=some (some v)/\Q v H
def tC (v:V):TE:=λ_ H Q=>Q v H
theorem bc {i:Nat}{x:Str}{pos:Pos}(hN:X.N[i]?=some x)(hv:cy X.env.scope x)(hd:(x==("__debug__":Str))=false:=by decide)(hcd:(x==("__classdict__":Str))=false:=by decide):PE X (.Name x pos) (FA i):=by
 intro pins s σ H Q I h
 obtain ⟨v,e,h⟩:=h
 obtain ⟨m,hn,hl⟩:=I.loc
 obtain ⟨u,r,l⟩:=hl i x v hN e hv
 have fin:EP X pins σ Q u s:=⟨v,H,I,r,h⟩
 rcases l with ⟨hk,hm⟩ | ⟨hk,c,hc,hcell⟩
 ·exact wpAny_Name (wpAny_loadName_local I.ok.kind hk hn hm fin) hd
 ·rcases hk with hk | hk
  ·exact wpAny_Name (wpAny_loadName_cell I.ok.kind hk hc hcell fin) hd
  ·exact wpAny_Name (wpAny_loadName_free I.ok.kind hk hc hcell fin hcd) hd
theorem z0 {i j pos}:PE X (.Constant (.int i) j pos) (tC (.int i)):=λ_ _ _ H _ I h=>wpAny_Constant_int ⟨.int i,H,I.tok _,⟨_,rfl⟩,h⟩
theorem rW {b j pos}:PE X (.Constant (.bool b) j pos) (tC (.bl b)):=λ_ _ _ H _ I h=>Constant_bool ⟨.bl b,H,I,rfl,h⟩
theorem z9 {j pos}:PE X (.Constant .none j pos) (tC .non):=λ_ _ _ H _ I h=>Constant_none ⟨.non,H,I,rfl,h⟩
theorem Bf {x j pos}:PE X (.Constant (.str x) j pos) (tC (.str x)):=λ_ _ _ H _ I h=>Calls.Constant_str ⟨.str x,H,I.tok _,⟨_,rfl⟩,h⟩
def Gl (X:Cx)(x:Str):Prop:=X.env.kindOf x=some .globalImplicit
theorem lZ {E:Value->Shared->Prop}{pins:List (Addr×Obj)}{s:Shared}{σ:St}{H:Hp}{x:Str}{u:Value}{pos:Pos}{Q:Value->Shared->Prop}(I:Inv X pins σ H s)(hg:Gl X x)(hm:X.mg x=some u)(h:Q u s)
 (hd:(x==("__debug__":Str))=false:=by decide):wpAny (model X.prog X.w) X.A (eval (.Name x pos) X.env) Q E s:=
 Calls.Name_function_global I.ok.kind hg (Calls.loadGlobal_global (by rw [I.ok.glob];exact I.mod.glob.keeps I.bk) hm h) hd
theorem eW {E:Value->Shared->Prop}{pins:List (Addr×Obj)}{s:Shared}{σ:St}{H:Hp}{x:Str}{u:Value}{pos:Pos}{Q:Value->Shared->Prop}(I:Inv X pins σ H s)(hg:Gl X x)(hm:X.mg x=none)(hv:bootBuiltins x=some u)(h:Q u s)
 (hn:x≠"__name__":=by decide) (hd:(x==("__debug__":Str))=false:=by decide):wpAny (model X.prog X.w) X.A (eval (.Name x pos) X.env) Q E s:=by
 obtain ⟨mb,h1,h2⟩:=I.mod.blt
 exact Calls.Name_function_global I.ok.kind hg (Calls.loadGlobal_builtin (by rw [I.ok.glob];exact I.mod.glob.keeps I.bk) hm (by rw [I.ok.blt];exact h1.keeps I.bk) ((h2 x hn).trans hv) h) hd
theorem gC {x:Str}{v:V}{u:Value}{pos:Pos}(hg:Gl X x)(hm:X.mg x=some u)(r:RelV v u)(hd:(x==("__debug__":Str))=false:=by decide):PE X (.Name x pos) (tC v):=
 λ_ _ _ H _ I h=>lZ I hg hm ⟨v,H,I,r,h⟩ hd
variable {a b:Expr}{ta tb:TE}{pos:Pos}
def PC (X:Cx)(op:CmpOp)(a b:Expr)(t:TE):Prop:=
 ∀(pins:List (Addr×Obj)) (s:Shared) (σ:St) (H:Hp) (Q:VK),Inv X pins σ H s->t σ H Q->
  wpAny (model X.prog X.w) X.A (eval a X.env) (λv s₁=>wpAny (model X.prog X.w) X.A (eval b X.env) (λu s₂=>wpAny (model X.prog X.w) X.A (compareOp op v u) (EP X pins σ Q) X.xe s₂) X.xe s₁) X.xe s
def tB (t:TE):TT:=λσ H Q=>t σ H λx H1=>∃c,x= .bl c/\Q c H1
theorem jJ {op:CmpOp}{t:TE}(h:PC X op a b t)(h1:behindInMarks op b=false:=by first | exact nobehind _ (by decide) (by decide) | rfl):PT X (.Compare a [op] [b] pos) (tB t):=by
 intro pins s σ H Q I hw
 refine wpAny_isTrue_Compare1 (aF (h pins s σ H _ I hw) λv s1 h1=>aF h1 λu s2 h2=>aF h2 λc s3 ⟨x,H1,I1,r1,q1⟩=>?_) h1
 obtain ⟨d,rfl,q⟩:=q1
 cases r1
 exact wpAny_truthy_bool ⟨H1,I1,q⟩
theorem Ad {e:Expr}{t:TE}(h:PE X e t)(he:∀whole,isTrue e X.env whole=(do let v ← whole;standAt e.pos;holding [v] (truthy v)):=by intro _;rfl):PT X e (tB t):=by
 intro pins s σ H Q I hw
 refine isTrue_plain (aF (h pins s σ H _ I hw) λv s1 ⟨x,H1,I1,r1,q1⟩=>?_) (he _)
 obtain ⟨d,rfl,q⟩:=q1
 cases r1
 exact wpAny_truthy_bool ⟨H1,I1,q⟩
variable {tA tB':TT}{rest:List Expr}
def Fi (t u:TT):TT:=λσ H Q=>t σ H λc H1=>if c=true then u σ H1 Q else Q false H1
def tOr (t u:TT):TT:=λσ H Q=>t σ H λc H1=>if c=true then Q true H1 else u σ H1 Q
def FR (t:TT):TT:=λσ H Q=>t σ H λc H1=>Q (!c) H1
theorem yL (ha:PT X a tA):PW X (.BoolOp .And [a] pos) tA:=by
 intro wh pins s σ H Q I h
 refine isTrue_and (aF (ha pins s σ H Q I h) λc s1 e=>?_)
 cases c with
 | true=>exact isTrue_and_nil e
 | false=>exact e
theorem Bm (ha:PT X a tA):PW X (.BoolOp .Or [a] pos) tA:=by
 intro wh pins s σ H Q I h
 refine isTrue_or (aF (ha pins s σ H Q I h) λc s1 e=>?_)
 cases c with
 | false=>exact isTrue_or_nil e
 | true=>exact e
theorem zK (ha:PT X a tA)(hb:PW X (.BoolOp .And (b::rest) pos) tB'):PW X (.BoolOp .And (a::b::rest) pos) (Fi tA tB'):=by
 intro wh pins s σ H Q I h
 refine isTrue_and (aF (ha pins s σ H _ I h) λc s1 ⟨H1,I1,q1⟩=>?_)
 cases c with
 | true=>exact hb wh pins s1 σ H1 Q I1 q1
 | false=>exact ⟨H1,I1,q1⟩
theorem Di (ha:PT X a tA)(hb:PW X (.BoolOp .Or (b::rest) pos) tB'):PW X (.BoolOp .Or (a::b::rest) pos) (tOr tA tB'):=by
 intro wh pins s σ H Q I h
 refine isTrue_or (aF (ha pins s σ H _ I h) λc s1 ⟨H1,I1,q1⟩=>?_)
 cases c with
 | true=>exact ⟨H1,I1,q1⟩
 | false=>exact hb wh pins s1 σ H1 Q I1 q1
theorem Bq (ha:PT X a tA):PT X (.UnaryOp .Not a pos) (FR tA):=by
 intro pins s σ H Q I h
 exact isTrue_not (ha pins s σ H (λc H1=>Q (!c) H1) I h)
def Cr (ta tb:TE):TE:=λσ H Q=>ta σ H λx H1=>∃c,x= .bl c/\if c=true then tb σ H1 Q else Q (.bl false) H1
def CJ (ta:TE):TE:=λσ H Q=>ta σ H λx H1=>∃c,x= .bl c/\Q (.bl (!c)) H1
theorem Ab {op}{t:TE}(h:PE X a t):PE X (.BoolOp op [a] pos) t:=λpins s σ H Q I hw=>BoolOp_one (h pins s σ H Q I hw)
theorem AK (ha:PE X a ta)(hb:PE X (.BoolOp .And (b::rest) pos) tb):PE X (.BoolOp .And (a::b::rest) pos) (Cr ta tb):=by
 intro pins s σ H Q I h
 refine BoolOp_and (aF (ha pins s σ H _ I h) λv s1 ⟨x,H1,I1,r1,q1⟩=>?_)
 obtain ⟨c,rfl,q1⟩:=q1
 cases r1
 refine wpAny_truthy_bool ?_
 cases c with
 | true=>exact hb pins s1 σ H1 Q I1 q1
 | false=>exact ⟨.bl false,H1,I1,rfl,q1⟩
theorem BC (ha:PE X a ta):PE X (.UnaryOp .Not a pos) (CJ ta):=by
 intro pins s σ H Q I h
 refine UnaryOp_ (aF (ha pins s σ H _ I h) λv s1 ⟨x,H1,I1,r1,q1⟩=>?_)
 obtain ⟨c,rfl,q1⟩:=q1
 cases r1
 exact not_of (wpAny_truthy_bool ⟨.bl (!c),H1,I1,rfl,q1⟩)
def tIf (t:TT)(ta tb:TE):TE:=λσ H Q=>t σ H λc H1=>if c=true then ta σ H1 Q else tb σ H1 Q
theorem vQ {c:Expr}(hc:PT X c tA)(ha:PE X a ta)(hb:PE X b tb):PE X (.IfExp c a b pos) (tIf tA ta tb):=by
 intro pins s σ H Q I h
 refine wpAny_IfExp (aF (hc pins s σ H _ I h) λd s1 ⟨H1,I1,q1⟩=>?_)
 cases d with
 | true=>exact ha pins s1 σ H1 Q I1 q1
 | false=>exact hb pins s1 σ H1 Q I1 q1
end
def aM (K:PySem.W.Frag)(H:Hp)(a:Addr)(xs:List V):Prop:=
 Rd H a (.lst xs)∨
  ∃(o:Obj) (its:Array Value) (n:Nat),K.lookup a=some o/\o.cls= .type "list"/\o.dict=none/\o.data= .seq its n/\its.size<=sizeLine/\Vals xs its.toList
def cW (K:PySem.W.Frag)(H:Hp)(a:Addr)(xs:List V):Prop:=
 Rd H a (.tup xs)∨
  ∃(o:Obj) (its:Array Value) (n:Nat),K.lookup a=some o/\o.cls= .type "tuple"/\o.data= .seq its n/\its.size<=sizeLine/\Vals xs its.toList
def FQ:Value->Option V
 | .none=>some .non
 | .bool b=>some (.bl b)
 | .int i _=>some (.int i)
 | .str x _=>some (.str x)
 | .bytes b _=>some (.byt b)
 | .float b _=>some (.flt b)
 | .ref a=>some (.ref a)
 | .type n=>some (.ty n)
 | _=>none
theorem RelV.abs {x:V}{u:Value}(r:RelV x u):FQ u=some x:=by
 cases x with
 | non=>cases r;rfl
 | bl _=>cases r;rfl
 | int _=>obtain ⟨t,rfl⟩:=r;rfl
 | str _=>obtain ⟨t,rfl⟩:=r;rfl
 | byt _=>obtain ⟨t,rfl⟩:=r;rfl
 | flt _=>obtain ⟨t,rfl⟩:=r;rfl
 | ref _=>cases r;rfl
 | ty _=>cases r;rfl
theorem RelV.inj {x y:V}{u:Value}(r:RelV x u)(q:RelV y u):x=y:=Option.some.inj (r.abs.symm.trans q.abs)
theorem Vals.inj:∀{xs ys:List V} {us:List Value},Vals xs us->Vals ys us->xs=ys
 | _,_,_,.nil,.nil=>rfl
 | _,_,_,.cons r t,.cons r' t'=>by rw [r.inj r',Vals.inj t t']
section
variable {X:Cx}{pins:List (Addr×Obj)}{σ:St}{H:Hp}{s:Shared}{a:Addr}{xs ys:List V}
theorem aM.of {K:PySem.W.Frag}(h:H a=some (.lst xs)):aM K H a xs:=.inl (.inl h)
theorem cW.of {K:PySem.W.Frag}(h:H a=some (.tup xs)):cW K H a xs:=.inl (.inl h)
theorem Inv.list (I:Inv X pins σ H s)(h:aM X.K H a xs):∃its:List Value,Vals xs its/\PlainL s.heap a its.toArray/\xs.length<=sizeLine:=by
 rcases h with h | ⟨o,its,n,hk,hc,hd,hs,hz,r⟩
 ·obtain ⟨z,its,n,r,e⟩:=h.ok I.hok
  exact ⟨its,r,⟨_,n,e,rfl,rfl,rfl⟩,z⟩
 ·refine ⟨its.toList,r,⟨o,n,I.g7 a o hk,hc,hd,by simpa using hs⟩,?_⟩
  have e:=r.length
  simp only [Array.length_toList] at e
  omega
theorem Inv.tuple (I:Inv X pins σ H s)(h:cW X.K H a xs):∃its:List Value,Vals xs its/\IsTup s.heap a its.toArray/\xs.length<=sizeLine:=by
 rcases h with h | ⟨o,its,n,hk,hc,hs,hz,r⟩
 ·obtain ⟨z,its,r,p⟩:=h.ok I.hok
  exact ⟨its,r,p,z⟩
 ·refine ⟨its.toList,r,⟨o,I.g7 a o hk,hc,n,by simpa using hs⟩,?_⟩
  have e:=r.length
  simp only [Array.length_toList] at e
  omega
theorem Inv.fq (I:Inv X pins σ H s)(h:aM X.K H a xs)(h':aM X.K H a ys):xs=ys:=by
 obtain ⟨its,r,⟨o,n,e,_,_,d⟩,_⟩:=I.list h
 obtain ⟨its',r',⟨o',n',e',_,_,d'⟩,_⟩:=I.list h'
 rw [e] at e';cases e'
 rw [d] at d'
 injection d' with d1 _
 have:its=its':=by simpa using congrArg Array.toList d1
 subst this
 exact r.inj r'
theorem Inv.mD (I:Inv X pins σ H s)(h:cW X.K H a xs)(h':cW X.K H a ys):xs=ys:=by
 obtain ⟨its,r,⟨o,e,_,n,d⟩,_⟩:=I.tuple h
 obtain ⟨its',r',⟨o',e',_,n',d'⟩,_⟩:=I.tuple h'
 rw [e] at e';cases e'
 rw [d] at d'
 injection d' with d1 _
 have:its=its':=by simpa using congrArg Array.toList d1
 subst this
 exact r.inj r'
end
abbrev Cx.ic (X:Cx)(E:Value->Shared->Prop):Cx:={X with xe:=E}
abbrev Cx.jf (X:Cx):Cx:=X.ic λ_ _=>False
theorem Cx.Ok.ic {X:Cx}(ok:X.Ok)(E:Value->Shared->Prop):(X.ic E).Ok:=
 ⟨ok.mod,ok.kind,ok.glob,ok.blt,ok.above,ok.inj,ok.has,ok.cab,ok.hd,ok.frames,ok.stk,ok.exf,ok.bs,ok.bsz,ok.noex,ok.exfs,ok.funs,ok.frf⟩
theorem Cx.Ok.fQ {X:Cx}{E:Value->Shared->Prop}(ok:(X.ic E).Ok):X.Ok:=
 ⟨ok.mod,ok.kind,ok.glob,ok.blt,ok.above,ok.inj,ok.has,ok.cab,ok.hd,ok.frames,ok.stk,ok.exf,ok.bs,ok.bsz,ok.noex,ok.exfs,ok.funs,ok.frf⟩
section
variable {X:Cx}{pins:List (Addr×Obj)}{σ:St}{H:Hp}{s:Shared}{E:Value->Shared->Prop}
theorem Inv.ic (I:Inv X pins σ H s)(E:Value->Shared->Prop):Inv (X.ic E) pins σ H s:=⟨I.ok.ic E,I.os,I.bare,I.base,I.loc,I.cell,I.free,I.freeC,I.pin,I.hok,I.len⟩
theorem Inv.fQ (I:Inv (X.ic E) pins σ H s):Inv X pins σ H s:=⟨I.ok.fQ,I.os,I.bare,I.base,I.loc,I.cell,I.free,I.freeC,I.pin,I.hok,I.len⟩
theorem SP.fQ {D:Ends}{f:Flow}{s':Shared}(h:SP (X.ic E) pins D f s'):SP X pins D f s':=by
 cases f with
 | next=>obtain ⟨σ',H',I,q⟩:=h;exact ⟨σ',H',I.fQ,q⟩
 | brk=>obtain ⟨σ',H',I,q⟩:=h;exact ⟨σ',H',I.fQ,q⟩
 | cont=>obtain ⟨σ',H',I,q⟩:=h;exact ⟨σ',H',I.fQ,q⟩
 | ret u=>obtain ⟨v,σ',H',I,r,q⟩:=h;exact ⟨v,σ',H',I.fQ,r,q⟩
theorem gF.jf {st:List Stmt}{t:TS}(h:gF X.jf st t):gF X st t:=λpins s σ H D I hw=>
 wpAny_mono (h pins s σ H D (I.ic _) hw) (λ_ _ q=>q.fQ) λ_ _ z=>False.elim z
end
section
variable {X:Cx}{st:Stmt}{rest:List Stmt}{t u:TS}{e:Expr}{te:TE}{pos:Pos}
def Dm:TS:=λD σ H=>D.nx σ H
def FE (t u:TS):TS:=λD σ H=>t {D with nx:=u D} σ H
theorem yG:gF X [] Dm:=λ_ _ σ H _ I h=>wpAny_execs_nil ⟨σ,H,I,h⟩
theorem wD (h1:PS X st t)(h2:gF X rest u):gF X (st::rest) (FE t u):=by
 intro pins s σ H D I h
 refine wpAny_execs_cons (aF (h1 pins s σ H {D with nx:=u D} I h) λf s1 q=>?_)
 cases f with
 | next=>
   obtain ⟨σ',H',I',q⟩:=q
   exact h2 pins s1 σ' H' D I' q
 | ret v=>exact q
 | brk=>exact q
 | cont=>exact q
theorem x8 (h1:PS X st t):gF X [st] t:=by
 intro pins s σ H D I h
 refine wpAny_execs_cons (aF (h1 pins s σ H D I h) λf s1 q=>?_)
 cases f with
 | next=>exact wpAny_execs_nil q
 | ret v=>exact q
 | brk=>exact q
 | cont=>exact q
theorem Inv.quiet {pins:List (Addr×Obj)}{σ:St}{H:Hp}{s:Shared}(I:Inv X pins σ H s):interactive X.env=false:=by simp [interactive,I.ok.kind]
def Cv (te:TE):TS:=λD σ H=>te σ H λ_ H1=>D.nx σ H1
theorem gx (he:PE X e te)(hs:swapsWith e none pos.line X.env=pure false:=by rfl):PS X (.Expr e pos) (Cv te):=by
 intro pins s σ H D I h
 exact wpAny_Expr_any (aF (he pins s σ H _ I h) λv s1 ⟨x,H1,I1,r1,q1⟩=>⟨σ,H1,I1,q1⟩) I.quiet hs
def Ff (te:TE):TS:=λD σ H=>te σ H D.rt
theorem jM (he:PE X e te):PS X (.Return (some e) pos) (Ff te):=by
 intro pins s σ H D I h
 exact wpAny_Return_some (aF (he pins s σ H _ I h) λv s1 ⟨x,H1,I1,r1,q1⟩=>⟨x,σ,H1,I1,r1,q1⟩)
def Fv (c:TT)(t u:TS):TS:=λD σ H=>c σ H λb H1=>if b=true then t D σ H1 else u D σ H1
theorem Ec {c:Expr}{a b:List Stmt}{tc:TT}(hc:PT X c tc)(ha:gF X a t)(hb:gF X b u):PS X (.If c a b pos) (Fv tc t u):=by
 intro pins s σ H D I h
 refine wpAny_If (aF (hc pins s σ H _ I h) λd s1 ⟨H1,I1,q1⟩=>?_)
 cases d with
 | true=>exact ha pins s1 σ H1 D I1 q1
 | false=>exact hb pins s1 σ H1 D I1 q1
end
abbrev TG:=V->St->Hp->(St->Hp->Prop)->Prop
abbrev oY:=List V->St->Hp->(St->Hp->Prop)->Prop
def PG (X:Cx)(target:Expr)(t:TG):Prop:=
 ∀(pins:List (Addr×Obj)) (s:Shared) (σ:St) (H:Hp) (v:V) (u:Value) (Q:St->Hp->Prop),Inv X pins σ H s->RelV v u->t v σ H Q->
  wpAny (model X.prog X.w) X.A (assign target X.env u) (λ_ s'=>∃σ' H',Inv X pins σ' H' s'/\Q σ' H') X.xe s
def w8 (X:Cx)(ts:List Expr)(t:oY):Prop:=
 ∀(pins:List (Addr×Obj)) (s:Shared) (σ:St) (H:Hp) (vs:List V) (us:List Value) (Q:St->Hp->Prop),Inv X pins σ H s->Vals vs us->t vs σ H Q->
  wpAny (model X.prog X.w) X.A (assignInOrder ((assignEach ts X.env).map (·.2)) us) (λ_ s'=>∃σ' H',Inv X pins σ' H' s'/\Q σ' H') X.xe s
abbrev vo:=V->V->V->Hp->(Hp->Prop)->Prop
def BQ (X:Cx)(t:vo):Prop:=
 ∀(pins:List (Addr×Obj)) (s:Shared) (σ:St) (H:Hp) (o i v:V) (ov iv u:Value) (Q:Hp->Prop),Inv X pins σ H s->RelV o ov->RelV i iv->RelV v u->t o i v H Q->
  wpAny (model X.prog X.w) X.A (setItem ov iv u) (λ_ s'=>∃H',Inv X pins σ H' s'/\Q H') X.xe s
abbrev xR:=V->V->Hp->VK->Prop
def EJ (X:Cx)(op:Operator)(t:xR):Prop:=
 ∀(pins:List (Addr×Obj)) (s:Shared) (σ:St) (H:Hp) (x y:V) (v u:Value) (Q:VK),Inv X pins σ H s->RelV x v->RelV y u->t x y H Q->
  wpAny (model X.prog X.w) X.A (inplaceOp op v u) (EP X pins σ Q) X.xe s
section
variable {X:Cx}{pos:Pos}
variable {e:Expr}{i:Nat}{x:Str}{te:TE}
def r6 (i:Nat):TG:=λv σ H Q=>Q (σ.set i (some v)) H
theorem iz (hN:X.N.Nodup)(hi:X.N[i]?=some x)(hx:Loc X.env.scope x)(hf:X.fn x=true∨X.env.scope.names.lookup x=some .local:=by first | exact .inl rfl | exact .inr rfl | assumption):PG X (.Name x pos) (r6 i):=by
 intro pins s σ H v u Q I r h
 exact wpAny_assign_Name (kC I hN hi hx r (λs' I'=>⟨_,H,I',h⟩) hf)
def FC:oY:=λvs σ H Q=>vs=[]/\Q σ H
def Dp (t:TG)(u:oY):oY:=λvs σ H Q=>∃v r,vs=v::r/\t v σ H λσ' H'=>u r σ' H' Q
theorem qf:w8 X [] FC:=by
 intro pins s σ H vs us Q I r h
 obtain ⟨e,h⟩:=h
 subst e
 cases r
 exact assignInOrder_nil ⟨σ,H,I,h⟩
theorem ja {es:List Expr}{t:TG}{u:oY}(h1:PG X e t)(h2:w8 X es u)
 (hs:(assignEach (e::es) X.env).map (·.2)=assign e X.env::(assignEach es X.env).map (·.2):=by rfl):w8 X (e::es) (Dp t u):=by
 intro pins s σ H vs us Q I r h
 obtain ⟨v,vr,e1,h⟩:=h
 subst e1
 cases r with
 | cons r rr=>
   rw [hs]
   refine assignInOrder_cons (aF (h1 pins s σ H _ _ _ I r h) λ_ s1 ⟨σ1,H1,I1,q1⟩=>?_)
   exact h2 pins s1 σ1 H1 _ _ Q I1 rr q1
def Fl (K:PySem.W.Frag)(n:Nat)(t:oY):TG:=λv σ H Q=>∃a xs,v= .ref a/\cW K H a xs/\xs.length=n/\t xs σ H Q
theorem tf {es:List Expr}{k:Nat}{t:oY}{n:Nat}(hc:X.calm=true)(h:w8 X es t)
 (hn:(assignEach es X.env).length=n:=by rfl) (hst:(assignEach es X.env).findIdx? (·.1)=none:=by rfl):PG X (.Tuple es k pos) (Fl X.K n t):=by
 intro pins s σ H v u Q I r hw
 obtain ⟨a,xs,e1,hq,hl,hw⟩:=hw
 subst e1
 cases r
 obtain ⟨its,rv,ht,hz⟩:=I.tuple hq
 refine assign_Tuple_tuple (I.ok.hd hc) ht (by simp [hn,← hl,rv.length]) hst λh' hx=>?_
 have I1:Inv X pins σ H {s with heap:=h'}:=I.kept (t':=s.toks) λb o e=>hx b o (Nat.ne_of_lt (Heap.lt_size e)) e
 exact h pins _ σ H xs _ Q I1 (by simpa using rv) hw
def FL (to ti:TE)(t:vo):TG:=λv σ H Q=>to σ H λo H1=>ti σ H1 λi H2=>t o i v H2 λH3=>Q σ H3
theorem tR {o i:Expr}{to ti:TE}{t:vo}(ho:PE X o to)(hi:PE X i ti)(hs:BQ X t)
 (ha:∀v,assign (.Subscript o i pos) X.env v=(do
  let ov ← holding [v] (eval o X.env)
  let iv ← holding [v,ov] (eval i X.env)
  standAt pos
  holding [v,ov,iv] (setItem ov iv v)
  release [v,ov,iv] []):=by intro _;rfl):PG X (.Subscript o i pos) (FL to ti t):=by
 intro pins s σ H v u Q I r h
 rw [ha]
 refine wpAny_bind (wpAny_holding (aF (ho pins s σ H _ I h) λov s1 ⟨x,H1,I1,r1,q1⟩=>?_))
 refine wpAny_bind (wpAny_holding (aF (hi pins s1 σ H1 _ I1 q1) λiv s2 ⟨y,H2,I2,r2,q2⟩=>?_))
 refine wpAny_bind (wpAny_standAt (wpAny_bind (wpAny_holding (aF (hs pins s2 σ H2 x y v ov iv u _ I2 r1 r2 r q2) λ_ s3 ⟨H3,I3,q3⟩=>?_))))
 exact wpAny_release ⟨σ,H3,I3,q3⟩
def wb (te:TE)(g:TG):TS:=λD σ H=>te σ H λx H1=>g x σ H1 D.nx
theorem ot {tg:Expr}{g:TG}(he:PE X e te)(hg:PG X tg g)(hs:swapsWithSole [tg] e pos.line X.env=pure false:=by rfl)(hw:swappedStores [tg] e X.env=pure none:=by rfl)
 (h1:(assignEach [tg] X.env).map (·.2)=[assign tg X.env]:=by rfl):PS X (.Assign [tg] e pos) (wb te g):=by
 intro pins s σ H D I h
 refine wpAny_Assign_stores (aF (he pins s σ H _ I h) λv s1 ⟨x,H1,I1,r1,q1⟩=>?_) hs hw
 rw [h1]
 exact aF (hg pins s1 σ H1 x v _ I1 r1 q1) λ_ s2 q=>q
theorem iL {pos':Pos}(hN:X.N.Nodup)(hi:X.N[i]?=some x)(hx:Loc X.env.scope x)(he:PE X e te)(hs:swapsWith e (some (.Name x pos')) pos.line X.env=pure false:=by rfl)(hf:X.fn x=true∨X.env.scope.names.lookup x=some .local:=by first | exact .inl rfl | exact .inr rfl | assumption):
 PS X (.Assign [.Name x pos'] e pos) (wb te (r6 i)):=by
 intro pins s σ H D I h
 refine wpAny_Assign_Name (aF (he pins s σ H _ I h) λv s1 ⟨y,H1,I1,r1,q1⟩=>?_) hs
 exact kC I1 hN hi hx r1 (λs2 I2=>⟨_,H1,I2,q1⟩) hf
def FU (i:Nat)(te:TE)(ti:xR):TS:=λD σ H=>∃x,σ[i]?=some (some x)/\te σ H λy H1=>ti x y H1 λz H2=>D.nx (σ.set i (some z)) H2
theorem BR {op:Operator}{ti:xR}{pos':Pos}(hN:X.N.Nodup)(hi:X.N[i]?=some x)(hx:Loc X.env.scope x)(he:PE X e te)(ho:EJ X op ti)(hf:X.fn x=true∨X.env.scope.names.lookup x=some .local:=by first | exact .inl rfl | exact .inr rfl | assumption):
 PS X (.AugAssign (.Name x pos') op e pos) (FU i te ti):=by
 intro pins s σ H D I h
 obtain ⟨v,e1,h⟩:=h
 obtain ⟨m,hn,hl⟩:=I.loc
 have vis:cy X.env.scope x:=by rcases hx with k | k;exact .inl k;exact .inr (.inl k)
 obtain ⟨u,r,l⟩:=hl i x v hi e1 vis
 refine wpAny_AugAssign_Name ?_
 have go:wpAny (model X.prog X.w) X.A (eval e X.env) (λw s₂=>wpAny (model X.prog X.w) X.A (inplaceOp op u w) (λr s₃=>wpAny (model X.prog X.w) X.A (storeName X.env x r) (λ_=>SP X pins D .next) X.xe s₃) X.xe s₂) X.xe s:=by
  refine aF (he pins s σ H _ I h) λw s1 ⟨y,H1,I1,r1,q1⟩=>?_
  refine aF (ho pins s1 σ H1 v y u w _ I1 r r1 q1) λz s2 ⟨zv,H2,I2,r2,q2⟩=>?_
  exact kC I2 hN hi hx r2 (λs3 I3=>⟨_,H2,I3,q2⟩) hf
 rcases l with ⟨hk,hm⟩ | ⟨hk,c,hc,hcell⟩
 ·exact wpAny_loadName_local I.ok.kind hk hn hm go
 ·rcases hk with hk | hk
  ·exact wpAny_loadName_cell I.ok.kind hk hc hcell go
  ·rcases hx with k | k
   ·have:X.env.scope.names.lookup x=some .free:=hk
    rw [k] at this;cases this
   ·have:X.env.scope.names.lookup x=some .free:=hk
    rw [k] at this;cases this
def ipI (f:Int->Int->Int):xR:=λx y H Q=>∃i j,x= .int i/\y= .int j/\Q (.int (f i j)) H
theorem zE:EJ X .Add (ipI λi j=>i + j):=by
 intro pins s σ H x y v u Q I r1 r2 h
 obtain ⟨i,j,e1,e2,q⟩:=h
 subst e1;subst e2
 obtain ⟨t,rfl⟩:=r1
 obtain ⟨t',rfl⟩:=r2
 exact iadd_int ⟨.int _,H,I.tok _,⟨_,rfl⟩,q⟩
end
section
variable {X:Cx}{pos:Pos}
def z6 (c:TT)(tb:TS):TS:=λD σ H=>∃W:Nat->St->Hp->Prop,(∃m,W m σ H)/\∀m σ H,W m σ H->
 c σ H λb H1=>if b=true then∃N:St->Hp->Prop,(∀σ' H',N σ' H'->∃m',m' < m/\W m' σ' H')/\tb {D with nx:=N,ct:=N,bk:=D.nx} σ H1 else D.nx σ H1
theorem vC {c:Expr}{body:List Stmt}{tc:TT}{tb:TS}(hp:PassesOwn (model X.prog X.w) X.A X.env X.xe)(hc:PT X c tc)(hb:gF X body tb):PS X (.While c body [] pos) (z6 tc tb):=by
 intro pins s σ H D I h
 obtain ⟨W,⟨m0,w0⟩,turn⟩:=h
 refine wpAny_While (codeAny_whileLoop (λn s'=>∃σ' H',Inv X pins σ' H' s'/\W n σ' H') ?_ m0 ⟨σ,H,I,w0⟩)
 rintro n s1 ⟨σ1,H1,I1,w1⟩
 refine wpAny_passesOwn hp (aF (hc pins s1 σ1 H1 _ I1 (turn n σ1 H1 w1)) λb s2 ⟨H2,I2,q2⟩=>?_)
 cases b with
 | true=>
   obtain ⟨N,hN,q2⟩:=q2
   rw [if_pos rfl]
   refine wpAny_passesOwn hp (aF (hb pins s2 σ1 H2 _ I2 q2) λf s3 q3=>?_)
   cases f with
   | next=>
     obtain ⟨σ3,H3,I3,n3⟩:=q3
     obtain ⟨m',hm,w3⟩:=hN σ3 H3 n3
     exact ⟨m',hm,σ3,H3,I3,w3⟩
   | cont=>
     obtain ⟨σ3,H3,I3,n3⟩:=q3
     obtain ⟨m',hm,w3⟩:=hN σ3 H3 n3
     exact ⟨m',hm,σ3,H3,I3,w3⟩
   | brk=>exact q3
   | ret v=>exact q3
 | false=>
   rw [if_neg Bool.false_ne_true]
   exact wpAny_execs_nil ⟨σ1,H2,I2,q2⟩
end
section
variable {tg:Expr}{P:Program}{w:World}{K:PySem.W.Frag}
structure It where
 go:Nat->Hp->Prop
 yld:Nat->Hp->V->Hp->Prop
 stop:Nat->Hp->Prop
def gR (X:Cx)(pins:List (Addr×Obj))(H:Hp)(b:Addr):Prop:=
 H b=none/\b≠X.env.locals/\b∉X.fs/\(b∈X.ex∨X.s₀.heap.objs.size<=b)/\(∀x c,X.env.cells.lookup x=some c->c≠b)/\∀p∈X.pn++pins,p.1≠b
theorem Inv.eR {X:Cx}{pins:List (Addr×Obj)}{σ:St}{H H':Hp}{s:Shared}{b:Addr}(I:Inv X pins σ H s)(hb:s.heap.objs.size<=b)(hn:H' b=none):gR X pins H' b:=by
 refine ⟨hn,Nat.ne_of_gt (Nat.lt_of_lt_of_le I.lt hb),I.Fs hb,.inr (Nat.le_trans I.sz hb),λx c e z=>?_,λp hp z=>?_⟩
 ·obtain ⟨v,q⟩:=I.cell x c e
  exact absurd (Nat.lt_of_lt_of_le q.lt (by rw [z];exact hb)) (Nat.lt_irrefl _)
 ·exact absurd (Nat.lt_of_lt_of_le (Heap.lt_size (I.pin p hp).1) (by rw [z];exact hb)) (Nat.lt_irrefl _)
structure Turn (P:Program) (w:World) (K:PySem.W.Frag) (tg:Expr) (J:It) (fp:List Addr) (it:Addr) (tn:Nat->Heap->Prop):Prop where
 mem:it∈fp
 obj:∀i h,tn i h->∀b∈fp,∃o,h.get? b=some o/\∀v,o.data≠ .cell v
 keep:∀i h h',tn i h->(∀b∈fp,∀o,h.get? b=some o->h'.get? b=some o)->tn i h'
 item:∀(X:Cx),X.prog=P->X.w=w->X.K=K->X.calm=true->∀(i:Nat) (pins:List (Addr×Obj)) (s:Shared) (σ:St) (H:Hp) (E:Value->Shared->Prop),Inv X pins σ H s->(∀b∈fp,gR X pins H b)->tn i s.heap->J.go i H->
  wpAny (model P w) X.A (pyNext (.ref it)) (λr s1=>∃u,r=some u/\
   wpAny (model P w) X.A (letOwnedTupleGo tg (.ref it) u) (λ_ s2=>∃x H',Inv X pins σ H' s2/\RelV x u/\J.yld i H x H'/\tn (i + 1) s2.heap/\∀b∈fp,H' b=none) E s1) E s
 done:∀(X:Cx),X.prog=P->X.w=w->X.K=K->X.calm=true->∀(i:Nat) (pins:List (Addr×Obj)) (s:Shared) (σ:St) (H:Hp) (E:Value->Shared->Prop),Inv X pins σ H s->(∀b∈fp,gR X pins H b)->tn i s.heap->J.stop i H->
  wpAny (model P w) X.A (pyNext (.ref it)) (λr s1=>r=none/\Inv X pins σ H s1) E s
 self:∀(A:Around) (i:Nat) (s:Shared) (Q:Value->Shared->Prop) (E:Value->Shared->Prop),tn i s.heap->Q (.ref it) s->wpAny (model P w) A (pyIter (.ref it)) Q E s
abbrev TI:=St->Hp->(It->Hp->Prop)->Prop
def BO (X:Cx)(pins:List (Addr×Obj))(σ:St)(tg:Expr)(R:It->Hp->Prop)(itv:Value)(s2:Shared):Prop:=
 ∃(it:Addr) (fp:List Addr) (tn:Nat->Heap->Prop) (J:It) (H':Hp),itv= .ref it/\Inv X pins σ H' s2/\Turn X.prog X.w X.K tg J fp it tn/\tn 0 s2.heap/\(∀b∈fp,gR X pins H' b)/\R J H'
def PI (X:Cx)(tg iter:Expr)(wi:TI):Prop:=
 ∀(pins:List (Addr×Obj)) (s:Shared) (σ:St) (H:Hp) (R:It->Hp->Prop),Inv X pins σ H s->wi σ H R->
  wpAny (model X.prog X.w) X.A (eval iter X.env) (λv s1=>wpAny (model X.prog X.w) X.A (pyIter v) (BO X pins σ tg R) X.xe s1) X.xe s
theorem jT {M:Model}{A:Around}{E:Value->Shared->Prop}{s:Shared}{it:Addr}{u:Value}{o:Obj}{n:String}{vs:Array Value}{Q:Unit->Shared->Prop}(ho:s.heap.get? it=some o)(hc:o.cls= .type n)(hd:o.data= .fields vs)
 (hn:["enumerate","zip","dict_itemiterator","dict_reverseitemiterator","odict_iterator","itertools.zip_longest","itertools.pairwise"].contains n=false) (hQ:Q () s):wpAny M A (letOwnedTupleGo tg (.ref it) u) Q E s:=by
 unfold letOwnedTupleGo
 cases tg<;>first
  | exact wpAny_pure hQ
  | (cases u<;>first
   | exact wpAny_pure hQ
   | (refine wpAny_bind (wpAny_load ho ?_)
      rw [hc,hd]
      show wpAny M A (if (["enumerate","zip","dict_itemiterator","dict_reverseitemiterator","odict_iterator","itertools.zip_longest","itertools.pairwise"].contains n&&vs[0]?==some (rawInt _))=true then _ else _) Q E s
      rw [if_neg (by intro h;rw [hn,Bool.false_and] at h;cases h)]
      exact wpAny_pure hQ))
def Ed (K:PySem.W.Frag)(a:Addr):It:=
 ⟨λi H=>∃xs x,aM K H a xs/\xs[i]?=some x,λi H x H'=>H'=H/\∀xs,aM K H a xs->xs[i]?=some x,λi H=>∃xs,aM K H a xs/\xs.length<=i⟩
def EK (K:PySem.W.Frag)(a:Addr):It:=
 ⟨λi H=>∃xs x,cW K H a xs/\xs[i]?=some x,λi H x H'=>H'=H/\∀xs,cW K H a xs->xs[i]?=some x,λi H=>∃xs,cW K H a xs/\xs.length<=i⟩
def tL (lo:Int)(n:Nat):It:=⟨λi _=>i < n,λi H x H'=>H'=H/\x= .int (lo + i),λi _=>n<=i⟩
theorem sW (a it:Addr):Turn P w K tg (Ed K a) [it] it (λi h=>h.IsListIter it a i) where
 mem:=by simp
 obj:=λi h st b hb=>by
  have e:b=it:=by simpa using hb
  subst e
  obtain ⟨o,e,c,d⟩:=st
  exact ⟨o,e,λv z=>by rw [d] at z;cases z⟩
 keep:=λi h h' st k=>st.at λo e=>k it (by simp) o e
 item:=by
  intro X hP hw hK hc i pins s σ H E I hf st hg
  subst hP hw hK
  obtain ⟨xs,x,hq,hx⟩:=hg
  obtain ⟨its,rv,p,hz⟩:=I.list hq
  obtain ⟨u,hu,ru⟩:=rv.get hx
  obtain ⟨f0,f1,f2,f3,f4,f5⟩:=hf it (by simp)
  refine wpAny_pyNext_list_item st p.isList (x:=u) (by simpa using hu) λh' st' sb=>?_
  have I1:Inv X pins σ H {s with heap:=h'}:=I.turned (t':=s.toks) (λb o hb e=>(sb.2 b hb).trans e) f0 f1 f3 f4 f5
  obtain ⟨o,e,c,d⟩:=id st'
  exact ⟨u,rfl,jT (s:={s with heap:=h'}) e c d (by decide) ⟨x,H,I1,ru,⟨rfl,λys hy=>by rw [I.fq hy hq];exact hx⟩,st',λb hb=>(hf b hb).1⟩⟩
 done:=by
  intro X hP hw hK hc i pins s σ H E I hf st hg
  subst hP hw hK
  obtain ⟨xs,hq,hx⟩:=hg
  obtain ⟨its,rv,p,hz⟩:=I.list hq
  obtain ⟨f0,f1,f2,f3,f4,f5⟩:=hf it (by simp)
  have hl:=rv.length
  exact wpAny_pyNext_list_end (I.ok.hd hc) st p.isList (by simp;omega) λh' eb=>⟨rfl,I.turned (t':=s.toks) (λb o hb e=>eb b o hb e) f0 f1 f3 f4 f5⟩
 self:=λ_ _ _ _ _ st h=>wpAny_pyIter_listiter st h
theorem rV (a it:Addr):Turn P w K tg (EK K a) [it] it (λi h=>h.IsTupleIter it a i) where
 mem:=by simp
 obj:=λi h st b hb=>by
  have e:b=it:=by simpa using hb
  subst e
  obtain ⟨o,e,c,d⟩:=st
  exact ⟨o,e,λv z=>by rw [d] at z;cases z⟩
 keep:=λi h h' st k=>st.at λo e=>k it (by simp) o e
 item:=by
  intro X hP hw hK hc i pins s σ H E I hf st hg
  subst hP hw hK
  obtain ⟨xs,x,hq,hx⟩:=hg
  obtain ⟨its,rv,p,hz⟩:=I.tuple hq
  obtain ⟨u,hu,ru⟩:=rv.get hx
  obtain ⟨f0,f1,f2,f3,f4,f5⟩:=hf it (by simp)
  refine wpAny_pyNext_tuple_item st (show s.heap.IsTuple a its.toArray from p) (x:=u) (by simpa using hu) λh' st' sb=>?_
  have I1:Inv X pins σ H {s with heap:=h'}:=I.turned (t':=s.toks) (λb o hb e=>(sb.2 b hb).trans e) f0 f1 f3 f4 f5
  obtain ⟨o,e,c,d⟩:=id st'
  exact ⟨u,rfl,jT (s:={s with heap:=h'}) e c d (by decide) ⟨x,H,I1,ru,⟨rfl,λys hy=>by rw [I.mD hy hq];exact hx⟩,st',λb hb=>(hf b hb).1⟩⟩
 done:=by
  intro X hP hw hK hc i pins s σ H E I hf st hg
  subst hP hw hK
  obtain ⟨xs,hq,hx⟩:=hg
  obtain ⟨its,rv,p,hz⟩:=I.tuple hq
  obtain ⟨f0,f1,f2,f3,f4,f5⟩:=hf it (by simp)
  have hl:=rv.length
  exact wpAny_pyNext_tuple_end (I.ok.hd hc) st (show s.heap.IsTuple a its.toArray from p) (by simp;omega) λh' eb=>⟨rfl,I.turned (t':=s.toks) (λb o hb e=>eb b o hb e) f0 f1 f3 f4 f5⟩
 self:=λ_ _ _ _ _ st h=>wpAny_pyIter_tupleiter st h
theorem rR (it:Addr)(lo:Int)(n:Nat):Turn P w K tg (tL lo n) [it] it (λi h=>IsRangeIter h it (lo + (i:Nat) * 1) ((n:Int) - (i:Nat)) 1) where
 mem:=by simp
 obj:=λi h st b hb=>by
  have e:b=it:=by simpa using hb
  subst e
  exact ⟨_,st,λv z=>by
   have z':Data.fields _=Data.cell v:=z
   cases z'⟩
 keep:=λi h h' st k=>k it (by simp) _ st
 item:=by
  intro X hP hw hK hc i pins s σ H E I hf st hg
  subst hP hw hK
  obtain ⟨f0,f1,f2,f3,f4,f5⟩:=hf it (by simp)
  have W:=Walks.range (prog:=X.prog) (w:=X.w) (I.ok.hd hc) it lo 1 n
  refine W.item i s _ _ hg st λv h' tk hv st' kk=>?_
  obtain ⟨t,rfl⟩:=hv
  have I1:Inv X pins σ H {s with heap:=h',toks:=tk}:=I.turned (λb o hb e=>kk b o (by simpa using hb) e) f0 f1 f3 f4 f5
  refine ⟨_,rfl,jT (s:={s with heap:=h',toks:=tk}) (n:="range_iterator") st' rfl rfl (by decide) ⟨.int (lo + i),H,I1,⟨t,?_⟩,⟨rfl,rfl⟩,st',λb hb=>(hf b hb).1⟩⟩
  rw [Int.mul_one]
 done:=by
  intro X hP hw hK hc i pins s σ H E I hf st hg
  subst hP hw hK
  obtain ⟨f0,f1,f2,f3,f4,f5⟩:=hf it (by simp)
  exact wpAny_pyNext_range_end (I.ok.hd hc) st (by have:n<=i:=hg;omega) λh' eb=>⟨rfl,I.turned (t':=s.toks) (λb o hb e=>eb b o hb e) f0 f1 f3 f4 f5⟩
 self:=λ_ _ _ _ _ st h=>wpAny_pyIter_rangeiter st h
end
section
variable {X:Cx}{tg:Expr}
variable {pins:List (Addr×Obj)}{σ:St}{H:Hp}{s:Shared}{pos:Pos}
def CQ (K:PySem.W.Frag)(tl:TE):TI:=λσ H R=>tl σ H λx H1=>∃a,x= .ref a/\(∃xs,aM K H1 a xs)/\R (Ed K a) H1
def Fn (K:PySem.W.Frag)(tl:TE):TI:=λσ H R=>tl σ H λx H1=>∃a,x= .ref a/\(∃xs,cW K H1 a xs)/\R (EK K a) H1
theorem yM {l:Expr}{tl:TE}(hl:PE X l tl):PI X tg l (CQ X.K tl):=by
 intro pins s σ H R I h
 refine aF (hl pins s σ H _ I h) λv s1 ⟨x,H1,I1,r1,q1⟩=>?_
 obtain ⟨a,e,⟨xs,hq⟩,q⟩:=q1
 subst e
 cases r1
 obtain ⟨its,rv,p,hz⟩:=I1.list hq
 refine wpAny_pyIter_list p.isList ?_
 refine ⟨s1.heap.objs.size,[s1.heap.objs.size],_,_,H1,rfl,I1.kept (t':=s1.toks) λb o e=>Heap.get?_push_of_some _ e,sW a _,⟨_,Heap.get?_push_size _ rfl,rfl,rfl⟩,λb hb=>?_,q⟩
 have e:b=s1.heap.objs.size:=by simpa using hb
 subst e
 exact I1.eR (Nat.le_refl _) (I1.hok.fresh (Nat.le_refl _))
theorem B0 {l:Expr}{tl:TE}(hl:PE X l tl):PI X tg l (Fn X.K tl):=by
 intro pins s σ H R I h
 refine aF (hl pins s σ H _ I h) λv s1 ⟨x,H1,I1,r1,q1⟩=>?_
 obtain ⟨a,e,⟨xs,hq⟩,q⟩:=q1
 subst e
 cases r1
 obtain ⟨its,rv,p,hz⟩:=I1.tuple hq
 refine wpAny_pyIter_tuple (show s1.heap.IsTuple a its.toArray from p) ?_
 refine ⟨s1.heap.objs.size,[s1.heap.objs.size],_,_,H1,rfl,I1.kept (t':=s1.toks) λb o e=>Heap.get?_push_of_some _ e,rV a _,⟨_,Heap.get?_push_size _ rfl,rfl,rfl⟩,λb hb=>?_,q⟩
 have e:b=s1.heap.objs.size:=by simpa using hb
 subst e
 exact I1.eR (Nat.le_refl _) (I1.hok.fresh (Nat.le_refl _))
theorem pG {R:It->Hp->Prop}{E:Value->Shared->Prop}{lo hi:Int}{t u v:Tok}{tk:Nat}(I:Inv X pins σ H s)(h1: -(2 ^ 62)<=lo)(h2:lo < 2 ^ 62)(h3: -(2 ^ 62)<=hi)(h4:hi < 2 ^ 62)
 (q:R (tL lo (hi - lo).toNat) H):wpAny (model X.prog X.w) X.A (pyIter (.ref s.heap.objs.size)) (BO X pins σ tg R) E {s with heap:=s.heap.push {cls:=.type "range",data:=.fields #[.int lo t,.int hi u,.int 1 v]},toks:=tk}:=by
 refine wpAny_pyIter_range (IsRange.new ..) (small_one h1 h2 h3 h4) ?_
 have I1:Inv X pins σ H {s with heap:=s.heap.push {cls:=.type "range",data:=.fields #[.int lo t,.int hi u,.int 1 v]},toks:=tk}:=I.kept λb o e=>Heap.get?_push_of_some _ e
 refine ⟨(s.heap.push {cls:=.type "range",data:=.fields #[.int lo t,.int hi u,.int 1 v]}).objs.size,[(s.heap.push {cls:=.type "range",data:=.fields #[.int lo t,.int hi u,.int 1 v]}).objs.size],_,_,H,rfl,
  I1.kept (t':=tk) λb o e=>Heap.get?_push_of_some _ e,rR _ lo (hi - lo).toNat,?_,λb hb=>?_,q⟩
 ·have e1:lo + ((0:Nat):Int) * 1=lo:=by simp
  have e2:(((hi - lo).toNat:Nat):Int) - ((0:Nat):Int)=Builtin.Range.rangeSize lo hi 1:=by rw [rangeSize_one];split<;>omega
  show IsRangeIter _ _ (lo + ((0:Nat):Int) * 1) ((((hi - lo).toNat:Nat):Int) - ((0:Nat):Int)) 1
  rw [e1,e2]
  exact Heap.get?_push_size _ rfl
 ·have e:b=(s.heap.push {cls:=.type "range",data:=.fields #[.int lo t,.int hi u,.int 1 v]}).objs.size:=by simpa using hb
  subst e
  exact I1.eR (Nat.le_refl _) (I1.hok.fresh (Nat.le_refl _))
def Ct (ta:TA):TI:=λσ H R=>ta σ H λvs H1=>∃j:Int,vs=[.int j]/\ -(2 ^ 62)<=j/\j < 2 ^ 62/\R (tL 0 j.toNat) H1
def DY (ta:TA):TI:=λσ H R=>ta σ H λvs H1=>∃i j:Int,vs=[.int i,.int j]/\(-(2 ^ 62)<=i/\i < 2 ^ 62/\ -(2 ^ 62)<=j/\j < 2 ^ 62)/\R (tL i (j - i).toNat) H1
theorem vc {a:Expr}{ta:TA}{p:Pos}(hg:Gl X "range")(hm:X.mg "range"=none)(ha:PA X [a] ta)(hs:starEach [a] X.env=[(false,eval a X.env)]:=by rfl):PI X tg (.Call (.Name "range" p) [a] [] pos) (Ct ta):=by
 intro pins s σ H R I h
 refine Call_ (eW I hg hm boot_range (PyProof.Rows.callWith_type1 (aF (ha pos pins s σ H _ I h) λus s1 ⟨vs,H1,I1,r1,q1⟩=>?_) hs rfl))
 obtain ⟨j,e,q1,q2,q⟩:=q1
 subst e
 cases r1 with
 | cons r rr=>
   cases rr
   obtain ⟨t,rfl⟩:=r
   exact call_range_1 (pG I1 (by omega) (by omega) q1 q2 (by simpa using q))
theorem uz {a b:Expr}{ta:TA}{p:Pos}(hg:Gl X "range")(hm:X.mg "range"=none)(ha:PA X [a,b] ta)(hs:starEach [a,b] X.env=[(false,eval a X.env),(false,eval b X.env)]:=by rfl)(hs2:starEach [b] X.env=[(false,eval b X.env)]:=by rfl):
 PI X tg (.Call (.Name "range" p) [a,b] [] pos) (DY ta):=by
 intro pins s σ H R I h
 refine Call_ (eW I hg hm boot_range (PyProof.Rows.callWith_type1 (aF (ha pos pins s σ H _ I h) λus s1 ⟨vs,H1,I1,r1,q1⟩=>?_) (by rw [hs,hs2]) (by rw [hs2];rfl)))
 obtain ⟨i,j,e,⟨q1,q2,q3,q4⟩,q⟩:=q1
 subst e
 cases r1 with
 | cons r rr=>
   cases rr with
   | cons r' rr=>
     cases rr
     obtain ⟨t,rfl⟩:=r
     obtain ⟨t',rfl⟩:=r'
     exact call_range_2 (pG I1 q1 q2 q3 q4 q)
def F3 (wi:TI)(g:TG)(tb:TS):TS:=λD σ H=>wi σ H λJ H1=>∃W:Nat->Nat->St->Hp->Prop,(∃m,W 0 m σ H1)/\∀i m σ H,W i m σ H->
 (J.stop i H/\D.nx σ H)∨(J.go i H/\∃N:St->Hp->Prop,(∀σ' H',N σ' H'->∃m',m' < m/\W (i + 1) m' σ' H')/\∀x H',J.yld i H x H'->g x σ H' λσ2 H2=>tb {D with nx:=N,ct:=N,bk:=D.nx} σ2 H2)
def iE (fp:List Addr)(h:Heap):List (Addr×Obj):=fp.filterMap λb=>(h.get? b).map λo=>(b,o)
theorem gp {fp:List Addr}{h:Heap}{b:Addr}{o:Obj}(hb:b∈fp)(e:h.get? b=some o):(b,o)∈iE fp h:=List.mem_filterMap.mpr ⟨b,hb,by rw [e];rfl⟩
theorem uW {fp:List Addr}{h:Heap}{p:Addr×Obj}(hp:p∈iE fp h):p.1∈fp/\h.get? p.1=some p.2:=by
 obtain ⟨b,hb,e⟩:=List.mem_filterMap.mp hp
 cases q:h.get? b with
 | none=>rw [q] at e;cases e
 | some o=>
   rw [q] at e
   have e':(b,o)=p:=Option.some.inj e
   subst e'
   exact ⟨hb,q⟩
theorem Inv.pinned {fp:List Addr}(I:Inv X pins σ H s)(hf:∀b∈fp,gR X pins H b)(ho:∀b∈fp,∃o,s.heap.get? b=some o/\∀v,o.data≠ .cell v):Inv X (pins++iE fp s.heap) σ H s:=
 I.gy λp hp=>(List.mem_append.mp hp).elim (λz=>I.pin p (List.mem_append_right _ z)) λz=>by
   obtain ⟨hb,e⟩:=uW z
   obtain ⟨f0,f1,f2,_⟩:=hf p.1 hb
   obtain ⟨o,e',d⟩:=ho p.1 hb
   rw [e] at e';cases e'
   exact ⟨e,f0,f1,f2,d⟩
theorem Inv.kF {pl:List (Addr×Obj)}(I:Inv X (pins++pl) σ H s):Inv X pins σ H s:=I.gy λp hp=>I.pin p (List.mem_append_right _ (List.mem_append_left _ hp))
theorem A9 {iter:Expr}{body:List Stmt}{wi:TI}{g:TG}{tb:TS}(hp:PassesOwn (model X.prog X.w) X.A X.env X.xe)(hc:X.calm=true)(hi:PI X tg iter wi)(hg:PG X tg g)(hb:gF X body tb)
 (hs:∀x,foldedSetIterable iter X.env x=pure x:=by intro _;rfl):PS X (.For tg iter body [] pos) (F3 wi g tb):=by
 intro pins s σ H D I h
 refine wpAny_For (aF (hi pins s σ H _ I h) λv s1 h1=>aF h1 λitv s2 h2=>?_) hs
 obtain ⟨it,fp,tn,J,H2,e,I2,T,st2,f2,W,⟨m0,w0⟩,turn⟩:=h2
 subst e
 -- what stays true of the iterator's objects through the loop
 have stat:∀{H':Hp},(∀b∈fp,H' b=none)->∀b∈fp,gR X pins H' b:=λhn b hb=>⟨hn b hb,(f2 b hb).2⟩
 refine codeAny_forLoop_any (λn s'=>∃i σ' H',Inv X pins σ' H' s'/\tn i s'.heap/\(∀b∈fp,H' b=none)/\W i n σ' H') ?_ m0 ⟨0,σ,H2,I2,st2,λb hb=>(f2 b hb).1,w0⟩
 rintro n s3 ⟨i,σ3,H3,I3,st3,fr3,w3⟩
 rcases turn i n σ3 H3 w3 with ⟨stop,qn⟩ | ⟨go,N,hN,step⟩
 ·refine wpAny_passesOwn hp (aF (T.done X rfl rfl rfl hc i pins s3 σ3 H3 X.xe I3 (stat fr3) st3 stop) λr s4 ⟨hr,I4⟩=>?_)
  subst hr
  exact wpAny_execs_nil ⟨σ3,H3,I4,qn⟩
 ·refine wpAny_passesOwn hp (aF (T.item X rfl rfl rfl hc i pins s3 σ3 H3 X.xe I3 (stat fr3) st3 go) λr s4 ⟨u,hr,h4⟩=>?_)
  subst hr
  refine wpAny_passesOwn hp (aF h4 λ_ s5 ⟨x,H5,I5,r5,y5,st5,fr5⟩=>?_)
  have I5':=I5.pinned (stat fr5) (T.obj _ _ st5)
  refine wpAny_passesOwn hp (aF (hg _ s5 σ3 H5 x u _ I5' r5 (step x H5 y5)) λ_ s6 ⟨σ6,H6,I6,q6⟩=>?_)
  refine wpAny_passesOwn hp (aF (hb _ s6 σ6 H6 _ I6 q6) λf s7 q7=>?_)
  have again:∀{σ7:St} {H7:Hp},Inv X (pins++iE fp s5.heap) σ7 H7 s7->N σ7 H7->∃m,m < n/\∃i σ' H',Inv X pins σ' H' s7/\tn i s7.heap/\(∀b∈fp,H' b=none)/\W i m σ' H':=λ{σ7 H7} I7 n7=>by
   obtain ⟨m',hm,w7⟩:=hN σ7 H7 n7
   refine ⟨m',hm,i + 1,σ7,H7,I7.kF,T.keep _ _ _ st5 λb hb o e=>(I7.pin (b,o) (List.mem_append_right _ (List.mem_append_right _ (gp hb e)))).1,λb hb=>?_,w7⟩
   obtain ⟨o,e,d⟩:=T.obj _ _ st5 b hb
   exact (I7.pin (b,o) (List.mem_append_right _ (List.mem_append_right _ (gp hb e)))).2.1
  cases f with
  | next=>obtain ⟨σ7,H7,I7,n7⟩:=q7;exact again I7 n7
  | cont=>obtain ⟨σ7,H7,I7,n7⟩:=q7;exact again I7 n7
  | brk=>obtain ⟨σ7,H7,I7,q7⟩:=q7;exact ⟨σ7,H7,I7.kF,q7⟩
  | ret v=>obtain ⟨x7,σ7,H7,I7,r7,q7⟩:=q7;exact ⟨x7,σ7,H7,I7.kF,r7,q7⟩
end
abbrev R2:=V->V->Hp->VK->Prop
def cS (X:Cx)(f:Value->Value->Sem Value)(r:R2):Prop:=
 ∀(pins:List (Addr×Obj)) (s:Shared) (σ:St) (H:Hp) (x y:V) (v u:Value) (Q:VK),Inv X pins σ H s->RelV x v->RelV y u->r x y H Q->
  wpAny (model X.prog X.w) X.A (f v u) (EP X pins σ Q) X.xe s
def BY (X:Cx)(f:Value->Sem Value)(r:V->Hp->VK->Prop):Prop:=
 ∀(pins:List (Addr×Obj)) (s:Shared) (σ:St) (H:Hp) (x:V) (v:Value) (Q:VK),Inv X pins σ H s->RelV x v->r x H Q->
  wpAny (model X.prog X.w) X.A (f v) (EP X pins σ Q) X.xe s
def dX (X:Cx)(f:Value)(r:List V->Hp->VK->Prop):Prop:=
 ∀(pins:List (Addr×Obj)) (s:Shared) (σ:St) (H:Hp) (xs:List V) (us:List Value) (Q:VK),Inv X pins σ H s->Vals xs us->r xs H Q->
  wpAny (model X.prog X.w) X.A (call f us) (EP X pins σ Q) X.xe s
def F7 (X:Cx)(r:V->Hp->(Bool->Hp->Prop)->Prop):Prop:=
 ∀(pins:List (Addr×Obj)) (s:Shared) (σ:St) (H:Hp) (x:V) (v:Value) (Q:Bool->Hp->Prop),Inv X pins σ H s->RelV x v->r x H Q->
  wpAny (model X.prog X.w) X.A (truthy v) (TP X pins σ Q) X.xe s
def wW (r:R2)(ta tb:TE):TE:=λσ H Q=>ta σ H λx H1=>tb σ H1 λy H2=>r x y H2 Q
def tUn (r:V->Hp->VK->Prop)(ta:TE):TE:=λσ H Q=>ta σ H λx H1=>r x H1 Q
def rI (C:Int->Int->Prop)(g:Int->Int->V):R2:=λx y H Q=>∃i j,x= .int i/\y= .int j/\C i j/\Q (g i j) H
def mV (g:Int->Int->V):R2:=λx y H Q=>∃i j,x= .int i/\y= .int j/\Q (g i j) H
def rU (g:Int->V):V->Hp->VK->Prop:=λx H Q=>∃i,x= .int i/\Q (g i) H
section
variable {X:Cx}{a b c:Expr}{ta tb tc:TE}{pos:Pos}
variable {f:Value->Value->Sem Value}
theorem vg (ha:PE X a ta)(hb:PE X b tb){pins:List (Addr×Obj)}{s:Shared}{σ:St}{H:Hp}{R:V->V->Hp->Prop}(I:Inv X pins σ H s)
 (h:ta σ H λx H1=>tb σ H1 λy H2=>R x y H2) {Q:Value->Shared->Prop}
 (hf:∀v u s2 x y H2,Inv X pins σ H2 s2->RelV x v->RelV y u->R x y H2->wpAny (model X.prog X.w) X.A (f v u) Q X.xe s2):
 wpAny (model X.prog X.w) X.A (eval a X.env) (λv s₁=>wpAny (model X.prog X.w) X.A (eval b X.env) (λu s₂=>wpAny (model X.prog X.w) X.A (f v u) Q X.xe s₂) X.xe s₁) X.xe s:=by
 refine aF (ha pins s σ H _ I h) λv s1 ⟨x,H1,I1,r1,q1⟩=>?_
 refine aF (hb pins s1 σ H1 _ I1 q1) λu s2 ⟨y,H2,I2,r2,q2⟩=>?_
 exact hf v u s2 x y H2 I2 r1 r2 q2
theorem xm {op:Operator}{r:R2}(ho:cS X (binaryOp op) r)(ha:PE X a ta)(hb:PE X b tb):PE X (.BinOp a op b pos) (wW r ta tb):=by
 intro pins s σ H Q I h
 exact wpAny_BinOp (vg ha hb I h λv u s2 x y H2 I2 rx ry q=>ho pins s2 σ H2 x y v u Q I2 rx ry q)
theorem C7 {op:UnaryOp}{r:V->Hp->VK->Prop}(ho:BY X (unaryOp op) r)(ha:PE X a ta):PE X (.UnaryOp op a pos) (tUn r ta):=by
 intro pins s σ H Q I h
 exact UnaryOp_ (aF (ha pins s σ H _ I h) λv s1 ⟨x,H1,I1,r1,q1⟩=>ho pins s1 σ H1 x v Q I1 r1 q1)
theorem qu {C:Int->Int->Prop}{g:Int->Int->Int}
 (rule:∀(i j:Int) (t u:Tok) (s:Shared) (Q:Value->Shared->Prop) (E:Value->Shared->Prop),C i j->Q (.int (g i j) s.toks) {s with toks:=s.toks + 1}->wpAny (model X.prog X.w) X.A (f (.int i t) (.int j u)) Q E s):
 cS X f (rI C λi j=>.int (g i j)):=by
 intro pins s σ H x y v u Q I rx ry h
 obtain ⟨i,j,rfl,rfl,hc,q⟩:=h
 obtain ⟨t,rfl⟩:=rx
 obtain ⟨t',rfl⟩:=ry
 exact rule i j t t' s _ _ hc ⟨.int (g i j),H,I.tok _,⟨_,rfl⟩,q⟩
theorem B4 {g:Int->Int->Int}
 (rule:∀(i j:Int) (t u:Tok) (s:Shared) (Q:Value->Shared->Prop) (E:Value->Shared->Prop),Q (.int (g i j) s.toks) {s with toks:=s.toks + 1}->wpAny (model X.prog X.w) X.A (f (.int i t) (.int j u)) Q E s):
 cS X f (mV λi j=>.int (g i j)):=by
 intro pins s σ H x y v u Q I rx ry h
 obtain ⟨i,j,rfl,rfl,q⟩:=h
 obtain ⟨t,rfl⟩:=rx
 obtain ⟨t',rfl⟩:=ry
 exact rule i j t t' s _ _ ⟨.int (g i j),H,I.tok _,⟨_,rfl⟩,q⟩
theorem rH {g:Int->Int->Bool}
 (rule:∀(i j:Int) (t u:Tok) (s:Shared) (Q:Value->Shared->Prop) (E:Value->Shared->Prop),Q (.bool (g i j)) s->wpAny (model X.prog X.w) X.A (f (.int i t) (.int j u)) Q E s):
 cS X f (mV λi j=>.bl (g i j)):=by
 intro pins s σ H x y v u Q I rx ry h
 obtain ⟨i,j,rfl,rfl,q⟩:=h
 obtain ⟨t,rfl⟩:=rx
 obtain ⟨t',rfl⟩:=ry
 exact rule i j t t' s _ _ ⟨.bl (g i j),H,I,rfl,q⟩
def A7 (i j:Int):Prop:=0 < j/\j < 1073741824
def zN (i j:Int):Prop:=0<=j/\j<=1000000/\i.natAbs < 2 ^ 64
def rE (i j:Int):Prop:=(-(2 ^ 64) < i/\i < 2 ^ 64)∨(-(2 ^ 64) < j/\j < 2 ^ 64)
theorem rE.ok {i j:Int}(h:rE i j):IntMulOk i j:=by
 rcases h with ⟨h1,h2⟩ | ⟨h1,h2⟩
 ·exact .of_left (intBits_le_64 h1 h2)
 ·exact .of_right (intBits_le_64 h1 h2)
theorem Bp:cS X (binaryOp .Add) (mV λi j=>.int (i + j)):=B4 λ_ _ _ _ _ _ _ q=>add_int q
theorem B7:cS X (binaryOp .Sub) (mV λi j=>.int (i - j)):=B4 λ_ _ _ _ _ _ _ q=>sub_int q
theorem Aq:cS X (binaryOp .Mult) (rI rE λi j=>.int (i * j)):=qu λ_ _ _ _ _ _ _ hc q=>mul_int q hc.ok
theorem zt:cS X (binaryOp .FloorDiv) (rI A7 λi j=>.int (i / j)):=qu λi j _ _ _ _ _ hc q=>by
 have h1:(0:Int) < j:=hc.1
 have h2:j < 1073741824:=hc.2
 exact floordiv_int (by omega) (by rw [Int.fdiv_eq_ediv_of_nonneg i (by omega)];exact q) (.inl (PyProof.noPylong_small (by omega)))
theorem zA:cS X (binaryOp .Mod) (rI (λ_ j=>0 < j) λi j=>.int (i % j)):=qu λi j _ _ _ _ _ hc q=>by
 have h1:(0:Int) < j:=hc
 exact mod_int' (by omega) (by rw [Int.fmod_eq_emod_of_nonneg i (by omega)];exact q)
theorem Bg:cS X (binaryOp .Pow) (rI zN λi j=>.int (i ^ j.toNat)):=qu λ_ _ _ _ _ _ _ hc q=>pow_int_small hc.1 hc.2.1 hc.2.2 q
theorem unI {f:Value->Sem Value}{g:Int->Int}
 (rule:∀(i:Int) (t:Tok) (s:Shared) (Q:Value->Shared->Prop) (E:Value->Shared->Prop),Q (.int (g i) s.toks) {s with toks:=s.toks + 1}->wpAny (model X.prog X.w) X.A (f (.int i t)) Q E s):
 BY X f (rU λi=>.int (g i)):=by
 intro pins s σ H x v Q I rx h
 obtain ⟨i,rfl,q⟩:=h
 obtain ⟨t,rfl⟩:=rx
 exact rule i t s _ _ ⟨.int (g i),H,I.tok _,⟨_,rfl⟩,q⟩
theorem Ci:BY X (unaryOp .USub) (rU λi=>.int (-i)):=unI λ_ _ _ _ _ q=>neg_int q
end
def zz:V->V->Bool
 | .non,.non=>true | .non,.int _=>true | .int _,.non=>true | .non,.bl _=>true | .bl _,.non=>true | .non,.str _=>true | .str _,.non=>true
 | .int _,.int _=>true | .bl _,.bl _=>true | .str _,.str _=>true | .byt _,.byt _=>true
 | .int _,.str _=>true | .str _,.int _=>true | .bl _,.str _=>true | .str _,.bl _=>true
 | _,_=>false
def rEq:R2:=λx y H Q=>zz x y=true/\Q (.bl (decide (x=y))) H
def rNe:R2:=λx y H Q=>zz x y=true/\Q (.bl (!decide (x=y))) H
theorem mi {i j:Int}:decide (V.int i=V.int j)=(i==j):=by
 rw [Bool.eq_iff_iff]
 simp
theorem uX {i j:Bool}:decide (V.bl i=V.bl j)=(i==j):=by
 rw [Bool.eq_iff_iff]
 simp
theorem iD {i j:Str}:decide (V.str i=V.str j)=(i==j):=by
 rw [Bool.eq_iff_iff]
 simp
theorem qh {i j:Array UInt8}:decide (V.byt i=V.byt j)=(i.toList==j.toList):=by
 rw [Bool.eq_iff_iff]
 cases i
 cases j
 simp
section
variable {X:Cx}{a b c:Expr}{ta tb tc:TE}{pos:Pos}
variable {op:CmpOp}{r:R2}
theorem bb {pins:List (Addr×Obj)}{σ:St}{H:Hp}{s:Shared}{Q:VK}{k k':Bool}(I:Inv X pins σ H s)(q:Q (.bl k) H)(e:k=k'):EP X pins σ Q (.bool k') s:=by
 subst e
 exact ⟨.bl k,H,I,rfl,q⟩
theorem xu:cS X (compareOp .Eq) rEq:=by
 intro pins s σ H x y v u Q I rx ry h
 obtain ⟨hs,q⟩:=h
 cases x with
 | non=>
   cases rx
   cases y with
   | non=>cases ry;exact PySem.EqNone.eq_none_none (bb I q (by simp))
   | bl j=>cases ry;exact PySem.EqNone.eq_none_bool (bb I q (by simp))
   | int j=>obtain ⟨t',rfl⟩:=ry;exact PySem.EqNone.eq_none_int (bb I q (by simp))
   | str j=>obtain ⟨t',rfl⟩:=ry;exact PySem.EqNone.eq_none_str (bb I q (by simp))
   | _=>exact absurd (show false=true from hs) Bool.false_ne_true
 | bl i=>
   cases rx
   cases y with
   | non=>cases ry;exact PySem.EqNone.eq_bool_none (bb I q (by simp))
   | bl j=>cases ry;exact eq_bool (bb I q uX)
   | str j=>obtain ⟨t',rfl⟩:=ry;exact PySem.EqMixed.eq_bool_str (bb I q (by simp))
   | _=>exact absurd (show false=true from hs) Bool.false_ne_true
 | int i=>
   obtain ⟨t,rfl⟩:=rx
   cases y with
   | non=>cases ry;exact PySem.EqNone.eq_int_none (bb I q (by simp))
   | int j=>obtain ⟨t',rfl⟩:=ry;exact eq_int (bb I q mi)
   | str j=>obtain ⟨t',rfl⟩:=ry;exact PySem.EqMixed.eq_int_str (bb I q (by simp))
   | _=>exact absurd (show false=true from hs) Bool.false_ne_true
 | str i=>
   obtain ⟨t,rfl⟩:=rx
   cases y with
   | non=>cases ry;exact PySem.EqNone.eq_str_none (bb I q (by simp))
   | bl j=>cases ry;exact PySem.EqMixed.eq_str_bool (bb I q (by simp))
   | int j=>obtain ⟨t',rfl⟩:=ry;exact PySem.EqMixed.eq_str_int (bb I q (by simp))
   | str j=>obtain ⟨t',rfl⟩:=ry;exact eq_str (bb I q iD)
   | _=>exact absurd (show false=true from hs) Bool.false_ne_true
 | byt i=>
   obtain ⟨t,rfl⟩:=rx
   cases y with
   | byt j=>obtain ⟨t',rfl⟩:=ry;exact PySem.W.eq_bytes (bb I q qh)
   | _=>exact absurd (show false=true from hs) Bool.false_ne_true
 | _=>cases y<;>exact absurd (show false=true from hs) Bool.false_ne_true
theorem DT:cS X (compareOp .NotEq) rNe:=by
 intro pins s σ H x y v u Q I rx ry h
 obtain ⟨hs,q⟩:=h
 cases x with
 | non=>
   cases rx
   cases y with
   | non=>cases ry;exact PySem.EqNone.ne_none_none (bb I q (by simp))
   | bl j=>cases ry;exact PySem.EqNone.ne_none_bool (bb I q (by simp))
   | int j=>obtain ⟨t',rfl⟩:=ry;exact PySem.EqNone.ne_none_int (bb I q (by simp))
   | str j=>obtain ⟨t',rfl⟩:=ry;exact PySem.EqNone.ne_none_str (bb I q (by simp))
   | _=>exact absurd (show false=true from hs) Bool.false_ne_true
 | bl i=>
   cases rx
   cases y with
   | non=>cases ry;exact PySem.EqNone.ne_bool_none (bb I q (by simp))
   | bl j=>cases ry;exact ne_bool (bb I q (congrArg not uX))
   | str j=>obtain ⟨t',rfl⟩:=ry;exact PySem.EqMixed.ne_bool_str (bb I q (by simp))
   | _=>exact absurd (show false=true from hs) Bool.false_ne_true
 | int i=>
   obtain ⟨t,rfl⟩:=rx
   cases y with
   | non=>cases ry;exact PySem.EqNone.ne_int_none (bb I q (by simp))
   | int j=>obtain ⟨t',rfl⟩:=ry;exact ne_int (bb I q (congrArg not mi))
   | str j=>obtain ⟨t',rfl⟩:=ry;exact PySem.EqMixed.ne_int_str (bb I q (by simp))
   | _=>exact absurd (show false=true from hs) Bool.false_ne_true
 | str i=>
   obtain ⟨t,rfl⟩:=rx
   cases y with
   | non=>cases ry;exact PySem.EqNone.ne_str_none (bb I q (by simp))
   | bl j=>cases ry;exact PySem.EqMixed.ne_str_bool (bb I q (by simp))
   | int j=>obtain ⟨t',rfl⟩:=ry;exact PySem.EqMixed.ne_str_int (bb I q (by simp))
   | str j=>obtain ⟨t',rfl⟩:=ry;exact ne_str (bb I q (congrArg not iD))
   | _=>exact absurd (show false=true from hs) Bool.false_ne_true
 | byt i=>
   obtain ⟨t,rfl⟩:=rx
   cases y with
   | byt j=>obtain ⟨t',rfl⟩:=ry;exact PySem.W.ne_bytes (bb I q (congrArg not qh))
   | _=>exact absurd (show false=true from hs) Bool.false_ne_true
 | _=>cases y<;>exact absurd (show false=true from hs) Bool.false_ne_true
theorem DV:cS X (compareOp .Lt) (mV λi j=>.bl (decide (i < j))):=rH λ_ _ _ _ _ _ _ q=>lt_int q
theorem Dn:cS X (compareOp .LtE) (mV λi j=>.bl (decide (i<=j))):=rH λ_ _ _ _ _ _ _ q=>le_int q
theorem Eb:cS X (compareOp .Gt) (mV λi j=>.bl (decide (j < i))):=rH λ_ _ _ _ _ _ _ q=>gt_int q
theorem Dl:cS X (compareOp .GtE) (mV λi j=>.bl (decide (j<=i))):=rH λ_ _ _ _ _ _ _ q=>ge_int q
theorem yE:cS X (compareOp .IsNot) (λx y H Q=>y= .non/\Q (.bl (!decide (x= .non))) H):=by
 intro pins s σ H x y v u Q I rx ry h
 obtain ⟨rfl,q⟩:=h
 cases ry
 refine isnot_none_gen (bb I q ?_)
 cases x<;>first
  | (cases rx;rfl)
  | (obtain ⟨t,rfl⟩:=rx;rfl)
theorem pJ (b:Expr)(h:op≠ .In:=by decide)(h2:op≠ .NotIn:=by decide):behindInMarks op b=false:=by
 have e1:(op==CmpOp.In)=false:=by cases op<;>first | rfl | exact absurd rfl h
 have e2:(op==CmpOp.NotIn)=false:=by cases op<;>first | rfl | exact absurd rfl h2
 cases b<;>simp [behindInMarks,e1,e2]
theorem y4 (ho:cS X (compareOp op) r)(ha:PE X a ta)(hb:PE X b tb)(hm:behindInMarks op b=false):PE X (.Compare a [op] [b] pos) (wW r ta tb):=by
 intro pins s σ H Q I h
 exact wpAny_Compare1 (vg ha hb I h λv u s2 x y H2 I2 rx ry q=>ho pins s2 σ H2 x y v u Q I2 rx ry q) hm
def xA (t:TE):TT:=λσ H Q=>t σ H λx H'=>∃k,x= .bl k/\Q k H'
theorem yA (ho:cS X (compareOp op) r)(ha:PE X a ta)(hb:PE X b tb)(hm:behindInMarks op b=false):PT X (.Compare a [op] [b] pos) (xA (wW r ta tb)):=by
 intro pins s σ H Q I h
 refine wpAny_isTrue_Compare1 (aF (ha pins s σ H _ I h) λv s1 ⟨x,H1,I1,r1,q1⟩=>aF (hb pins s1 σ H1 _ I1 q1) λu s2 ⟨y,H2,I2,r2,q2⟩=>
  aF (ho pins s2 σ H2 x y v u _ I2 r1 r2 q2) λc s3 ⟨z,H3,I3,r3,k,e,q3⟩=>?_) hm
 subst e
 cases r3
 exact wpAny_truthy_bool ⟨H3,I3,q3⟩
def sC (r r':R2)(ta tb tc:TE):TE:=λσ H Q=>ta σ H λx H1=>tb σ H1 λy H2=>r x y H2 λz H3=>∃k,z= .bl k/\
 (if k=true then tc σ H3 λw' H4=>r' y w' H4 Q else Q (.bl false) H3)
theorem vm {op':CmpOp}{r':R2}(ho:cS X (compareOp op) r)(ho':cS X (compareOp op') r')(ha:PE X a ta)(hb:PE X b tb)(hc:PE X c tc)
 (hm:lastMarks [op,op'] [b,c]=false:=by with_unfolding_all rfl):PE X (.Compare a [op,op'] [b,c] pos) (sC r r' ta tb tc):=by
 intro pins s σ H Q I h
 refine Compare_chain (aF (ha pins s σ H _ I h) λv s1 ⟨x,H1,I1,r1,q1⟩=>chain_link (aF (hb pins s1 σ H1 _ I1 q1) λu s2 ⟨y,H2,I2,r2,q2⟩=>
  aF (ho pins s2 σ H2 x y v u _ I2 r1 r2 q2) λd s3 ⟨z,H3,I3,r3,k,e,q3⟩=>?_)) hm
 subst e
 cases r3
 refine wpAny_truthy_bool ?_
 cases k with
 | false=>exact ite_ff ⟨.bl false,H3,I3,rfl,q3⟩
 | true=>exact ite_tt (chain_last (aF (hc pins s3 σ H3 _ I3 q3) λw' s4 ⟨z',H4,I4,r4,q4⟩=>ho' pins s4 σ H4 y z' u w' Q I4 r2 r4 q4))
theorem vT {op':CmpOp}{r':R2}(ho:cS X (compareOp op) r)(ho':cS X (compareOp op') r')(ha:PE X a ta)(hb:PE X b tb)(hc:PE X c tc)
 (hm:lastMarks [op,op'] [b,c]=false:=by with_unfolding_all rfl):PT X (.Compare a [op,op'] [b,c] pos) (xA (sC r r' ta tb tc)):=by
 intro pins s σ H Q I h
 refine isTrue_chain (aF (ha pins s σ H _ I h) λv s1 ⟨x,H1,I1,r1,q1⟩=>test_link (aF (hb pins s1 σ H1 _ I1 q1) λu s2 ⟨y,H2,I2,r2,q2⟩=>
  aF (ho pins s2 σ H2 x y v u _ I2 r1 r2 q2) λd s3 ⟨z,H3,I3,r3,k,e,q3⟩=>?_)) hm
 subst e
 cases r3
 refine wpAny_truthy_bool ?_
 cases k with
 | false=>
   obtain ⟨k',e',q'⟩:=q3
   cases e'
   exact ite_ff ⟨H3,I3,q'⟩
 | true=>
   refine ite_tt (test_last (aF (hc pins s3 σ H3 _ I3 q3) λw' s4 ⟨z',H4,I4,r4,q4⟩=>aF (ho' pins s4 σ H4 y z' u w' _ I4 r2 r4 q4) λd' s5 ⟨z2,H5,I5,r5,k2,e2,q5⟩=>?_))
   subst e2
   cases r5
   exact wpAny_truthy_bool ⟨H5,I5,q5⟩
def Br (K:PySem.W.Frag)(x:V)(H:Hp)(k:Bool):Prop:=
 match x with
 | .non=>k=false
 | .bl b=>k=b
 | .int i=>k=(i != 0)
 | .str y=>y.length<=sizeLine/\k=((y.length:Int) != 0)
 | .byt y=>y.size<=sizeLine/\k=((y.size:Int) != 0)
 | .ref p=>(∃xs,aM K H p xs/\k= !xs.isEmpty)∨(∃xs,cW K H p xs/\k= !xs.isEmpty)∨∃kvs,H p=some (.dK kvs)/\k= !kvs.isEmpty
 | _=>False
theorem rO {κ:Type}{kvs:List (κ×V)}{vs:List (κ×Value)}(r:KV kvs vs):(!vs.isEmpty)= !kvs.isEmpty:=by
 cases r<;>rfl
theorem lq {xs:List V}{its:List Value}(r:Vals xs its):(!its.toArray.isEmpty)= !xs.isEmpty:=by
 cases r<;>simp
theorem gY:(sizeLine:Nat) < 2 ^ 63:=by rw [sizeLine_eq];decide
theorem Bl:F7 X (λx H Q=>∃k,Br X.K x H k/\Q k H):=by
 intro pins s σ H x v Q I rx h
 obtain ⟨k,e,q⟩:=h
 have hl:=gY
 have hs:sizeLine=16777216:=sizeLine_eq
 cases x with
 | non=>
   cases rx
   have e':k=false:=e
   subst e'
   exact truthy_none ⟨H,I,q⟩
 | bl b=>
   cases rx
   have e':k=b:=e
   subst e'
   exact wpAny_truthy_bool ⟨H,I,q⟩
 | int i=>
   obtain ⟨t,rfl⟩:=rx
   have e':k=(i != 0):=e
   subst e'
   exact PySem.P.truthy_int ⟨H,I,q⟩
 | str y=>
   obtain ⟨t,rfl⟩:=rx
   obtain ⟨hy,e'⟩:y.length<=sizeLine/\k=((y.length:Int) != 0):=e
   subst e'
   exact PySem.P.truthy_str (by omega) ⟨H,I.tok _,q⟩
 | byt y=>
   obtain ⟨t,rfl⟩:=rx
   obtain ⟨hy,e'⟩:y.size<=sizeLine/\k=((y.size:Int) != 0):=e
   subst e'
   exact PySem.W.truthy_bytes (by omega) ⟨H,I.tok _,q⟩
 | ref p=>
   cases rx
   have e':(∃xs,aM X.K H p xs/\k= !xs.isEmpty)∨(∃xs,cW X.K H p xs/\k= !xs.isEmpty)∨∃kvs,H p=some (.dK kvs)/\k= !kvs.isEmpty:=e
   rcases e' with ⟨xs,hx,e'⟩ | ⟨xs,hx,e'⟩ | ⟨kvs,hx,e'⟩
   ·subst e'
    obtain ⟨its,r,pl,hz⟩:=I.list hx
    have hlen:=r.length
    exact wpAny_truthy_list pl.isList (by simp only [List.size_toArray];omega) ⟨H,I.tok _,by rw [lq r];exact q⟩
   ·subst e'
    obtain ⟨its,r,pl,hz⟩:=I.tuple hx
    have hlen:=r.length
    exact truthy_tuple pl (by simp only [List.size_toArray];omega) ⟨H,I.tok _,by rw [lq r];exact q⟩
   ·subst e'
    obtain ⟨hz,hS,vs,r,m⟩:kvs.length<=sizeLine/\(p==sysModules)=false/\∃vs,KV kvs vs/\s.heap.DictOf (bB X.prog X.w) p vs:=I.hok p _ hx
    have hlen:kvs.length=vs.length:=Paired.length r
    exact wpAny_truthy_dict hS m (by omega) ⟨H,I.tok _,by rw [rO r];exact q⟩
 | _=>exact (show False from e).elim
theorem oX (ha:PE X a ta)(he:∀whole,isTrue a X.env whole=(do let v ← whole;standAt a.pos;holding [v] (truthy v))):
 PT X a (λσ H Q=>ta σ H λx H'=>∃k,Br X.K x H' k/\Q k H'):=by
 intro pins s σ H Q I h
 exact isTrue_plain (aF (ha pins s σ H _ I h) λv s1 ⟨x,H1,I1,r1,q1⟩=>Bl pins s1 σ H1 x v Q I1 r1 q1) (he _)
theorem rK:cS X (binaryOp .Add) (λx y H Q=>∃i j,x= .str i/\y= .str j/\i.length + j.length<=sizeLine/\Q (.str (i++j)) H):=by
 intro pins s σ H x y v u Q I rx ry h
 obtain ⟨i,j,rfl,rfl,hz,q⟩:=h
 obtain ⟨t,rfl⟩:=rx
 obtain ⟨t',rfl⟩:=ry
 exact add_str (λt' tk=>⟨.str (i++j),H,I.tok _,⟨_,rfl⟩,q⟩) hz
theorem vals1 {x:V}{us:List Value}(r:Vals [x] us):∃u,us=[u]/\RelV x u:=by
 cases r with
 | cons r1 r2=>cases r2;exact ⟨_,rfl,r1⟩
theorem vals2 {x y:V}{us:List Value}(r:Vals [x,y] us):∃u w',us=[u,w']/\RelV x u/\RelV y w':=by
 cases r with
 | cons r1 r2=>
   cases r2 with
   | cons r3 r4=>cases r4;exact ⟨_,_,rfl,r1,r3⟩
theorem u6 (hc:X.calm=true):dX X (.builtin "min") (λxs H Q=>∃i j,xs=[.int i,.int j]/\Q (.int (if j < i then j else i)) H):=by
 intro pins s σ H xs us Q I r h
 obtain ⟨i,j,rfl,q⟩:=h
 obtain ⟨u,w',rfl,⟨t,rfl⟩,⟨t',rfl⟩⟩:=vals2 r
 refine min_two_ints (I.ok.hd hc) λh' tk k=>⟨_,H,I.kept k,?_,q⟩
 by_cases hj:j < i
 ·rw [if_pos hj,if_pos hj];exact ⟨_,rfl⟩
 ·rw [if_neg hj,if_neg hj];exact ⟨_,rfl⟩
theorem tN:dX X (.type "int") (λxs H Q=>(∃i,xs=[.int i]/\Q (.int i) H)∨∃k,xs=[.bl k]/\Q (.int (if k then 1 else 0)) H):=by
 intro pins s σ H xs us Q I r h
 rcases h with ⟨i,rfl,q⟩ | ⟨k,rfl,q⟩
 ·obtain ⟨u,rfl,t,rfl⟩:=vals1 r
  exact call_int_int ⟨.int i,H,I,⟨_,rfl⟩,q⟩
 ·obtain ⟨u,rfl,r1⟩:=vals1 r
  cases r1
  exact call_int_bool ⟨.int (if k then 1 else 0),H,I.tok _,⟨_,rfl⟩,q⟩
end
structure l9 (h:Heap) (x dx C:Addr) (mA:Str->Option Value):Prop where
 obj:h.get? x=some (PySem.W.instObj C dx)
 ns:h.Ns1 dx mA
 ne:dx≠x
theorem tZ {h:Heap}{dx:Addr}{mA:Str->Option Value}(n:h.Ns1 dx mA):∃od,h.get? dx=some od/\∀name,PySem.W.lookIn name od=some (mA name):=by
 obtain ⟨o,es,ep,ho,hd,hk,_,hm⟩:=n
 refine ⟨o,ho,λname=>?_⟩
 have e:=hm name
 unfold nsFind findBy at e
 rw [← Array.find?_toList] at e
 unfold PySem.W.lookIn
 rw [hd]
 dsimp only
 split
 ·rename_i y q
  rw [q] at e
  exact congrArg some e
 ·rename_i q
  rw [q] at e
  have a:es.toList.any (·.refKey)=false:=by
   rw [List.any_eq_false]
   intro y hy
   obtain ⟨z,t,hkey⟩:=hk y (Array.mem_toList_iff.mp hy)
   simp [DictEntry.refKey,hkey]
  have a':¬es.toList.any (·.refKey)=true:=by rw [a];exact Bool.false_ne_true
  rw [if_neg a']
  exact congrArg some e
theorem l9.look {h:Heap}{x dx C:Addr}{mA:Str->Option Value}(I:l9 h x dx C mA):∃od,PySem.W.InstAt h x (PySem.W.instObj C dx) C (some od)/\∀name,PySem.W.lookIn name od=some (mA name):=
 let ⟨od,ho,hl⟩:=tZ I.ns
 ⟨od,⟨I.obj,rfl,rfl,ho⟩,hl⟩
section
variable {prog:Program}{w:World}{A:Around}{E:Value->Shared->Prop}{s:Shared}{K:PySem.W.Frag}{x dx C f:Addr}{mA:Str->Option Value}{name:Str}{v:Value}
theorem get_map {expr:Bool}{Q:Value->Shared->Prop}(X:K.In s.heap)(I:l9 s.heap x dx C mA)(hg:PySem.W.plainGet K C name=true)(hh:PySem.W.hasDictIn K C=true)
 (ha:PySem.W.findIn K (.ref C) name=some none) (hv:mA name=some v) (hv':PySem.W.handedIn v=true) (h:Q v {s with toks:=s.toks + 1}):
 wpAny (model prog w) A (getAttr (.ref x) name expr) Q E s:=by
 obtain ⟨od,J,hl⟩:=I.look
 exact PySem.W.get_value X J (PySem.W.plainGet_of hg).1 (PySem.W.findObj_own hh ha rfl (by rw [hl,hv])) hv' h
theorem yY {ns:List Str}{Q:Unit->Shared->Prop}(X:K.In s.heap)(I:l9 s.heap x dx C mA)
 (hs:PySem.W.findIn K (.ref C) "__setattr__"=some (some (.builtin "object.__setattr__"))) (hp:PySem.W.plainOver K C=true) (ht:PySem.W.takerIn K C name=some none) (hh:PySem.W.hasDictIn K C=true)
 (hw:PySem.Within mA ns) (hsz:ns.length<=sizeLine)
 (h:∀h',l9 h' x dx C (λy=>if y=name then some v else mA y)->Heap.SameBut dx s.heap h'->Q () {s with heap:=h',toks:=s.toks + 2}):
 wpAny (model prog w) A (setAttr (.ref x) name v) Q E s:=by
 obtain ⟨od,J,hl⟩:=I.look
 refine PySem.W.set_plain X J hs (PySem.W.osa_open (s:={s with toks:=s.toks + 1}) (r:=none) X J hp ht λb=>?_)
 obtain ⟨cd,hc,hd'⟩:=PySem.W.any_some hh
 have hx:s.heap.get? x=some ⟨.ref C,some dx,.plain, #[]⟩:=I.obj
 refine wpAny_bind (wpAny_pure (wpAny_bind (wpAny_bind (wpAny_loadPart hx (wpAny_bind (PySem.W.Looks.here (s:={s with toks:=s.toks + 1}) (PySem.W.looks_clsIn X hc) ?_))))))
 rw [hd']
 refine wpAny_pure (a:=some dx) (wpAny_bind (wpAny_pure (wpAny_bind ?_)))
 refine wpAny_nsSet1 (s:={s with toks:=s.toks + 1}) I.ns λh' hn2 hs2=>?_
 obtain ⟨oD,esD,epD,hoD,hdD,hcD⟩:=hn2.count (PySem.Within.cons name v hw)
 refine wpAny_bind (wpAny_lookBehind hoD (by rw [hdD];exact pastItsLine_dict (Nat.le_trans hcD (by rw [List.length_cons];omega))) ?_)
 exact wpAny_pure (h _ ⟨(hs2.2 _ (Ne.symm I.ne)).trans I.obj,hn2,I.ne⟩ hs2)
theorem vK {R:Result->Shared->Prop}{vs:List Value}{kw:List (Str×Value)}(X:K.In s.heap)(hm:PySem.W.makesIn K C=true)
 (hi:PySem.W.findIn K (.ref C) "__init__"=some (some (.ref f))) (hf:PySem.W.typeIn K (.ref f)=some (.type "function"))
 (h:codeAny (model prog w) (A.under (.builtin "type.__call__" ⟨.ref C::vs,kw⟩)) (.call (.ref f) ⟨.ref (s.heap.objs.size + 1)::vs,kw⟩) (PySem.W.InitBack (s.heap.objs.size + 1) R)
  {s with heap:=(s.heap.push PySem.W.emptyDict).push (PySem.W.instObj C s.heap.objs.size)}):
 codeAny (model prog w) A (.call (.ref C) ⟨vs,kw⟩) R s:=by
 obtain ⟨hh,g,d,t,os⟩:=s
 exact PySem.W.make_core (PySem.W.makes_of X hm) (PySem.W.looks_findIn X hi) (λself=>PySem.W.bind_fn X self hf) (.inl rfl) h
end
def dD (f:Str)(v:V):List (Str×V)->List (Str×V)
 | []=>[(f,v)]
 | (g,x)::r=>if g=f then (g,v)::r else (g,x)::dD f v r
theorem ki (f g:Str)(v:V):∀fs:List (Str×V),(dD f v fs).lookup g=if g=f then some v else fs.lookup g
 | []=>by
   show List.lookup g [(f,v)]=_
   by_cases h:g=f
   ·have hb:(g==f)=true:=beq_iff_eq.mpr h
    simp only [List.lookup,hb,if_pos h]
   ·have hb:(g==f)=false:=beq_eq_false_iff_ne.mpr h
    simp only [List.lookup,hb,if_neg h]
 | (k,x)::r=>by
   have ih:=ki f g v r
   rw [show dD f v ((k,x)::r)=(if k=f then (k,v)::r else (k,x)::dD f v r) from rfl]
   by_cases hk:k=f
   ·rw [if_pos hk]
    by_cases h:g=k
    ·have hb:(g==k)=true:=beq_iff_eq.mpr h
     simp only [List.lookup,hb,if_pos (h.trans hk)]
    ·have hb:(g==k)=false:=beq_eq_false_iff_ne.mpr h
     simp only [List.lookup,hb,if_neg (λe:g=f=>h (e.trans hk.symm))]
   ·rw [if_neg hk]
    by_cases h:g=k
    ·have hb:(g==k)=true:=beq_iff_eq.mpr h
     simp only [List.lookup,hb,if_neg (λe:g=f=>hk (h.symm.trans e))]
    ·have hb:(g==k)=false:=beq_eq_false_iff_ne.mpr h
     simp only [List.lookup,hb]
     exact ih
theorem jE (f:Str)(v:V):∀fs:List (Str×V),f∈(dD f v fs).map (·.1)/\∀g,g∈fs.map (·.1)->g∈(dD f v fs).map (·.1)
 | []=>⟨by simp [dD],λg h=>by simp at h⟩
 | (k,x)::r=>by
   obtain ⟨i1,i2⟩:=jE f v r
   rw [show dD f v ((k,x)::r)=(if k=f then (k,v)::r else (k,x)::dD f v r) from rfl]
   by_cases hk:k=f
   ·rw [if_pos hk]
    subst hk
    exact ⟨by simp,λg h=>by simpa using h⟩
   ·rw [if_neg hk]
    refine ⟨?_,λg h=>?_⟩
    ·rw [List.map_cons]
     exact List.mem_cons_of_mem _ i1
    ·rw [List.map_cons] at h ⊢
     rcases List.mem_cons.mp h with e | e
     ·exact List.mem_cons.mpr (.inl e)
     ·exact List.mem_cons_of_mem _ (i2 g e)
theorem kg (f:Str)(v:V):∀fs:List (Str×V),(dD f v fs).length<=fs.length + 1
 | []=>by simp [dD]
 | (k,x)::r=>by
   have ih:=kg f v r
   rw [show dD f v ((k,x)::r)=(if k=f then (k,v)::r else (k,x)::dD f v r) from rfl]
   by_cases hk:k=f
   ·rw [if_pos hk,List.length_cons,List.length_cons];omega
   ·rw [if_neg hk,List.length_cons,List.length_cons];omega
theorem fC.some_of {v:V}{o:Option Value}(r:fC (some v) o):∃u,o=some u/\RelV v u:=by
 cases o with
 | none=>exact (show False from r).elim
 | some u=>exact ⟨u,rfl,r⟩
theorem tD {v:V}{u:Value}(r:RelV v u):PySem.W.handedIn u=true:=by
 cases v with
 | non=>cases (show u=Value.none from r);rfl
 | bl b=>cases (show u=Value.bool b from r);rfl
 | int i=>obtain ⟨t,e⟩:=(show∃t,u=Value.int i t from r);cases e;rfl
 | str x=>obtain ⟨t,e⟩:=(show∃t,u=Value.str x t from r);cases e;rfl
 | byt b=>obtain ⟨t,e⟩:=(show∃t,u=Value.bytes b t from r);cases e;rfl
 | flt b=>obtain ⟨t,e⟩:=(show∃t,u=Value.float b t from r);cases e;rfl
 | ref a=>cases (show u=Value.ref a from r);rfl
 | ty n=>cases (show u=Value.type n from r);rfl
section
variable {P:Program}{w:World}{H H':Hp}{h h':Heap}{a C dx:Addr}{fs fs':List (Str×V)}
theorem qy (hok:cU P w H h)(e:H a=some (.ins C dx fs)):∃mA,l9 h a dx C mA/\(∀f,fC (fs.lookup f) (mA f))/\PySem.Within mA (fs.map (·.1))/\fs.length<=1000/\H dx=some (.own a):=by
 obtain ⟨d,z,ne,ob,mA,n,r,q⟩:=(show cJ P w H h a (.ins C dx fs) from hok a _ e)
 exact ⟨mA,⟨ob,n,ne⟩,r,q,z,d⟩
end
structure jh (K:PySem.W.Frag) (C:Addr):Prop where
 pg:PySem.W.plainGet K C Str.empty=true
 hd:PySem.W.hasDictIn K C=true
 po:PySem.W.plainOver K C=true
 sa:PySem.W.findIn K (.ref C) "__setattr__"=some (some (.builtin "object.__setattr__"))
theorem jh.get {K:PySem.W.Frag}{C:Addr}(c:jh K C)(f:Str):PySem.W.plainGet K C f=true:=c.pg
def gK (K:PySem.W.Frag)(C:Addr)(f:Str):Prop:=PySem.W.findIn K (.ref C) f=some none
theorem gK.Dy {K:PySem.W.Frag}{C:Addr}{f:Str}(n:gK K C f):PySem.W.takerIn K C f=some none:=by
 unfold PySem.W.takerIn
 rw [show PySem.W.findIn K (.ref C) f=some none from n]
 rfl
section
variable {X:Cx}{pins:List (Addr×Obj)}{σ:St}{H:Hp}{s:Shared}{a C dx:Addr}{fs:List (Str×V)}{f:Str}{v:V}{A:Around}{E:Value->Shared->Prop}
theorem rn {b:Bool}{Q:Value->Shared->Prop}(I:Inv X pins σ H s)(e:H a=some (.ins C dx fs))(c:jh X.K C)(n:gK X.K C f)(l:fs.lookup f=some v)
 (h:∀u s',Inv X pins σ H s'->RelV v u->Q u s'):wpAny (model X.prog X.w) A (getAttr (.ref a) f b) Q E s:=by
 obtain ⟨mA,O,r,_,_,_⟩:=qy I.hok e
 obtain ⟨u,hu,ru⟩:=fC.some_of (v:=v) (o:=mA f) (by rw [← l];exact r f)
 exact get_map I.g7 O (c.get f) c.hd n hu (tD ru) (h u _ (I.tok _) ru)
theorem sf {y:V}{u:Value}{Q:Unit->Shared->Prop}(I:Inv X pins σ H s)(e:H a=some (.ins C dx fs))(c:jh X.K C)(n:gK X.K C f)(hl:fs.length < 1000)(ry:RelV y u)
 (h:∀s',Inv X pins σ (upd H a (.ins C dx (dD f y fs))) s'->Q () s'):wpAny (model X.prog X.w) A (setAttr (.ref a) f u) Q E s:=by
 obtain ⟨mA,O,r,wi,_,ho⟩:=qy I.hok e
 have hz:(fs.map (·.1)).length<=sizeLine:=by rw [List.length_map,sizeLine_eq];omega
 refine yY I.g7 O c.sa c.po n.Dy c.hd wi hz λh' O' sb=>h _ ?_
 have hd:∃o,h'.get? dx=some o:=let ⟨o,_,_,e',_⟩:=O'.ns;⟨o,e'⟩
 refine I.write (x:=a) (e:=dx) (by rw [e];exact True.intro) (.inr ho) (λb q hb z=>(sb.2 b hb).trans z) hd ?_
 refine ⟨by rw [aw O.ne];exact ho,?_,O.ne,O'.obj,_,O'.ns,λg=>?_,λg hg=>?_⟩
 ·have:=kg f y fs;omega
 ·show fC ((dD f y fs).lookup g) (if g=f then some u else mA g)
  rw [ki]
  by_cases q:g=f
  ·rw [if_pos q,if_pos q];exact ry
  ·rw [if_neg q,if_neg q];exact r g
 ·by_cases q:g=f
  ·rw [q];exact (jE f y fs).1
  ·refine (jE f y fs).2 g (wi g λz=>hg ?_)
   show (if g=f then some u else mA g)=none
   rw [if_neg q];exact z
theorem Inv.made (I:Inv X pins σ H s):Inv X pins σ (upd (upd H s.heap.objs.size (.own (s.heap.objs.size + 1))) (s.heap.objs.size + 1) (.ins C s.heap.objs.size []))
 {s with heap:=(s.heap.push PySem.W.emptyDict).push (PySem.W.instObj C s.heap.objs.size)}:=by
 have e1:(s.heap.push PySem.W.emptyDict).get? s.heap.objs.size=some PySem.W.emptyDict:=Heap.get?_push_size s.heap rfl
 have e2:((s.heap.push PySem.W.emptyDict).push (PySem.W.instObj C s.heap.objs.size)).get? (s.heap.objs.size + 1)=some (PySem.W.instObj C s.heap.objs.size):=by
  have:=Heap.get?_push_size (s.heap.push PySem.W.emptyDict) (o:=PySem.W.instObj C s.heap.objs.size) rfl
  rwa [Heap.size_push] at this
 have e3:(s.heap.push PySem.W.emptyDict).Ns s.heap.objs.size (λ_=>none):=⟨PySem.W.emptyDict, #[],_,e1,rfl,(λe he=>absurd he (by simp)),λ_=>rfl⟩
 have I1:=I.laid (a:=s.heap.objs.size) (o:=.own (s.heap.objs.size + 1)) (h':=s.heap.push PySem.W.emptyDict) (t':=s.toks) (λb u q=>Heap.get?_push_of_some _ q) (Nat.le_refl _) ⟨_,e1⟩
 refine I1.laid (a:=s.heap.objs.size + 1) (o:=.ins C s.heap.objs.size []) (t':=s.toks) (λb u q=>Heap.get?_push_of_some _ q) (Nat.le_of_eq (Heap.size_push _ _)) ?_
 have ne:s.heap.objs.size≠s.heap.objs.size + 1:=Nat.ne_of_lt (Nat.lt_succ_self _)
 refine ⟨by rw [aw ne,av],Nat.zero_le _,ne,e2,λ_=>none,(Heap.Ns1.of_empty e3).at λo q=>Heap.get?_push_of_some _ q,λ_=>True.intro,λy hy=>absurd rfl hy⟩
theorem zr {prog:Program}{w:World}{env:Env}{e:Expr}{f:Str}{pos:Pos}{s:Shared}{Q:Value->Shared->Prop}(hb:attributeBase e f env (eval e env)=eval e env)
 (h:wpAny (model prog w) A (eval e env) (λo s₁=>wpAny (model prog w) A (getAttr o f true) Q E s₁) E s):wpAny (model prog w) A (eval (.Attribute e f pos) env) Q E s:=
 Attribute_any_ h (by rw [arm_eval_Attribute,hb])
end
def F4 (K:PySem.W.Frag)(ta:TE)(f:Str):TE:=λσ H Q=>ta σ H λx H1=>∃a C dx fs v,x= .ref a/\H1 a=some (.ins C dx fs)/\jh K C/\gK K C f/\fs.lookup f=some v/\Q v H1
def FV (K:PySem.W.Frag)(ta tv:TE)(f:Str):TS:=λD σ H=>tv σ H λy H1=>ta σ H1 λx H2=>∃a C dx fs,x= .ref a/\H2 a=some (.ins C dx fs)/\jh K C/\gK K C f/\fs.length < 1000/\
 D.nx σ (upd H2 a (.ins C dx (dD f y fs)))
section
variable {X:Cx}{o e value:Expr}{f:Str}{pos pos' tpos:Pos}{ta tv:TE}
theorem n5 (he:PE X e ta)(hb:attributeBase e f X.env (eval e X.env)=eval e X.env):PE X (.Attribute e f pos) (F4 X.K ta f):=by
 intro pins s σ H Q I h
 refine zr hb (aF (he pins s σ H _ I h) λu s1 ⟨x,H1,I1,rx,a,C,dx,fs,v,ex,ea,c,n,l,q⟩=>?_)
 subst ex
 obtain rfl:u=Value.ref a:=rx
 exact rn I1 ea c n l λu' s2 I2 ru=>⟨v,H1,I2,ru,q⟩
theorem Ca (ha:PE X o ta)(hv:PE X value tv)(hs:swapsWith value (some (.Attribute o f pos')) pos.line X.env=pure false):PS X (.Assign [.Attribute o f pos'] value pos) (FV X.K ta tv f):=by
 intro pins s σ H D I h
 refine plainObj_wpAny_Assign_Attribute (aF (hv pins s σ H _ I h) λu s1 ⟨y,H1,I1,ry,q⟩=>aF (ha pins s1 σ H1 _ I1 q) λov s2 ⟨x,H2,I2,rx,a,C,dx,fs,ex,ea,c,n,l,q2⟩=>?_) hs
 subst ex
 obtain rfl:ov=Value.ref a:=rx
 exact sf I2 ea c n l ry λs3 I3=>⟨σ,_,I3,q2⟩
end
section
variable {X:Cx}{pins:List (Addr×Obj)}{σ:St}{H:Hp}{s:Shared}{A:Around}{E:Value->Shared->Prop}{Q:Value->Shared->Prop}{c:Value}{b:Bool}
end
section
variable {A:Around}
structure bA (k:Nat) (A:Around):Prop where
 hd:A.handled=none
 dp:A.depth + 3 * k + 5 < recursionLimit
 un:A.units + 16 * k + 200 < cLine
theorem bA.mono {j k:Nat}(r:bA k A)(h:j<=k):bA j A:=⟨r.hd,by have:=r.dp;omega,by have:=r.un;omega⟩
theorem bA.deeper {k:Nat}(r:bA (k + 1) A)(env:Env):bA k (A.deeper env):=
 ⟨r.hd,by have:=r.dp;show A.depth + 1 + 3 * k + 5 < _;omega,by have:=r.un;show A.units + 3 + 16 * k + 200 < _;omega⟩
theorem rL {C:Addr}{us:List Value}{kw:List (Str×Value)}:(A.under (.builtin "type.__call__" ⟨.ref C::us,kw⟩)).depth=A.depth + 1:=by
 first | rfl | simp [Around.under,Code.weight,Code.isCreation,Code.isGuard,Code.isCaller,Code.frames,Code.isFrame,guardIds]
theorem rM {C:Addr}{us:List Value}{kw:List (Str×Value)}:(A.under (.builtin "type.__call__" ⟨.ref C::us,kw⟩)).units=A.units + 1:=by
 first | rfl | simp [Around.under,Code.cUnits,Code.frames,Code.isFrame]
theorem bA.make {k:Nat}(r:bA (k + 1) A)(C:Addr)(us:List Value)(kw:List (Str×Value)):bA k (A.under (.builtin "type.__call__" ⟨.ref C::us,kw⟩)):=
 ⟨r.hd,by have:=r.dp;rw [rL];omega,by have:=r.un;rw [rM];omega⟩
theorem bA.depth {k:Nat}(r:bA k A):A.depth < recursionLimit:=by have:=r.dp;omega
theorem bA.units {k:Nat}(r:bA k A):A.units + 64 < cLine:=by have:=r.un;omega
def FG:TA:=λ_ H Q=>Q [] H
def Dq (ta:TE)(tr:TA):TA:=λσ H Q=>ta σ H λx H1=>tr σ H1 λxs H2=>Q (x::xs) H2
end
section
variable {X:Cx}{e:Expr}{es:List Expr}{te:TE}{t:TA}{pos:Pos}
theorem bt:PA X [] FG:=λ_ _ _ _ H Q I h=>Calls.spliced_nil ⟨[],H,I,.nil,h⟩
theorem aR (ha:PE X e te)(hr:PA X es t)(hs:starEach (e::es) X.env=(false,eval e X.env)::starEach es X.env:=by rfl):PA X (e::es) (Dq te t):=by
 intro pos pins s σ H Q I h
 rw [hs]
 show wpAny _ _ (spliced ((false,eval e X.env)::backTo pos (starEach es X.env))) _ _ s
 refine Calls.spliced_cons (aF (ha pins s σ H _ I h) λu s1 ⟨x,H1,I1,r1,q1⟩=>?_)
 exact aF (hr pos pins s1 σ H1 _ I1 q1) λus s2 ⟨xs,H2,I2,r2,q2⟩=>⟨x::xs,H2,I2,.cons r1 r2,q2⟩
def FD (t:TA):TE:=λσ H Q=>t σ H λxs H1=>xs.length<=sizeLine/\∀p,H1 p=none->Q (.ref p) (upd H1 p (.tup xs))
def FN (t:TA):TE:=λσ H Q=>t σ H λxs H1=>xs.length<=sizeLine/\∀p,H1 p=none->Q (.ref p) (upd H1 p (.lst xs))
theorem ua {x1}(h:PA X es t):PE X (.Tuple es x1 pos) (FD t):=by
 intro pins s σ H Q I hq
 refine wpAny_Tuple_spliced (aF (h pos pins s σ H _ I hq) λus s1 ⟨xs,H1,I1,r,z,q⟩=>⟨by rw [← r.length];exact z,?_⟩)
 have hf:H1 s1.heap.objs.size=none:=I1.hok.fresh (Nat.le_refl _)
 refine ⟨.ref s1.heap.objs.size,upd H1 s1.heap.objs.size (.tup xs),I1.laid (t':=s1.toks) (λb u e=>Heap.get?_push_of_some _ e) (Nat.le_refl _) ?_,rfl,q _ hf⟩
 exact ⟨z,us,r,⟨_,Heap.get?_push_size _ rfl,rfl,_,rfl⟩⟩
theorem Ap (h:PA X es t):PE X (.List es pos) (FN t):=by
 intro pins s σ H Q I hq
 refine wpAny_List_spliced (aF (h pos pins s σ H _ I hq) λus s1 ⟨xs,H1,I1,r,z,q⟩=>⟨by rw [← r.length];exact z,?_⟩)
 have hf:H1 s1.heap.objs.size=none:=I1.hok.fresh (Nat.le_refl _)
 refine ⟨.ref s1.heap.objs.size,upd H1 s1.heap.objs.size (.lst xs),I1.laid (t':=s1.toks) (λb u e=>Heap.get?_push_of_some _ e) (Nat.le_refl _) ?_,rfl,q _ hf⟩
 exact ⟨z,us,0,r,Heap.get?_push_size _ rfl⟩
end
abbrev Sp:=List V->Hp->VK->XK->Prop
abbrev jk:=List Env->Hp->Shared->XK->Value->Shared->Prop
structure kB (P:Program) (w:World) (K:PySem.W.Frag) (mg:Str->Option Value) (base:Heap) (A:Around) (outer:List Env) (s:Shared) (H:Hp):Prop where
 frames:A.frames=some outer
 mod:Mod K mg base
 bs:∀b o,base.get? b=some o->s.heap.get? b=some o/\H b=none
 bsz:base.objs.size<=s.heap.objs.size
 funs:s.heap.FunFrames base outer
 frf:∀b∈iM outer,H b=none
 hok:cU P w H s.heap
 bare:AllBare s.gens
def CE (outer:List Env)(P:Program)(w:World)(H:Hp)(s:Shared)(Q:VK)(u:Value)(s':Shared):Prop:=
 ∃v H',s'.os=s.os/\AllBare s'.gens/\Un (iM outer) [] H H' s.heap s'.heap/\cU P w H' s'.heap/\RelV v u/\Q v H'
def CR (CX:jk)(outer:List Env)(P:Program)(w:World)(H:Hp)(s:Shared)(Q:VK)(E:XK)(r:Result)(s':Shared):Prop:=
 match r with
 | .ok (.ret u)=>CE outer P w H s Q u s'
 | .ok _=>False
 | .error e=>CX outer H s E e s'
structure cV (P:Program) (w:World) (K:PySem.W.Frag) (mg:Str->Option Value) (base:Heap) (CX:jk) (k:Nat) (f:Addr) (fd:FuncData) (ps:List Str) (sp:Sp):Prop where
 len:∀vs H Q E,sp vs H Q E->vs.length=ps.length
 run:∀(A:Around) (outer:List Env) (s:Shared) (H:Hp) (args:Args) (us:List Value) (vs:List V) (Q:VK) (E:XK),bA k A->kB P w K mg base A outer s H->BindsTo s fd args (ps.zip us)->Vals vs us->sp vs H Q E->
  codeAny (model P w) A (.call (.ref f) args) (CR CX outer P w H s Q E) s
theorem cV.mono {P:Program}{w:World}{K:PySem.W.Frag}{mg:Str->Option Value}{base:Heap}{CX:jk}{j k:Nat}{f:Addr}{fd:FuncData}{ps:List Str}{sp:Sp}(F:cV P w K mg base CX j f fd ps sp)(h:j<=k):
 cV P w K mg base CX k f fd ps sp:=⟨F.len,λA outer s H args us vs Q E hr=>F.run A outer s H args us vs Q E (hr.mono h)⟩
theorem kB.make {P:Program}{w:World}{K:PySem.W.Frag}{mg:Str->Option Value}{base:Heap}{A:Around}{outer:List Env}{s:Shared}{H:Hp}(e:kB P w K mg base A outer s H)(C:Addr)(us:List Value)(kw:List (Str×Value)):
 kB P w K mg base (A.under (.builtin "type.__call__" ⟨.ref C::us,kw⟩)) outer s H:=⟨by first | exact e.frames | (simpa [Around.under,Code.envs,Code.isFrame,pushEnvs] using e.frames),e.mod,e.bs,e.bsz,e.funs,e.frf,e.hok,e.bare⟩
section
variable {X:Cx}{pins:List (Addr×Obj)}{σ:St}{H:Hp}{s s':Shared}
theorem Inv.AS (I:Inv X pins σ H s):kB X.prog X.w X.K X.mg X.base X.A X.stack s H:=
 ⟨I.ok.frames,I.ok.mod,I.bs,Nat.le_trans I.ok.bsz I.sz,I.stack,I.qG,I.hok,I.bare⟩
theorem Inv.after {Q:VK}{u:Value}(I:Inv X pins σ H s)(h:CE X.stack X.prog X.w H s Q u s'):EP X pins σ Q u s':=by
 obtain ⟨v,H',os,bare,un,hok,r,q⟩:=h
 obtain ⟨hh,g,d,t,os'⟩:=s'
 obtain rfl:os'=s.os:=os
 exact ⟨v,H',I.call (h':=hh) (g':=g) (d':=d) (t':=t) (ch:=[]) un hok bare (λb z=>absurd z (by simp)),r,q⟩
end
def D8 (sp:Sp)(dvs:List V)(E:XK)(t:TA):TE:=λσ H Q=>t σ H λvs H1=>sp (vs++dvs) H1 Q E
def DO (C:Addr)(sp:Sp)(dvs:List V)(E:XK)(t:TA):TE:=λσ H Q=>t σ H λvs H1=>∀x dx,H1 x=none->H1 dx=none->dx≠x->
 sp (.ref x::(vs++dvs)) (upd (upd H1 dx (.own x)) x (.ins C dx [])) (λv H2=>v= .non/\Q (.ref x) H2) E
def Binds (K:PySem.W.Frag)(fd:FuncData)(ps:List Str)(ds:List Value):Prop:=
 ∀(s:Shared) (us:List Value),K.In s.heap->(us++ds).length=ps.length->BindsTo s fd ⟨us,[]⟩ (ps.zip (us++ds))
theorem Binds.all {K:PySem.W.Frag}{fd:FuncData}{ps:List Str}(h:∀us:List Value,us.length=ps.length->bindArgs fd ⟨us,[]⟩=pure (ps.zip us)):Binds K fd ps []:=λs us _ hl=>by
 rw [List.append_nil] at hl ⊢
 exact .of_eq (h us hl)
def Passes (CX:jk)(X:Cx)(E:XK):Prop:=∀(pins:List (Addr×Obj)) (σ:St) (H:Hp) (s:Shared) (e:Value) (s':Shared),Inv X pins σ H s->CX X.stack H s E e s'->X.xe e s'
section
variable {X:Cx}{CX:jk}{k:Nat}{f C:Addr}{fd:FuncData}{ps:List Str}{sp:Sp}{dvs:List V}{ds:List Value}{E:XK}{x m:Str}{p pos apos:Pos}{e o:Expr}{es:List Expr}{ta:TE}{t:TA}
theorem zF {pins:List (Addr×Obj)}{σ:St}{H:Hp}{s:Shared}{Q:VK}{us:List Value}{vs:List V}(F:cV X.prog X.w X.K X.mg X.base CX k f fd ps sp)(hr:bA k X.A)(hb:Binds X.K fd ps ds)(hd:Vals dvs ds)(hx:Passes CX X E)
 (I:Inv X pins σ H s) (r:Vals vs us) (h:sp (vs++dvs) H Q E):wpAny (model X.prog X.w) X.A (call (.ref f) us) (EP X pins σ Q) X.xe s:=by
 have r2:Vals (vs++dvs) (us++ds):=r.append hd
 have hl:(us++ds).length=ps.length:=by rw [← r2.length];exact F.len _ _ _ _ h
 refine wpAny_call (codeAny_mono (F.run X.A X.stack s H ⟨us,[]⟩ (us++ds) (vs++dvs) Q E hr I.AS (hb s us I.g7 hl) r2 h) λr s' hq=>?_)
 cases r with
 | error e=>exact hx pins σ H s e s' I hq
 | ok fl=>
   cases fl with
   | ret u=>exact I.after hq
   | next=>exact False.elim hq
   | brk=>exact False.elim hq
   | cont=>exact False.elim hq
theorem lM (F:cV X.prog X.w X.K X.mg X.base CX k f fd ps sp)(hr:bA k X.A)(hg:Gl X x)(hm:X.mg x=some (.ref f))(hk:PySem.W.keepIn X.K (.ref f)=true)(hb:Binds X.K fd ps ds)(hd:Vals dvs ds)(hx:Passes CX X E)
 (ha:PA X (e::es) t) (hdb:(x==("__debug__":Str))=false:=by decide) (he:starEach (e::es) X.env=(false,eval e X.env)::starEach es X.env:=by rfl) (hpl:(backTo pos (starEach es X.env)).any (·.1)=false:=by rfl):
 PE X (.Call (.Name x p) (e::es) [] pos) (D8 sp dvs E t):=by
 intro pins s σ H Q I h
 refine wpAny_Call_Name_kw (lZ I hg hm ?_ hdb)
 refine PySem.W.callWith_K (h₀:=X.base) I.ok.mod.kin hk (aF (ha pos pins s σ H _ I h) λus s1 ⟨vs,H1,I1,r,q⟩=>⟨I1.g7,?_⟩) he hpl
 exact zF F hr hb hd hx I1 r q
structure Mk (K:PySem.W.Frag) (C f:Addr):Prop where
 makes:PySem.W.makesIn K C=true
 init:PySem.W.findIn K (.ref C) "__init__"=some (some (.ref f))
 fn:PySem.W.isFn K (.ref f)=true
 kp:PySem.W.keepIn K (.ref C)=true
theorem vh {pins:List (Addr×Obj)}{σ:St}{H:Hp}{s:Shared}{Q:VK}{us:List Value}{vs:List V}(M:Mk X.K C f)(F:cV X.prog X.w X.K X.mg X.base CX k f fd ps sp)(hr:bA (k + 1) X.A)(hb:Binds X.K fd ps ds)(hd:Vals dvs ds)
 (hx:Passes CX X E) (I:Inv X pins σ H s) (r:Vals vs us)
 (h:∀x dx,H x=none->H dx=none->dx≠x->sp (.ref x::(vs++dvs)) (upd (upd H dx (.own x)) x (.ins C dx [])) (λv H2=>v= .non/\Q (.ref x) H2) E):
 wpAny (model X.prog X.w) X.A (call (.ref C) us) (EP X pins σ Q) X.xe s:=by
 have hq:=h (s.heap.objs.size + 1) s.heap.objs.size (I.hok.fresh (Nat.le_succ _)) (I.hok.fresh (Nat.le_refl _)) (Nat.ne_of_lt (Nat.lt_succ_self _))
 have I2:=Inv.made (C:=C) I
 have r2:Vals (V.ref (s.heap.objs.size + 1)::(vs++dvs)) (Value.ref (s.heap.objs.size + 1)::(us++ds)):=.cons rfl (r.append hd)
 have hl:(Value.ref (s.heap.objs.size + 1)::us++ds).length=ps.length:=by
  have e:=r2.length
  rw [F.len _ _ _ _ hq] at e
  exact e.symm
 refine wpAny_call (vK (f:=f) I.g7 M.makes M.init (beq_iff_eq.mp M.fn) (codeAny_mono (F.run _ X.stack _ _ ⟨Value.ref (s.heap.objs.size + 1)::us,[]⟩ (Value.ref (s.heap.objs.size + 1)::(us++ds)) _ _ E (hr.make C us [])
  (I2.AS.make C us []) (hb _ (Value.ref (s.heap.objs.size + 1)::us) I2.g7 hl) r2 hq) λr s' hq'=>?_))
 cases r with
 | error e=>exact hx pins σ _ _ e s' I2 hq'
 | ok fl=>
   cases fl with
   | ret u=>
     obtain ⟨v,H',I3,rv,ev,q3⟩:=I2.after hq'
     subst ev
     exact ⟨rv,⟨V.ref (s.heap.objs.size + 1),H',I3,rfl,q3⟩⟩
   | next=>exact False.elim hq'
   | brk=>exact False.elim hq'
   | cont=>exact False.elim hq'
theorem yI (M:Mk X.K C f)(F:cV X.prog X.w X.K X.mg X.base CX k f fd ps sp)(hr:bA (k + 1) X.A)(hg:Gl X x)(hm:X.mg x=some (.ref C))(hb:Binds X.K fd ps ds)(hd:Vals dvs ds)(hx:Passes CX X E)
 (ha:PA X (e::es) t) (hdb:(x==("__debug__":Str))=false:=by decide) (he:starEach (e::es) X.env=(false,eval e X.env)::starEach es X.env:=by rfl) (hpl:(backTo pos (starEach es X.env)).any (·.1)=false:=by rfl):
 PE X (.Call (.Name x p) (e::es) [] pos) (DO C sp dvs E t):=by
 intro pins s σ H Q I h
 refine wpAny_Call_Name_kw (lZ I hg hm ?_ hdb)
 refine PySem.W.callWith_K (h₀:=X.base) I.ok.mod.kin M.kp (aF (ha pos pins s σ H _ I h) λus s1 ⟨vs,H1,I1,r,q⟩=>⟨I1.g7,?_⟩) he hpl
 exact vh M F hr hb hd hx I1 r q
end
section
variable {X:Cx}{CX:jk}{k:Nat}{f C:Addr}{fd:FuncData}{ps ks:List Str}{sp:Sp}{E:XK}{x m:Str}{p pos apos kpos:Pos}{e o:Expr}{es:List Expr}{kws:List Keyword}{te ta:TE}{t tk:TA}{nm:Option Str}
variable {g:List Value->List Value->List Value}{gV:List V->List V->List V}
end
structure aE (N P:List Str) (sc:Scope):Prop where
 kind:sc.kind= .function
 co:sc.isCoroutine=false
 gen:sc.isGenerator=false
 nd:N.Nodup
 pre:N.take P.length=P
 par:∀x∈P,sc.names.lookup x=some .local∨sc.names.lookup x=some .cell
 nofree:∀y∈sc.names,y.2≠ .free
theorem mI {kindOf:Str->Option NameKind}{x:Str}:∀{binds:List (Str×Value)} {m:Str->Option Value},(∀v,(x,v)∉binds)->bindL kindOf binds m x=m x
 | [],_,_=>rfl
 | (n,v)::r,m,h=>by
   unfold bindL
   rw [mI λw hw=>h w (List.mem_cons_of_mem _ hw)]
   split
   ·have:x≠n:=by rintro rfl;exact h v List.mem_cons_self
    simp [this]
   ·rfl
theorem mX {kindOf:Str->Option NameKind}{x:Str}:∀{binds:List (Str×Value)} {m:Str->Option Value},(∀v,(x,v)∉binds)->bindC kindOf binds m x=m x
 | [],_,_=>rfl
 | (n,v)::r,m,h=>by
   unfold bindC
   rw [mX λw hw=>h w (List.mem_cons_of_mem _ hw)]
   split
   ·rfl
   ·have:x≠n:=by rintro rfl;exact h v List.mem_cons_self
    simp [this]
theorem mK {kindOf:Str->Option NameKind}{x:Str}{v:Value}:∀{P:List Str} {vs:List Value} {i:Nat} {m:Str->Option Value},P.Nodup->P[i]?=some x->vs[i]?=some v->kindOf x=some .local->
 bindL kindOf (P.zip vs) m x=some v
 | [],_,_,_,_,h,_,_=>by simp at h
 | _::_,[],_,_,_,_,h,_=>by simp at h
 | p::P,w::vs,0,m,nd,h1,h2,hk=>by
   simp at h1 h2;subst h1;subst h2
   show bindL kindOf ((p,w)::P.zip vs) m p=_
   unfold bindL
   rw [mI λv hv=>(List.nodup_cons.mp nd).1 (List.of_mem_zip hv).1,if_pos hk]
   simp
 | p::P,w::vs,i + 1,m,nd,h1,h2,hk=>by
   show bindL kindOf ((p,w)::P.zip vs) m x=_
   unfold bindL
   exact mK (i:=i) (List.nodup_cons.mp nd).2 (by simpa using h1) (by simpa using h2) hk
theorem mG {kindOf:Str->Option NameKind}{x:Str}{v:Value}:∀{P:List Str} {vs:List Value} {i:Nat} {m:Str->Option Value},P.Nodup->P[i]?=some x->vs[i]?=some v->kindOf x≠some .local->
 bindC kindOf (P.zip vs) m x=some v
 | [],_,_,_,_,h,_,_=>by simp at h
 | _::_,[],_,_,_,_,h,_=>by simp at h
 | p::P,w::vs,0,m,nd,h1,h2,hk=>by
   simp at h1 h2;subst h1;subst h2
   show bindC kindOf ((p,w)::P.zip vs) m p=_
   unfold bindC
   rw [mX λv hv=>(List.nodup_cons.mp nd).1 (List.of_mem_zip hv).1,if_neg hk]
   simp
 | p::P,w::vs,i + 1,m,nd,h1,h2,hk=>by
   show bindC kindOf ((p,w)::P.zip vs) m x=_
   unfold bindC
   exact mG (i:=i) (List.nodup_cons.mp nd).2 (by simpa using h1) (by simpa using h2) hk
def start (N:List Str)(vs:List V):St:=vs.map some++List.replicate (N.length - vs.length) none
def fc (CX:jk)(P:Program)(w:World)(K:PySem.W.Frag)(mg:Str->Option Value)(base:Heap)(N:List Str)(qual:Str)(scope:Scope)(f:Addr)(cd:Value)(A:Around)(outer:List Env)(s:Shared)(H:Hp)(E:XK):Cx where
 prog:=P
 w:=w
 K:=K
 mg:=mg
 base:=base
 A:=A.deeper (envOfC qual scope s.heap.objs.size f cd)
 N:=N
 s₀:=s
 H₀:=H
 env:=envOfC qual scope s.heap.objs.size f cd
 outer:=outer
 stack:=envOfC qual scope s.heap.objs.size f cd::outer
 ex:=[]
 calm:=true
 fn:=λ_=>true
 pn:=[]
 xe:=λe s'=>wpAny (model P w) (A.deeper (envOfC qual scope s.heap.objs.size f cd)) (leaving (envOfC qual scope s.heap.objs.size f cd) e) (λ_ s''=>CX outer H s E e s'') (λe' s''=>CX outer H s E e' s'') s'
theorem bG {sc:Scope}{n:Nat}{x:Str}(h:sc.names.lookup x=some .cell):∃c,(cellsFrom n sc.names []).lookup x=some c:=by
 have q:=PySem.W.cellsFrom_some sc.names n [] (.inl h)
 exact Option.isSome_iff_exists.mp q
theorem tJ {CX:jk}{P:Program}{w:World}{K:PySem.W.Frag}{mg:Str->Option Value}{base:Heap}{N ps:List Str}{qual:Str}{scope:Scope}{f:Addr}{cd:Value}{A:Around}{outer:List Env}{s s1:Shared}{H:Hp}{E:XK}{us:List Value}{vs:List V}
 (S:aE N ps scope) (hd:A.handled=none) (e0:kB P w K mg base A outer s H) (hl:vs.length=ps.length) (r:Vals vs us)
 (x:InCallC s s.heap.objs.size (bindL (envOfC qual scope s.heap.objs.size f cd).kindOf (ps.zip us) λ_=>none) (cellsFrom (s.heap.objs.size + 1) scope.names []) (bindC (envOfC qual scope s.heap.objs.size f cd).kindOf (ps.zip us) λ_=>none) s1):
 Inv (fc CX P w K mg base N qual scope f cd A outer s H E) [] (start N vs) H s1:=by
 have hpl:ps.length<=N.length:=by have:=congrArg List.length S.pre;rw [List.length_take] at this;omega
 obtain ⟨h1,tk,rfl,hk⟩:=x.done
 have noA:∀b:Addr,b∉(fc CX P w K mg base N qual scope f cd A outer s H E).ex:=λb z=>absurd (show b∈([]:List Addr) from z) (by simp)
 refine ⟨⟨e0.mod,S.kind,rfl,rfl,Nat.le_refl _,λy z c h1 h2=>?_,λy hy=>?_,λy c _ h=>?_,λ_=>hd,Around.frames_deeper e0.frames,.inr ⟨rfl,rfl⟩,λb z=>absurd z (noA b),e0.bs,e0.bsz,λb _ _=>noA b,λb z=>absurd z (noA b),e0.funs,e0.frf⟩,
  rfl,e0.bare,Un.kept hk,⟨_,x.toInCall.ns,λi y v h1 h2 h3=>?_⟩,λy c h=>⟨_,x.cell y c h⟩,e0.hok.fresh (Nat.le_refl _),λy c h=>?_,λp hp=>absurd (show p∈([]:List (Addr×Obj)) from hp) (by simp),e0.hok.kept hk,?_⟩
 ·exact name_of_addr x.apart (PySem.mem_of_lookup h1) (PySem.mem_of_lookup h2)
 ·have hy:scope.names.lookup y=some .cell∨scope.names.lookup y=some .free:=hy
  rcases hy with hy | hy
  ·exact bG hy
  ·exact absurd rfl (S.nofree _ (PySem.mem_of_lookup hy))
 ·exact Nat.le_of_lt (x.above y c (PySem.mem_of_lookup h))
 ·have hi:i < vs.length:=by
   unfold start at h2
   by_cases hi:i < vs.length
   ·exact hi
   ·rw [List.getElem?_append_right (by simpa using hi)] at h2
    rw [List.getElem?_replicate] at h2
    split at h2<;>cases h2
  have ha:vs[i]?=some v:=by
   unfold start at h2
   rw [List.getElem?_append_left (by simpa using hi),List.getElem?_map] at h2
   cases e:vs[i]? with
   | none=>rw [e] at h2;cases h2
   | some a=>rw [e] at h2;cases h2;rfl
  obtain ⟨u,hu,rv⟩:=r.get ha
  have hp:ps[i]?=some y:=by
   rw [← S.pre,List.getElem?_take_of_lt (by omega)];exact h1
  have ndP:ps.Nodup:=by rw [← S.pre];exact S.nd.sublist (List.take_sublist _ _)
  refine ⟨u,rv,?_⟩
  rcases S.par y (List.mem_of_getElem? hp) with k | k
  ·exact .inl ⟨k,mK ndP hp hu k⟩
  ·obtain ⟨c,e⟩:=bG (n:=s.heap.objs.size + 1) k
   refine .inr ⟨.inl k,c,e,?_⟩
   have q:=x.cell y c e
   rw [mG ndP hp hu (by show scope.names.lookup y≠_;rw [k];decide)] at q
   exact q
 ·exact e0.hok.fresh (Nat.le_of_lt (x.above y c (PySem.mem_of_lookup h)))
 ·unfold start
  show _=N.length
  rw [List.length_append,List.length_map,List.length_replicate]
  omega
theorem Dd {CX:jk}{P:Program}{w:World}{K:PySem.W.Frag}{mg:Str->Option Value}{base:Heap}{k:Nat}{f:Addr}{name qual:Str}{params:Arguments}{body:List Stmt}{scope:Scope}{dV kV doc pm cdv ct oc:Value}{an od:Option Addr}
 {osl:Array (Option Value)} {N ps:List Str} {sp:Sp} (lk:K.lookup f=some ⟨oc,od,.func (PySem.W.fnOf name qual params body scope dV kV doc pm an cdv ct),osl⟩) (hcd:PySem.W.codeIn K cdv qual=true) (S:aE N ps scope)
 (len:∀vs H Q E,sp vs H Q E->vs.length=ps.length)
 (hbody:∀(A:Around) (outer:List Env) (s:Shared) (H:Hp) (vs:List V) (Q:VK) (E:XK),bA k (A.deeper (envOfC qual scope s.heap.objs.size f cdv))->sp vs H Q E->
  ∃t,gF (fc CX P w K mg base N qual scope f cdv A outer s H E) body t/\t {nx:=λ_ H'=>Q .non H',rt:=Q} (start N vs) H):
 cV P w K mg base CX (k + 1) f (PySem.W.fnOf name qual params body scope dV kV doc pm an cdv ct) ps sp:=by
 refine ⟨len,λA outer s H args us vs Q E hr e0 hb r hsp=>?_⟩
 have hl:=len _ _ _ _ hsp
 have KX:K.In s.heap:=e0.mod.kin.keeps λb o e=>(e0.bs b o e).1
 have lim:s.heap.NoLimit:=e0.mod.nolimit.keeps λb o e=>(e0.bs b o e).1
 have hkind:∀y∈ps.zip us,scope.names.lookup y.1=some .local∨(scope.names.lookup y.1=some .cell/\((cellsFrom (s.heap.objs.size + 1) scope.names []).lookup y.1).isSome=true):=λ⟨n,v⟩ hy=>by
  rcases S.par n (List.of_mem_zip hy).1 with q | q
  ·exact .inl q
  ·exact .inr ⟨q,PySem.W.cellsFrom_some _ _ _ (.inl q)⟩
 refine codeAny_call_function hr.depth (KX _ _ lk) rfl S.co S.gen rfl (PySem.W.codeRec_of KX hcd) (hb _ _ _ _ ?_)
 refine wpAny_newFunctionEnv_cells S.kind hkind λenv he s1 x=>?_
 subst he
 refine ⟨lim.keeps x.toInCall.keep,codeAny_func ?_⟩
 obtain ⟨t,ht,hq⟩:=hbody A outer s H vs Q E (hr.deeper _) hsp
 have I:Inv (fc CX P w K mg base N qual scope f cdv A outer s H E) [] (start N vs) H s1:=tJ S hr.hd e0 hl r x
 refine wpAny_mono (ht [] s1 (start N vs) H _ I hq) (λfl s' hs=>?_) λe s' hs=>hs
 have fin:∀{σ':St} {H':Hp} {v:V} {u:Value},Inv (fc CX P w K mg base N qual scope f cdv A outer s H E) [] σ' H' s'->RelV v u->Q v H'->CE outer P w H s Q u s':=
  λ{σ' H' v u} J rv q=>⟨v,H',J.os,J.bare,J.base,J.hok,rv,q⟩
 cases fl with
 | ret u=>
   obtain ⟨v,σ',H',J,rv,q⟩:=hs
   exact fin J rv q
 | next=>
   obtain ⟨σ',H',J,q⟩:=hs
   exact fin (v:=V.non) (u:=Value.none) J rfl q
 | brk=>
   obtain ⟨_,_,_,q⟩:=hs
   exact False.elim q
 | cont=>
   obtain ⟨_,_,_,q⟩:=hs
   exact False.elim q
section
variable {X:Cx}{x:Str}{p pos:Pos}{e:Expr}{es:List Expr}{t:TA}{id T:String}{r:List V->Hp->VK->Prop}
def Eg (r:List V->Hp->VK->Prop)(t:TA):TE:=λσ H Q=>t σ H λvs H1=>r vs H1 Q
theorem dk (hc:dX X (.builtin id) r)(hg:Gl X x)(hm:X.mg x=none)(hv:bootBuiltins x=some (.builtin id))(ha:PA X (e::es) t)(hn:x≠"__name__":=by decide)(hdb:(x==("__debug__":Str))=false:=by decide)
 (he:starEach (e::es) X.env=(false,eval e X.env)::starEach es X.env:=by rfl) (hpl:(backTo pos (starEach es X.env)).any (·.1)=false:=by rfl):PE X (.Call (.Name x p) (e::es) [] pos) (Eg r t):=by
 intro pins s σ H Q I h
 refine wpAny_Call_Name_kw (eW I hg hm hv ?_ hn hdb)
 exact PyProof.Rows.callWith_builtin1 (aF (ha pos pins s σ H _ I h) λus s1 ⟨vs,H1,I1,r1,q1⟩=>hc pins s1 σ H1 vs us Q I1 r1 q1) he hpl
theorem fL (hc:dX X (.type T) r)(hg:Gl X x)(hm:X.mg x=none)(hv:bootBuiltins x=some (.type T))(ha:PA X (e::es) t)(hn:x≠"__name__":=by decide)(hdb:(x==("__debug__":Str))=false:=by decide)
 (he:starEach (e::es) X.env=(false,eval e X.env)::starEach es X.env:=by rfl) (hpl:(backTo pos (starEach es X.env)).any (·.1)=false:=by rfl):PE X (.Call (.Name x p) (e::es) [] pos) (Eg r t):=by
 intro pins s σ H Q I h
 refine wpAny_Call_Name_kw (eW I hg hm hv ?_ hn hdb)
 exact PyProof.Rows.callWith_type1 (aF (ha pos pins s σ H _ I h) λus s1 ⟨vs,H1,I1,r1,q1⟩=>hc pins s1 σ H1 vs us Q I1 r1 q1) he hpl
end
end L2
namespace HT
open PySem PyProof.Rows
section
open PySem.SeqAt
open PySem.AutoSeq1 (wpAny_loadPart')
open PySem.MeetsSeq PySem.MeetsSeq2 PySem.MeetsSeq3
end
section
variable {prog:Program}{w:World}{A:Around}{E:Value->Shared->Prop}{s:Shared}
def sIx (n d:Nat):Option Int->Nat
 | none=>d
 | some v=>if v < 0 then (v + (n:Int)).toNat else min v.toNat n
theorem Am (n d:Nat)(hd:d<=n)(o:Option Int):sIx n d o<=n:=by
 cases o with
 | none=>exact hd
 | some v=>
   show (if v < 0 then (v + (n:Int)).toNat else min v.toNat n)<=n
   by_cases hv:v < 0
   ·rw [if_pos hv];omega
   ·rw [if_neg hv];exact Nat.min_le_right _ _
theorem p6 (v:Int)(n d:Nat):(if v < 0 then max (v + (n:Int)) 0 else min v (n:Int))=((sIx n d (some v):Nat):Int):=by
 show (if v < 0 then max (v + (n:Int)) 0 else min v (n:Int))=(((if v < 0 then (v + (n:Int)).toNat else min v.toNat n):Nat):Int)
 by_cases hv:v < 0
 ·simp only [if_pos hv];omega
 ·simp only [if_neg hv];omega
theorem rC (lo hi:Option Int)(n:Nat):Builtin.Slice.sliceAdjust lo hi 1 (n:Int)=(((sIx n 0 lo:Nat):Int),((sIx n n hi:Nat):Int)):=by
 have h1:¬((1:Int) < 0):=by omega
 unfold Builtin.Slice.sliceAdjust
 simp only [h1,if_false]
 refine Prod.ext ?_ ?_
 ·cases lo with
  | none=>rfl
  | some v=>exact p6 v n 0
 ·cases hi with
  | none=>rfl
  | some v=>exact p6 v n n
theorem rp (i j:Nat):Builtin.Slice.slicePlaces (i:Int) (j:Int) 1=j - i:=by
 unfold Builtin.Slice.slicePlaces
 have h1:(1:Int) > 0:=by omega
 simp only [h1,if_true,Int.ediv_one]
 split<;>omega
theorem kZ {v:Value}{o:Option Int}{Q:Option Int->Shared->Prop}(p:IsPart v o)(h:Q o s):wpAny (model prog w) A (Builtin.Slice.slicePartIndex v) Q E s:=by
 cases p with
 | none=>exact slicePart_none h
 | int i t=>exact slicePart_int h
theorem gQ {sl:Addr}{vl vu:Value}{lo hi:Option Int}{n:Nat}{Q:Int×Int×Nat->Shared->Prop}(hs:s.heap.IsSliceOf sl vl vu .none)(pl:IsPart vl lo)(pu:IsPart vu hi)
 (h:Q (((sIx n 0 lo:Nat):Int),1,sIx n n hi - sIx n 0 lo) s):wpAny (model prog w) A (Builtin.Slice.sliceApplied (.ref sl) (pure (n:Int))) Q E s:=by
 obtain ⟨os,hos,hcs,hds⟩:=id hs
 unfold Builtin.Slice.sliceApplied Builtin.Slice.sliceFields
 refine wpAny_bind (wpAny_bind (wpAny_field hos hds (x:=vl) rfl (wpAny_bind (wpAny_field hos hds (x:=vu) rfl (wpAny_bind (wpAny_field hos hds (x:=.none) rfl (wpAny_pure ?_)))))))
 refine wpAny_bind (slicePart_none ?_)
 show wpAny _ _ (if ((1:Int)==0)=true then _ else _) _ _ s
 rw [if_neg (by decide)]
 refine wpAny_bind (kZ pl (wpAny_bind (kZ pu (wpAny_bind (wpAny_pure ?_)))))
 show wpAny _ _ (match Builtin.Slice.sliceAdjust lo hi 1 (n:Int) with | (lo,hi)=>pure (lo,(1:Int),Builtin.Slice.slicePlaces lo hi 1)) _ _ s
 rw [rC lo hi n]
 show wpAny _ _ (pure (((sIx n 0 lo:Nat):Int),(1:Int),Builtin.Slice.slicePlaces ((sIx n 0 lo:Nat):Int) ((sIx n n hi:Nat):Int) 1)) _ _ s
 rw [rp]
 exact wpAny_pure h
theorem vF (xs:Array Value)(i k:Nat):((List.range k).filterMap λ(m:Nat)=>xs[((i:Int) + (m:Int) * 1).toNat]?).toArray=((xs.toList.drop i).take k).toArray:=by
 have e:(λ(m:Nat)=>xs[((i:Int) + (m:Int) * 1).toNat]?)=λm=>xs[i + m]?:=by
  funext m
  have:((i:Int) + (m:Int) * 1).toNat=i + m:=by omega
  rw [this]
 rw [e]
 have:=pick_run xs i k
 rw [List.filterMap_map] at this
 have e2:((λx=>xs[x]?) ∘ λx=>i + x)=λm=>xs[i + m]?:=rfl
 rw [e2] at this
 rw [this]
theorem j6 {t sl:Addr}{items:Array Value}{vl vu:Value}{lo hi:Option Int}{Q:Value->Shared->Prop}(ht:IsTup s.heap t items)(hs:s.heap.IsSliceOf sl vl vu .none)(pl:IsPart vl lo)(pu:IsPart vu hi)
 (hw:¬(sIx items.size 0 lo=0/\sIx items.size items.size hi=items.size))
 (h:Q (.ref s.heap.objs.size) {s with heap:=s.heap.push {cls:=.type "tuple",data:=.seq ((items.toList.drop (sIx items.size 0 lo)).take (sIx items.size items.size hi - sIx items.size 0 lo)).toArray}})
 (hsz:items.size<=sizeLine):wpAny (model prog w) A (getItem (.ref t) (.ref sl)) Q E s:=by
 have htake:sizeOk (.seq ((items.toList.drop (sIx items.size 0 lo)).take (sIx items.size items.size hi - sIx items.size 0 lo)).toArray):=by
  show ((items.toList.drop (sIx items.size 0 lo)).take (sIx items.size items.size hi - sIx items.size 0 lo)).toArray.size<=sizeLine
  rw [List.size_toArray,List.length_take,List.length_drop,Array.length_toList]
  omega
 have hj:sIx items.size items.size hi<=items.size:=Am _ _ (Nat.le_refl _) hi
 obtain ⟨os,hos,hcs,hds⟩:=id hs
 have hTs:s.TypeIs (.ref sl) "slice":=⟨os,hos,hcs⟩
 unfold getItem
 try with_reducible refine wpAny_holding ?_
 first | refine wpAny_bind (wpAny_pure ?_) | skip
 refine wpAny_bind (wpAny_sequenceKey ht.typeIs (by decide) ?_)
 refine wpAny_bind (wpAny_callSpecial?_slot (name:=Str.ofString "__getitem__") ht.typeIs PyProof.Rows.slot_tuple_getitem
  (wpAny_call_entry PyProof.Rows.slot_tuple_getitem ht.typeIs entry_tuple_getitem ?_ (args_tuple_getitem _ _)))
 show wpAny _ _ (Builtin.Tuple.tupleItemsOf (.ref t) >>=_) _ _ s
 refine wpAny_bind (tupleItemsOf_ ht ?_)
 refine wpAny_bind (wpAny_typeOf hTs ?_)
 rw [if_pos (by decide)]
 refine wpAny_bind (gQ hs pl pu ?_)
 have hno:¬((((sIx items.size 0 lo:Nat):Int)==0&&(1:Int)==1&&(sIx items.size items.size hi - sIx items.size 0 lo)==items.size)=true):=by
  intro q
  rw [Bool.and_eq_true,Bool.and_eq_true] at q
  have q1:((sIx items.size 0 lo:Nat):Int)=0:=eq_of_beq q.1.1
  have q2:sIx items.size items.size hi - sIx items.size 0 lo=items.size:=eq_of_beq q.2
  exact hw ⟨by omega,by omega⟩
 show wpAny _ _ (if (((sIx items.size 0 lo:Nat):Int)==0&&(1:Int)==1&&(sIx items.size items.size hi - sIx items.size 0 lo)==items.size)=true then _ else _) _ _ s
 rw [if_neg hno,vF]
 first
  | exact wpAny_bind (m:=Builtin.Tuple.tupleExact _) (wpAny_newObj_type (wpAny_pure ⟨_,rfl,wpAny_pure h⟩) htake)
  | exact wpAny_bind (m:=Builtin.Tuple.tupleExact _) (wpAny_newObj_type (wpAny_bind (wpAny_pure (wpAny_pure ⟨_,rfl,wpAny_pure h⟩))) htake)
  | exact wpAny_bind (wpAny_bind (m:=Builtin.Tuple.tupleExact _) (wpAny_newObj_type (wpAny_pure (wpAny_pure ⟨_,rfl,wpAny_pure h⟩)) htake))
  | exact wpAny_bind (wpAny_bind (m:=Builtin.Tuple.tupleExact _) (wpAny_newObj_type (wpAny_pure ⟨_,rfl,wpAny_pure h⟩) htake))
end
end HT
namespace L2
open PySem PySem.Spec PyProof.Rows
abbrev TO:=St->Hp->(Option Int->Hp->Prop)->Prop
def PO (X:Cx)(e:Option Expr)(t:TO):Prop:=
 ∀(pins:List (Addr×Obj)) (s:Shared) (σ:St) (H:Hp) (Q:Option Int->Hp->Prop),Inv X pins σ H s->t σ H Q->
  wpAny (model X.prog X.w) X.A (evalPart e X.env) (λu s'=>∃o H',Inv X pins σ H' s'/\IsPart u o/\Q o H') X.xe s
def yU:TO:=λ_ H Q=>Q none H
def DE (t:TE):TO:=λσ H Q=>t σ H λx H1=>∃i,x= .int i/\Q (some i) H1
section
variable {X:Cx}{e:Expr}{te:TE}{lo hi:Option Expr}{tl th:TO}{pos p2:Pos}
theorem yF:PO X none yU:=by
 intro pins s σ H Q I h
 rw [evalPart_none]
 exact wpAny_pure ⟨none,H,I,.none,h⟩
theorem y3 (h:PE X e te):PO X (some e) (DE te):=by
 intro pins s σ H Q I hw
 rw [evalPart_some]
 refine aF (h pins s σ H _ I hw) λu s1 ⟨x,H1,I1,r1,q1⟩=>?_
 obtain ⟨i,rfl,q⟩:=q1
 obtain ⟨t,rfl⟩:=r1
 exact ⟨some i,H1,I1,.int i t,q⟩
def uT (X:Cx)(r:V->Option Int->Option Int->Hp->VK->Prop):Prop:=
 ∀(pins:List (Addr×Obj)) (s:Shared) (σ:St) (H:Hp) (x:V) (v vl vu:Value) (lo hi:Option Int) (sl:Addr) (Q:VK),Inv X pins σ H s->RelV x v->s.heap.IsSliceOf sl vl vu .none->IsPart vl lo->IsPart vu hi->r x lo hi H Q->
  ∃T id,typeLookup (.type T) "__getitem__"=pure (some (.builtin id))/\s.TypeIs v T/\wpAny (model X.prog X.w) X.A (getItem v (.ref sl)) (EP X pins σ Q) X.xe s
def tSl (r:V->Option Int->Option Int->Hp->VK->Prop)(te:TE)(tl th:TO):TE:=λσ H Q=>te σ H λx H1=>tl σ H1 λl H2=>th σ H2 λu H3=>r x l u H3 Q
theorem i5 {r:V->Option Int->Option Int->Hp->VK->Prop}(hr:uT X r)(he:PE X e te)(hl:PO X lo tl)(hu:PO X hi th):PE X (.Subscript e (.Slice lo hi none p2) pos) (tSl r te tl th):=by
 intro pins s σ H Q I h
 refine Subscript_ (aF (he pins s σ H _ I h) λv s1 ⟨x,H1,I1,r1,q1⟩=>?_)
 refine wpAny_Slice (aF (hl pins s1 σ H1 _ I1 q1) λvl s2 ⟨l,H2,I2,pl,q2⟩=>aF (hu pins s2 σ H2 _ I2 q2) λvu s3 ⟨u,H3,I3,pu,q3⟩=>?_)
 rw [evalPart_none]
 refine wpAny_pure ?_
 have I4:Inv X pins σ H3 {s3 with heap:=s3.heap.push {cls:=.type "slice",data:=.fields #[vl,vu,.none]}}:=I3.kept (t':=s3.toks) λb ob q=>Heap.get?_push_of_some _ q
 obtain ⟨T,id,hT,ht,hg⟩:=hr pins {s3 with heap:=s3.heap.push {cls:=.type "slice",data:=.fields #[vl,vu,.none]}} σ H3 x v vl vu l u s3.heap.objs.size Q I4 r1 (Heap.IsSliceOf.new ..) pl pu q3
 show wpAny (model X.prog X.w) X.A (subscriptTail e (.Slice lo hi none p2) v (.ref s3.heap.objs.size)) (EP X pins σ Q) X.xe {s3 with heap:=s3.heap.push {cls:=.type "slice",data:=.fields #[vl,vu,.none]}}
 exact tail_any (ops:=[.ref s3.heap.objs.size,v]) ht hT hg (by with_unfolding_all rfl)
def ib (xs:List V)(lo hi:Option Int):List V:=(xs.drop (HT.sIx xs.length 0 lo)).take (HT.sIx xs.length xs.length hi - HT.sIx xs.length 0 lo)
theorem j8 (xs:List V)(lo hi:Option Int):(ib xs lo hi).length<=xs.length:=by
 unfold ib
 rw [List.length_take,List.length_drop]
 omega
def Fz (K:PySem.W.Frag):V->Option Int->Option Int->Hp->VK->Prop:=λx lo hi H Q=>∃a xs,x= .ref a/\cW K H a xs/\
 ¬(HT.sIx xs.length 0 lo=0/\HT.sIx xs.length xs.length hi=xs.length)/\∀p,H p=none->Q (.ref p) (upd H p (.tup (ib xs lo hi)))
theorem Az:uT X (Fz X.K):=by
 intro pins s σ H x v vl vu lo hi sl Q I rx hs pl pu h
 obtain ⟨a,xs,rfl,hx,hw,q⟩:=h
 cases rx
 obtain ⟨its,r,ht,hz⟩:=I.tuple hx
 have hlen:its.toArray.size=xs.length:=by rw [List.size_toArray];exact r.length.symm
 refine ⟨"tuple",_,PyProof.Rows.slot_tuple_getitem.lookup,ht.typeIs,?_⟩
 refine HT.j6 ht hs pl pu (by rw [hlen];exact hw) ?_ (by rw [hlen];exact hz)
 rw [hlen]
 refine ⟨.ref s.heap.objs.size,_,I.laid (t':=s.toks) (o:=.tup (ib xs lo hi)) (λb ob q=>Heap.get?_push_of_some _ q) (Nat.le_refl _) ?_,rfl,q _ (I.hok.fresh (Nat.le_refl _))⟩
 exact ⟨Nat.le_trans (j8 xs lo hi) hz,_,(r.drop (HT.sIx xs.length 0 lo)).take (HT.sIx xs.length xs.length hi - HT.sIx xs.length 0 lo),IsTup.new _ _⟩
end
section
variable {α:Type}
def eJ (n:Nat)(i:Int):Option Nat:=if 0<=i then (if i < n then some i.toNat else none) else if -(n:Int)<=i then some (i + n).toNat else none
def cb (xs:List α)(i:Int):Option α:=(eJ xs.length i).bind λj=>xs[j]?
theorem my {n:Nat}{i:Int}{j:Nat}(h:eJ n i=some j):seqIndex? i n=some j/\j < n/\ -(n:Int)<=i/\i < n:=by
 unfold eJ at h
 by_cases h0:0<=i
 ·rw [if_pos h0] at h
  by_cases h1:i < n
  ·rw [if_pos h1] at h
   have e:i.toNat=j:=Option.some.inj h
   exact ⟨by rw [seqIndex_of h0 h1,e],by omega,by omega,h1⟩
  ·rw [if_neg h1] at h;cases h
 ·rw [if_neg h0] at h
  by_cases h1: -(n:Int)<=i
  ·rw [if_pos h1] at h
   have e:(i + n).toNat=j:=Option.some.inj h
   exact ⟨by rw [seqIndex_neg (by omega) h1,e],by omega,h1,by omega⟩
  ·rw [if_neg h1] at h;cases h
theorem mw {xs:List α}{i:Int}{v:α}(h:cb xs i=some v):∃j,seqIndex? i xs.length=some j/\xs[j]?=some v/\j < xs.length/\ -(xs.length:Int)<=i/\i < xs.length:=by
 unfold cb at h
 cases e:eJ xs.length i with
 | none=>rw [e] at h;cases h
 | some j=>
   rw [e] at h
   obtain ⟨h1,h2,h3,h4⟩:=my e
   exact ⟨j,h1,h,h2,h3,h4⟩
theorem ym {xs:List α}{j:Nat}{v:α}(h:xs[j]?=some v):cb xs (j:Int)=some v:=by
 have hj:j < xs.length:=(List.getElem?_eq_some_iff.mp h).1
 have e:eJ xs.length (j:Int)=some j:=by
  unfold eJ
  rw [if_pos (by omega),if_pos (by omega)];simp
 unfold cb;rw [e];exact h
def dY (b:Expr):Prop:=∀o i,subscripted b false o i=operate [o,i] (getItem o i)
def xI (X:Cx)(r:R2):Prop:=
 ∀(value slice:Expr) (pins:List (Addr×Obj)) (s:Shared) (σ:St) (H:Hp) (x y:V) (v u:Value) (Q:VK),Inv X pins σ H s->RelV x v->RelV y u->r x y H Q->
  subscripted slice false v u=operate [v,u] (getItem v u)->wpAny (model X.prog X.w) X.A (subscriptTail value slice v u) (EP X pins σ Q) X.xe s
def uE (X:Cx)(id:String)(r:V->List V->Hp->VK->Prop):Prop:=
 ∀(pins:List (Addr×Obj)) (s:Shared) (σ:St) (H:Hp) (x:V) (xs:List V) (v:Value) (us:List Value) (Q:VK),Inv X pins σ H s->RelV x v->Vals xs us->r x xs H Q->
  wpAny (model X.prog X.w) X.A (call (.builtin id) (v::us)) (EP X pins σ Q) X.xe s
end
section
variable {X:Cx}{a b:Expr}{ta tb:TE}{pos:Pos}
theorem hJ {r:R2}(hr:xI X r)(ha:PE X a ta)(hb:PE X b tb)(hs:dY b):PE X (.Subscript a b pos) (wW r ta tb):=by
 intro pins s σ H Q I h
 exact Subscript_ (vg ha hb I h λv u s2 x y H2 I2 rx ry q=>hr a b pins s2 σ H2 x y v u Q I2 rx ry q (hs _ _))
def FY (K:PySem.W.Frag):R2:=λx y H Q=>∃p xs i v,x= .ref p/\y= .int i/\aM K H p xs/\cb xs i=some v/\Q v H
def FF (K:PySem.W.Frag):R2:=λx y H Q=>∃p xs i v,x= .ref p/\y= .int i/\cW K H p xs/\cb xs i=some v/\Q v H
def E9:R2:=λx y H Q=>∃z i c,x= .str z/\y= .int i/\z.length<=sizeLine/\cb z.cps.toList i=some c/\Q (.str ⟨#[c]⟩) H
theorem gB:xI X (FY X.K):=by
 intro value slice pins s σ H x y v u Q I rx ry h hs
 obtain ⟨p,xs,i,z,rfl,rfl,hq,he,q⟩:=h
 cases rx
 obtain ⟨t,rfl⟩:=ry
 obtain ⟨its,r,pl,hz⟩:=I.list hq
 obtain ⟨j,h1,h2,h3,h4,h5⟩:=mw he
 obtain ⟨w,ew,rw'⟩:=r.get h2
 have hl:=r.length
 have hn:=gY
 have fin:EP X pins σ Q w s:=⟨z,H,I,rw',q⟩
 by_cases h0:0<=i
 ·have hj:i.toNat=j:=by
   rw [seqIndex_of h0 h5] at h1
   exact Option.some.inj h1
  exact item_listR pl.isList h0 (by omega) (by rw [hj];simpa using ew) fin hs
 ·have hj:(i + (its.toArray.size:Int)).toNat=j:=by
   rw [seqIndex_neg (by omega) h4] at h1
   rw [List.size_toArray,← hl]
   exact Option.some.inj h1
  exact subscriptTail_builtinR (x:=w) pl.isList.typeIs slot_list_getitem.lookup
   (wpAny_getItem_list_neg (Q:=λr s'=>r=w/\EP X pins σ Q r s') pl.isList (by omega) (by rw [List.size_toArray]<;>omega) (by omega) (by rw [hj];simpa using ew) ⟨rfl,fin⟩) hs
theorem A1:xI X (FF X.K):=by
 intro value slice pins s σ H x y v u Q I rx ry h hs
 obtain ⟨p,xs,i,z,rfl,rfl,hq,he,q⟩:=h
 cases rx
 obtain ⟨t,rfl⟩:=ry
 obtain ⟨its,r,pl,hz⟩:=I.tuple hq
 obtain ⟨j,h1,h2,h3,h4,h5⟩:=mw he
 obtain ⟨w,ew,rw'⟩:=r.get h2
 have hl:=r.length
 have hn:=gY
 have fin:EP X pins σ Q w s:=⟨z,H,I,rw',q⟩
 exact subscriptTail_builtinR (x:=w) pl.typeIs slot_tuple_getitem.lookup
  (getItem_tuple (j:=j) (Q:=λr s'=>r=w/\EP X pins σ Q r s') pl (by omega) (by omega) (by rw [List.size_toArray,← hl];exact h1) (by simpa using ew) ⟨rfl,fin⟩) hs
theorem zX:xI X E9:=by
 intro value slice pins s σ H x y v u Q I rx ry h hs
 obtain ⟨z,i,c,rfl,rfl,hz,he,q⟩:=h
 obtain ⟨t,rfl⟩:=rx
 obtain ⟨t',rfl⟩:=ry
 obtain ⟨j,h1,h2,h3,h4,h5⟩:=mw he
 have hl:z.cps.toList.length=z.length:=by simp [Str.length]
 rw [hl] at h1 h4 h5
 have hn:=gY
 exact tail_any (typeIs_str s z t) slot_str_getitem.lookup (getItem_str (c:=c) (by
  have e1:decide (i < -(2 ^ 63:Int))=false:=decide_eq_false (by omega)
  have e2:decide (i≥2 ^ 63)=false:=decide_eq_false (by omega)
  rw [e1,e2,Bool.or_false]) (by rw [h1];simpa using h2) ⟨.str ⟨#[c]⟩,H,I.tok _,⟨_,rfl⟩,q⟩) hs
theorem rB (its:List Value)(n j:Nat)(u:Value):Obj.mapSeq (·.setIfInBounds j u) {cls:=.type "list",data:=.seq its.toArray n}={cls:=.type "list",data:=.seq (its.set j u).toArray n}:=by
 simp [Obj.mapSeq]
theorem Inv.lst {pins:List (Addr×Obj)}{σ:St}{H:Hp}{s:Shared}{p:Addr}{xs:List V}(I:Inv X pins σ H s)(h:H p=some (.lst xs)):
 ∃(its:List Value) (n:Nat),Vals xs its/\s.heap.get? p=some {cls:=.type "list",data:=.seq its.toArray n}/\xs.length<=sizeLine:=by
 obtain ⟨z,its,n,r,e⟩:=I.hok p _ h
 exact ⟨its,n,r,e,z⟩
theorem Inv.AX {pins:List (Addr×Obj)}{σ:St}{H:Hp}{s:Shared}{p:Addr}{xs ys:List V}{its its':List Value}{n n':Nat}{f:Obj->Obj}(I:Inv X pins σ H s)(h:H p=some (.lst xs))
 (ho:s.heap.get? p=some {cls:=.type "list",data:=.seq its.toArray n}) (hf:f {cls:=.type "list",data:=.seq its.toArray n}={cls:=.type "list",data:=.seq its'.toArray n'}) (r:Vals ys its') (hz:ys.length<=sizeLine) (t:Nat):
 Inv X pins σ (upd H p (.lst ys)) {s with heap:=s.heap.update p f,toks:=t}:=by
 have e:(s.heap.update p f).get? p=some {cls:=.type "list",data:=.seq its'.toArray n'}:=by
  rw [Heap.get?_update_self f ho (by rw [hf]<;>rfl),hf]
 refine I.write (x:=p) (e:=p) (by rw [h];trivial) (.inl rfl) (λb u hb q=>(Heap.get?_update_other _ _ (Ne.symm hb)).trans q) ⟨_,e⟩ ?_
 exact ⟨hz,its',n',r,e⟩
def Dk:V->V->V->Hp->(Hp->Prop)->Prop:=λo i v H Q=>∃p xs k j,o= .ref p/\i= .int k/\H p=some (.lst xs)/\eJ xs.length k=some j/\Q (upd H p (.lst (xs.set j v)))
theorem set_list:BQ X Dk:=by
 intro pins s σ H o i v ov iv u Q I ro ri rv h
 obtain ⟨p,xs,k,j,rfl,rfl,hp,hj,q⟩:=h
 cases ro
 obtain ⟨t,rfl⟩:=ri
 obtain ⟨its,n,r,ho,hz⟩:=I.lst hp
 obtain ⟨h1,h2,h3,h4⟩:=my hj
 have hl:=r.length
 have hn:=gY
 have I':Inv X pins σ (upd H p (.lst (xs.set j v))) {s with heap:=s.heap.update p (Obj.mapSeq (·.setIfInBounds j u))}:=
  I.AX hp ho (rB its n j u) (r.set rv j) (by rw [List.length_set];exact hz) s.toks
 by_cases h0:0<=k
 ·have hk:k.toNat=j:=by
   rw [seqIndex_of h0 h4] at h1
   exact Option.some.inj h1
  exact PySem.W.ki_setAt ho h0 (by omega) (by rw [List.size_toArray,← hl];exact h4) (by rw [hk];exact ⟨_,I',q⟩)
 ·have hk:(k + (its.toArray.size:Int)).toNat=j:=by
   rw [seqIndex_neg (by omega) h3] at h1
   rw [List.size_toArray,← hl]
   exact Option.some.inj h1
  exact PySem.W.ki_setBack ho (by omega) (by rw [List.size_toArray,← hl];exact h3) (by omega) (by rw [hk];exact ⟨_,I',q⟩)
theorem nP (lo hi:Option Int)(n:Nat):(sliceBounds lo hi none n).1=((HT.sIx n 0 lo:Nat):Int)/\(sliceBounds lo hi none n).2.1=((HT.sIx n n hi:Nat):Int)/\(sliceBounds lo hi none n).2.2=1:=by
 refine ⟨?_,?_,rfl⟩
 ·cases lo with
  | none=>simp [sliceBounds,HT.sIx]
  | some i=>
    simp only [sliceBounds,HT.sIx,Option.getD_none,show (1:Int) > 0 by decide,if_true]
    by_cases h:i < 0
    ·simp only [h,if_true]<;>omega
    ·simp only [h,if_false]<;>omega
 ·cases hi with
  | none=>simp [sliceBounds,HT.sIx]
  | some i=>
    simp only [sliceBounds,HT.sIx,Option.getD_none,show (1:Int) > 0 by decide,if_true]
    by_cases h:i < 0
    ·simp only [h,if_true]<;>omega
    ·simp only [h,if_false]<;>omega
theorem m9 (its:List Value)(lo hi:Option Int):slicePick its.toArray lo hi none=((its.drop (HT.sIx its.length 0 lo)).take (HT.sIx its.length its.length hi - HT.sIx its.length 0 lo)).toArray:=by
 obtain ⟨h1,h2,h3⟩:=nP lo hi its.toArray.size
 unfold slicePick
 rw [h1,h2,h3]
 simp only [sliceRange_one,pick_run,List.size_toArray]<;>rfl
def FZ (K:PySem.W.Frag):V->Option Int->Option Int->Hp->VK->Prop:=λx lo hi H Q=>∃a xs,x= .ref a/\aM K H a xs/\∀p,H p=none->Q (.ref p) (upd H p (.lst (ib xs lo hi)))
theorem yS:uT X (FZ X.K):=by
 intro pins s σ H x v vl vu lo hi sl Q I rx hs pl pu h
 obtain ⟨a,xs,rfl,hx,q⟩:=h
 cases rx
 obtain ⟨its,r,ht,hz⟩:=I.list hx
 have hlen:=r.length
 refine ⟨"list",_,slot_list_getitem.lookup,ht.isList.typeIs,?_⟩
 refine wpAny_getItem_list_slice ht.isList hs pl pu .none (by simp) ?_ (by rw [List.size_toArray]<;>omega)
 rw [m9,← hlen]
 refine ⟨.ref s.heap.objs.size,_,I.laid (t':=s.toks) (o:=.lst (ib xs lo hi)) (λb ob q=>Heap.get?_push_of_some _ q) (Nat.le_refl _) ?_,rfl,q _ (I.hok.fresh (Nat.le_refl _))⟩
 exact ⟨Nat.le_trans (j8 xs lo hi) hz,_,0,(r.drop (HT.sIx xs.length 0 lo)).take (HT.sIx xs.length xs.length hi - HT.sIx xs.length 0 lo),Heap.get?_push_size _ rfl⟩
def gm:V->Bool
 | .non=>true
 | .bl _=>true
 | .int _=>true
 | .str _=>true
 | _=>false
def kX:V->V->Bool
 | .non,.non=>true
 | .bl a,.bl b=>a==b
 | .bl a,.int b=>(if a then 1 else 0)==b
 | .int a,.bl b=>a==(if b then 1 else 0)
 | .int a,.int b=>a==b
 | .str a,.str b=>a==b
 | _,_=>false
theorem AM {A:Around}{s:Shared}{y x:V}{u v:Value}(ry:RelV y u)(rx:RelV x v)(fy:gm y=true)(fx:gm x=true):SeqAt.EqAt A s u v (kX y x):=by
 cases y with
 | non=>
   cases ry
   cases x with
   | non=>cases rx;exact SeqAt.EqAt.same _
   | bl b=>cases rx;exact SeqAt.EqAt.none_bool b
   | int b=>obtain ⟨t,rfl⟩:=rx;exact SeqAt.EqAt.none_int b t
   | str b=>obtain ⟨t,rfl⟩:=rx;exact SeqAt.EqAt.none_str b t
   | _=>exact absurd (show false=true from fx) Bool.false_ne_true
 | bl a=>
   cases ry
   cases x with
   | non=>cases rx;exact SeqAt.EqAt.bool_none a
   | bl b=>cases rx;exact SeqAt.EqAt.bool_bool a b
   | int b=>obtain ⟨t,rfl⟩:=rx;exact SeqAt.EqAt.bool_int a b t
   | str b=>obtain ⟨t,rfl⟩:=rx;exact SeqAt.EqAt.bool_str a b t
   | _=>exact absurd (show false=true from fx) Bool.false_ne_true
 | int a=>
   obtain ⟨t',rfl⟩:=ry
   cases x with
   | non=>cases rx;exact SeqAt.EqAt.int_none a t'
   | bl b=>cases rx;exact SeqAt.EqAt.int_bool a t' b
   | int b=>obtain ⟨t,rfl⟩:=rx;exact SeqAt.EqAt.int_int a t' b t
   | str b=>obtain ⟨t,rfl⟩:=rx;exact SeqAt.EqAt.int_str a t' b t
   | _=>exact absurd (show false=true from fx) Bool.false_ne_true
 | str a=>
   obtain ⟨t',rfl⟩:=ry
   cases x with
   | non=>cases rx;exact SeqAt.EqAt.str_none a t'
   | bl b=>cases rx;exact SeqAt.EqAt.str_bool a t' b
   | int b=>obtain ⟨t,rfl⟩:=rx;exact SeqAt.EqAt.str_int a t' b t
   | str b=>obtain ⟨t,rfl⟩:=rx;exact SeqAt.EqAt.str_str a t' b t
   | _=>exact absurd (show false=true from fx) Bool.false_ne_true
 | _=>exact absurd (show false=true from fy) Bool.false_ne_true
def gZ (x:V)(u:Value):Bool:=match u with
 | .none=>kX .non x
 | .bool b=>kX (.bl b) x
 | .int i _=>kX (.int i) x
 | .str z _=>kX (.str z) x
 | _=>false
theorem ui {x y:V}{u:Value}(r:RelV y u)(f:gm y=true):gZ x u=kX y x:=by
 cases y with
 | non=>cases r;rfl
 | bl b=>cases r;rfl
 | int i=>obtain ⟨t,rfl⟩:=r;rfl
 | str z=>obtain ⟨t,rfl⟩:=r;rfl
 | _=>exact absurd (show false=true from f) Bool.false_ne_true
theorem ij {x:V}:∀{xs:List V} {us:List Value},Vals xs us->xs.all gm=true->us.any (gZ x)=xs.any λy=>kX y x
 | _,_,.nil,_=>rfl
 | y::xs,u::us,.cons r t,f=>by
   rw [List.all_cons,Bool.and_eq_true] at f
   rw [List.any_cons,List.any_cons,ui r f.1,ij t f.2]
theorem gL {A:Around}{s:Shared}{x:V}{v:Value}(rx:RelV x v)(fx:gm x=true):∀{xs:List V} {us:List Value},Vals xs us->xs.all gm=true->∀u∈us,SeqAt.EqAt A s u v (gZ x u)
 | _,_,.nil,_=>λu hu=>by cases hu
 | y::xs,u::us,.cons r t,f=>λu' hu=>by
   rw [List.all_cons,Bool.and_eq_true] at f
   rcases List.mem_cons.mp hu with rfl | hu
   ·rw [ui r f.1];exact AM r rx f.1 fx
   ·exact gL rx fx t f.2 u' hu
def xP (x:V)(xs:List V):Bool:=xs.any λy=>kX y x
def ET (K:PySem.W.Frag)(neg:Bool):R2:=λx y H Q=>∃p xs,y= .ref p/\(aM K H p xs∨cW K H p xs)/\gm x=true/\xs.all gm=true/\Q (.bl (if neg then !xP x xs else xP x xs)) H
theorem mF:cS X (compareOp .In) (ET X.K false):=by
 intro pins s σ H x y v u Q I rx ry h
 obtain ⟨p,xs,rfl,hq,fx,fs,q⟩:=h
 cases ry
 rcases hq with hq | hq
 ·obtain ⟨its,r,pl,hz⟩:=I.list hq
  refine SeqAt.in_listAt (gZ x) pl.isList (λw hw=>gL rx fx r fs w (by simpa using hw)) ⟨.bl _,H,I,rfl,?_⟩
  rw [show its.toArray.any (gZ x)=its.any (gZ x) by simp,ij r fs]
  exact q
 ·obtain ⟨its,r,pl,hz⟩:=I.tuple hq
  refine SeqAt.in_tupleAt (gZ x) pl (λw hw=>gL rx fx r fs w (by simpa using hw)) ⟨.bl _,H,I,rfl,?_⟩
  rw [show its.toArray.any (gZ x)=its.any (gZ x) by simp,ij r fs]
  exact q
theorem nM:cS X (compareOp .NotIn) (ET X.K true):=by
 intro pins s σ H x y v u Q I rx ry h
 obtain ⟨p,xs,rfl,hq,fx,fs,q⟩:=h
 cases ry
 rcases hq with hq | hq
 ·obtain ⟨its,r,pl,hz⟩:=I.list hq
  refine SeqAt.notIn_listAt (gZ x) pl.isList (λw hw=>gL rx fx r fs w (by simpa using hw)) ⟨.bl _,H,I,rfl,?_⟩
  rw [show its.toArray.any (gZ x)=its.any (gZ x) by simp,ij r fs]
  exact q
 ·obtain ⟨its,r,pl,hz⟩:=I.tuple hq
  refine SeqAt.notIn_tupleAt (gZ x) pl (λw hw=>gL rx fx r fs w (by simpa using hw)) ⟨.bl _,H,I,rfl,?_⟩
  rw [show its.toArray.any (gZ x)=its.any (gZ x) by simp,ij r fs]
  exact q
theorem eV:dX X (.builtin "len") (λxs H Q=>∃p ys,xs=[.ref p]/\(aM X.K H p ys∨cW X.K H p ys)/\Q (.int ys.length) H):=by
 intro pins s σ H xs us Q I r h
 obtain ⟨p,ys,rfl,hq,q⟩:=h
 obtain ⟨u,rfl,rx⟩:=vals1 r
 cases rx
 have hn:=gY
 rcases hq with hq | hq
 ·obtain ⟨its,r',pl,hz⟩:=I.list hq
  have hlen:=r'.length
  exact Calls.call_len_list pl.isList (by simp only [List.size_toArray]<;>omega) ⟨.int ys.length,H,I.tok _,⟨s.toks + 1,by rw [List.size_toArray,hlen]⟩,q⟩
 ·obtain ⟨its,r',pl,hz⟩:=I.tuple hq
  have hlen:=r'.length
  exact len_tuple pl (by simp only [List.size_toArray]<;>omega) ⟨.int ys.length,H,I.tok _,⟨s.toks + 1,by rw [List.size_toArray,hlen]⟩,q⟩
theorem oB:dX X (.builtin "len") (λxs H Q=>∃z,xs=[.str z]/\z.length<=sizeLine/\Q (.int z.length) H):=by
 intro pins s σ H xs us Q I r h
 obtain ⟨z,rfl,hz,q⟩:=h
 obtain ⟨u,rfl,t,rfl⟩:=vals1 r
 have hn:=gY
 exact len_str (by omega) ⟨.int z.length,H,I.tok _,⟨_,rfl⟩,q⟩
def BB (K:PySem.W.Frag)(T:String)(x:V)(H:Hp):Prop:=match x with
 | .str _=>T="str"
 | .int _=>T="int"
 | .ref p=>(T="list"/\∃xs,aM K H p xs)∨(T="tuple"/\∃o,K.lookup p=some o/\o.cls= .type "tuple"/\o.dict=none)∨
  (T="dict"/\((∃kvs,H p=some (.dK kvs))∨∃kvs,H p=some (.dT kvs)))∨(T="set"/\∃S n,H p=some (.set S n))
 | _=>False
theorem uU {pins:List (Addr×Obj)}{σ:St}{H:Hp}{s:Shared}{T:String}{x:V}{v:Value}(I:Inv X pins σ H s)(r:RelV x v)(ty:BB X.K T x H):
 s.TypeIs v T/\∀a,v= .ref a->∃ob,s.heap.get? a=some ob/\ob.dict=none:=by
 cases x with
 | str z=>
   obtain ⟨t,rfl⟩:=r
   cases (show T="str" from ty)
   exact ⟨typeIs_str s z t,λ_ e=>nomatch e⟩
 | int i=>
   obtain ⟨t,rfl⟩:=r
   cases (show T="int" from ty)
   exact ⟨typeIs_int s i t,λ_ e=>nomatch e⟩
 | ref p=>
   cases r
   rcases ty with ⟨rfl,xs,hq⟩ | ⟨rfl,o,hk,hc,hd⟩ | ⟨rfl,hk⟩ | ⟨rfl,S,n,hk⟩
   ·obtain ⟨its,_,pl,_⟩:=I.list hq
    refine ⟨pl.isList.typeIs,λa e=>?_⟩
    cases e
    obtain ⟨o,n,e,c,hd,_⟩:=pl
    exact ⟨o,e,hd⟩
   ·refine ⟨⟨o,I.g7 p o hk,hc⟩,λa e=>?_⟩
    cases e
    exact ⟨o,I.g7 _ o hk,hd⟩
   ·have z:∃o,s.heap.get? p=some o/\o.ExactDict:=by
     rcases hk with ⟨kvs,hk⟩ | ⟨kvs,hk⟩
     ·obtain ⟨_,_,_,_,o,_,_,e,ex,_⟩:=I.hok p _ hk
      exact ⟨o,e,ex⟩
     ·obtain ⟨_,_,_,_,o,_,_,e,ex,_⟩:=I.hok p _ hk
      exact ⟨o,e,ex⟩
    obtain ⟨o,e,ex⟩:=z
    refine ⟨⟨o,e,ex.1⟩,λa e2=>?_⟩
    cases e2
    exact ⟨o,e,ex.2.1⟩
   ·obtain ⟨o,_,_,_,e,ex,_⟩:=I.hok p _ hk
    refine ⟨⟨o,e,ex.1⟩,λa e2=>?_⟩
    cases e2
    exact ⟨o,e,ex.2.1⟩
 | _=>exact False.elim ty
def FK (K:PySem.W.Frag)(T:String)(r:V->List V->Hp->VK->Prop)(to:TE):TE:=λσ H Q=>to σ H λx H1=>BB K T x H1/\r x [] H1 Q
def tBM (K:PySem.W.Frag)(T:String)(r:V->List V->Hp->VK->Prop)(to:TE)(t:TA):TE:=λσ H Q=>to σ H λx H1=>BB K T x H1/\t σ H1 λxs H2=>r x xs H2 Q
variable {o e:Expr}{es:List Expr}{to:TE}{t:TA}{name:Str}{apos cpos:Pos}{T id:String}{r:V->List V->Hp->VK->Prop}
theorem BF (pa:PlainAttrs T)(slot:Slot T name id)(hty:typeOf (.builtin id)=pure (.type "method_descriptor"))(hm:uE X id r)(ho:PE X o to)
 (hbase:attributeBase o name X.env (eval o X.env)=eval o X.env:=by rfl) (hline:(apos.endLine==cpos.line)=true:=by rfl):PE X (.Call (.Attribute o name apos) [] [] cpos) (FK X.K T r to):=by
 intro pins s σ H Q I h
 refine wpAny_Call_method0_late hbase hline (aF (ho pins s σ H _ I h) λv s1 ⟨x,H1,I1,r1,ty,q1⟩=>?_)
 obtain ⟨h1,h2⟩:=uU I1 r1 ty
 exact ⟨T,id,pa,slot,hty,h1,h2,Calls.callWith_builtin rfl (PySem.evalArgs_none (hm pins s1 σ H1 x [] v [] Q I1 r1 .nil q1))⟩
theorem iT (pa:PlainAttrs T)(slot:Slot T name id)(hty:typeOf (.builtin id)=pure (.type "method_descriptor"))(hm:uE X id r)(ho:PE X o to)(ha:PA X (e::es) t)
 (hbase:attributeBase o name X.env (eval o X.env)=eval o X.env:=by rfl)
 (hfew:((backTo cpos (starEach (e::es) X.env)).all (λx=> !x.1)&&(backToKw cpos (keywordEach [] X.env)).all (λx=>x.1.isSome)
  &&decide ((e::es).length + ([]:List Keyword).length + (if ([]:List Keyword).isEmpty then 0 else 1) < 30))=true:=by rfl)
 (hline:(apos.endLine==cpos.line)=true:=by rfl) (hs:starEach (e::es) X.env=(false,eval e X.env)::starEach es X.env:=by rfl) (hplain:(backTo cpos (starEach es X.env)).any (·.1)=false:=by rfl):
 PE X (.Call (.Attribute o name apos) (e::es) [] cpos) (tBM X.K T r to t):=by
 intro pins s σ H Q I h
 refine wpAny_Call_method_late hbase hfew hline rfl (aF (ho pins s σ H _ I h) λv s1 ⟨x,H1,I1,r1,ty,q1⟩=>?_)
 obtain ⟨h1,h2⟩:=uU I1 r1 ty
 refine ⟨T,id,pa,slot,hty,h1,h2,?_⟩
 have hA:=ha cpos pins s1 σ H1 _ I1 q1
 rw [hs] at hA ⊢
 refine Calls.callWith_builtin (by show (false ||(backTo cpos (starEach es X.env)).any (·.1))=false;rw [hplain]<;>rfl) (Calls.evalArgs_plain ?_)
 exact aF hA λus s2 ⟨vs,H2,I2,r2,q2⟩=>hm pins s2 σ H2 x vs v us Q I2 r1 r2 q2
end
def xM (X:Cx)(id:String)(r:V->List V->Hp->VK->Prop):Prop:=
 ∀(pins:List (Addr×Obj)) (s:Shared) (σ:St) (H:Hp) (x:V) (xs:List V) (v:Value) (us:List Value) (Q:VK),Inv X pins σ H s->RelV x v->Vals xs us->r x xs H Q->
  wpAny (model X.prog X.w) X.A (call (.builtin id) (v::us)) (EP X pins σ Q) X.xe s
theorem Vals.one:∀{x:V} {us:List Value},Vals [x] us->∃u,us=[u]/\RelV x u
 | _,_,.cons r .nil=>⟨_,rfl,r⟩
theorem Vals.zero:∀{us:List Value},Vals [] us->us=[]
 | _,.nil=>rfl
theorem Vals.dropLast {xs:List V}{us:List Value}(h:Vals xs us):Vals xs.dropLast us.dropLast:=by
 induction h with
 | nil=>exact .nil
 | cons r t ih=>
   cases t with
   | nil=>exact .nil
   | cons q t'=>exact .cons r ih
theorem rG {α:Type}(l:List α):l.eraseIdx (l.length - 1)=l.dropLast:=by
 induction l with
 | nil=>rfl
 | cons a r ih=>
   cases r with
   | nil=>rfl
   | cons b r=>
     have e:(a::b::r).length - 1=((b::r).length - 1) + 1:=by
      have h1:(a::b::r).length=r.length + 2:=rfl
      have h2:(b::r).length=r.length + 1:=rfl
      omega
     rw [e,List.eraseIdx_cons_succ,ih]
     all_goals rfl
section
variable {X:Cx}{pins:List (Addr×Obj)}{σ:St}{H:Hp}{s:Shared}{l b:Addr}{xs ys zs:List V}
theorem Inv.su {its its':List Value}{n:Nat}{f:Array Value->Array Value}{t':Nat}(I:Inv X pins σ H s)(hH:H l=some (.lst xs))
 (e:s.heap.get? l=some {cls:=.type "list",data:=.seq its.toArray n}) (hf:f its.toArray=its'.toArray) (hv:Vals ys its') (hz:ys.length<=sizeLine):
 Inv X pins σ (upd H l (.lst ys)) {s with heap:=s.heap.update l (Obj.mapSeq f),toks:=t'}:=by
 have q:=PySem.IsL.update e f
 rw [hf] at q
 refine I.write (x:=l) (e:=l) (by rw [hH];exact trivial) (.inl rfl) (λb' u hb hu=>(Heap.get?_update_other s.heap (Obj.mapSeq f) (Ne.symm hb)).trans hu) ⟨_,q⟩ ?_
 exact ⟨hz,its',_,hv,q⟩
theorem Inv.Fu {its:List Value}{t':Nat}(I:Inv X pins σ H s)(hv:Vals ys its)(hz:ys.length<=sizeLine):
 Inv X pins σ (upd H s.heap.objs.size (.lst ys)) {s with heap:=s.heap.push {cls:=.type "list",data:=.seq its.toArray},toks:=t'}:=
 I.laid (λ_ _ q=>Heap.get?_push_of_some _ q) (Nat.le_refl _) ⟨hz,its,0,hv,Heap.get?_push_size _ rfl⟩
theorem Inv.fresh (I:Inv X pins σ H s):H s.heap.objs.size=none:=I.hok.fresh (Nat.le_refl _)
theorem Inv.jD (I:Inv X pins σ H s)(hH:H l=some (.lst xs)):xs.length<=sizeLine/\∃(its:List Value) (n:Nat),Vals xs its/\xs.length=its.length/\s.heap.get? l=some {cls:=.type "list",data:=.seq its.toArray n}:=by
 obtain ⟨z,its,n,r,e⟩:=I.hok l _ hH
 exact ⟨z,its,n,r,r.length,e⟩
theorem vY {n:Nat}(h:n<=sizeLine):Builtin.List.listTooLong n=false:=by
 unfold Builtin.List.listTooLong
 exact decide_eq_false (by omega)
end
section
variable {X:Cx}
def x9:V->List V->Hp->VK->Prop:=λx vs H Q=>∃l xs y,x= .ref l/\vs=[y]/\H l=some (.lst xs)/\xs.length < sizeLine/\Q .non (upd H l (.lst (xs++[y])))
theorem mH:xM X "list.append" x9:=by
 intro pins s σ H x vs v us Q I rx rv h
 obtain ⟨l,xs,y,rfl,rfl,hH,hz,q⟩:=h
 cases rx
 obtain ⟨u,rfl,ru⟩:=rv.one
 obtain ⟨z,its,n,r,hl,e⟩:=I.jD hH
 refine call_meets F.slot_list_append ⟨_,e,rfl⟩ F.entry_list_append (F.args_list_append_2 _ _) (PySem.list_append l its.toArray n u (by rw [List.size_toArray];omega)) ⟨e,?_⟩
 refine ⟨.non,_,I.su (its':=its++[u]) hH e (by simp) (r.append (.cons ru .nil)) ?_,rfl,q⟩
 rw [List.length_append,List.length_singleton]
 omega
def yR:V->List V->Hp->VK->Prop:=λx vs H Q=>∃l b xs zs,x= .ref l/\vs=[.ref b]/\H l=some (.lst xs)/\H b=some (.lst zs)/\xs.length + zs.length<=sizeLine/\Q .non (upd H l (.lst (xs++zs)))
theorem sL:xM X "list.extend" yR:=by
 intro pins s σ H x vs v us Q I rx rv h
 obtain ⟨l,b,xs,zs,rfl,rfl,hH,hB,hz,q⟩:=h
 cases rx
 obtain ⟨u,rfl,ru⟩:=rv.one
 cases ru
 obtain ⟨z,its,n,r,hl,e⟩:=I.jD hH
 obtain ⟨z2,its2,n2,r2,hl2,e2⟩:=I.jD hB
 have hsz:its.toArray.size + its2.toArray.size<=sizeLine:=by rw [List.size_toArray,List.size_toArray];omega
 have hlong:¬(!its.toArray.isEmpty&&Builtin.List.listTooLong (its.toArray.size + its2.toArray.size))=true:=by
  rw [vY hsz,Bool.and_false]
  exact Bool.false_ne_true
 refine call_meets F.slot_list_extend ⟨_,e,rfl⟩ F.entry_list_extend (F.args_list_extend_2 _ _)
  (AutoSeq1.list_extend_list_list_0 l its.toArray n b its2.toArray n2 hlong (by rw [List.size_toArray];omega) (by omega)) ⟨e,e2,?_⟩
 refine ⟨.non,_,I.su (its':=its++its2) hH e (by simp) (r.append r2) ?_,rfl,q⟩
 rw [List.length_append]
 omega
def Fy:V->List V->Hp->VK->Prop:=λx vs H Q=>∃l xs y,x= .ref l/\vs=[]/\H l=some (.lst xs)/\xs[xs.length - 1]?=some y/\Q y (upd H l (.lst xs.dropLast))
theorem Ah:xM X "list.pop" Fy:=by
 intro pins s σ H x vs v us Q I rx rv h
 obtain ⟨l,xs,y,rfl,rfl,hH,hy,q⟩:=h
 cases rx
 have hus:=rv.zero
 subst hus
 obtain ⟨z,its,n,r,hl,e⟩:=I.jD hH
 obtain ⟨u,hu,ru⟩:=r.get hy
 have hy':its.toArray[its.toArray.size - 1]?=some u:=by
  show its.toArray[its.length - 1]?=some u
  rw [← Array.getElem?_toList,← hl]
  exact hu
 refine call_meets F.slot_list_pop ⟨_,e,rfl⟩ F.entry_list_pop (F.args_list_pop_1 _) (MeetsSeq.list_pop_last l its.toArray n u hy' (by rw [List.size_toArray];omega)) ⟨e,?_⟩
 refine ⟨y,_,I.su (its':=its.dropLast) hH e ?_ r.dropLast ?_,ru,q⟩
 ·show its.toArray.eraseIdxIfInBounds (its.toArray.size - 1)=its.dropLast.toArray
  rw [List.size_toArray,List.eraseIdxIfInBounds_toArray,rG]
 ·rw [List.length_dropLast]
  omega
def F5:R2:=λx y H Q=>∃l b xs zs,x= .ref l/\y= .ref b/\H l=some (.lst xs)/\H b=some (.lst zs)/\xs.length + zs.length<=sizeLine/\∀p,H p=none->Q (.ref p) (upd H p (.lst (xs++zs)))
theorem AL:cS X (binaryOp .Add) F5:=by
 intro pins s σ H x y v u Q I rx ry h
 obtain ⟨l,b,xs,zs,rfl,rfl,hH,hB,hz,q⟩:=h
 cases rx
 cases ry
 obtain ⟨z,its,n,r,hl,e⟩:=I.jD hH
 obtain ⟨z2,its2,n2,r2,hl2,e2⟩:=I.jD hB
 refine PySem.P.add_list e e2 ?_ (by rw [List.size_toArray,List.size_toArray];omega)
 have ea:its.toArray++its2.toArray=(its++its2).toArray:=by simp
 rw [ea]
 exact ⟨.ref _,_,I.Fu (t':=s.toks) (r.append r2) (by rw [List.length_append];omega),rfl,q _ I.fresh⟩
end
section
variable {prog:Program}{w:World}{A:Around}{E:Value->Shared->Prop}{s:Shared}
end
section
variable {X:Cx}
end
section
variable {κ:Type} [DecidableEq κ]
variable {kvs:List (κ×V)}{vs:List (κ×Value)}
def b0 (kvs:List (κ×V))(k:κ):Option V:=(kvs.find? λkv=>decide (kv.1=k)).map (·.2)
def putK (kvs:List (κ×V))(k:κ)(v:V):List (κ×V):=
 if (kvs.any λkv=>decide (kv.1=k))=true then kvs.map (λkv=>if kv.1=k then (kv.1,v) else kv) else kvs++[(k,v)]
theorem cD {p:κ×V}{r:List (κ×V)}{k:κ}(e:p.1=k):b0 (p::r) k=some p.2:=by simp [b0,List.find?_cons,e]
theorem ck {p:κ×V}{r:List (κ×V)}{k:κ}(e:¬p.1=k):b0 (p::r) k=b0 r k:=by simp [b0,List.find?_cons,e]
theorem eG (k:κ):∀kvs:List (κ×V),(kvs.any λkv=>decide (kv.1=k))=(b0 kvs k).isSome
 | []=>rfl
 | p::r=>by
   rw [List.any_cons]
   by_cases e:p.1=k
   ·simp only [cD e,decide_eq_true e,Bool.true_or,Option.isSome_some]
   ·rw [ck e,decide_eq_false e,Bool.false_or];exact eG k r
theorem pN (k j:κ)(y:V):∀kvs:List (κ×V),b0 (kvs.map λkv=>if kv.1=k then (kv.1,y) else kv) j=(b0 kvs j).map λx=>if j=k then y else x
 | []=>rfl
 | p::r=>by
   have ih:=pN k j y r
   rw [List.map_cons]
   by_cases h:p.1=k
   ·rw [if_pos h]
    by_cases e:p.1=j
    ·rw [cD (p:=(p.1,y)) e,cD e,Option.map_some,if_pos (e.symm.trans h)]
    ·rw [ck (p:=(p.1,y)) e,ck e,ih]
   ·rw [if_neg h]
    by_cases e:p.1=j
    ·rw [cD (p:=p) e,cD e,Option.map_some,if_neg (λz=>h (e.trans z))]
    ·rw [ck (p:=p) e,ck e,ih]
theorem mO (k j:κ)(y:V):∀kvs:List (κ×V),b0 kvs k=none->b0 (kvs++[(k,y)]) j=if j=k then some y else b0 kvs j
 | [],_=>by
   by_cases e:k=j
   ·rw [if_pos e.symm];exact cD (p:=(k,y)) e
   ·rw [if_neg (λz=>e z.symm)];exact ck (p:=(k,y)) e
 | p::r,hn=>by
   rw [List.cons_append]
   have hk:¬p.1=k:=λz=>by rw [cD z] at hn;cases hn
   rw [ck hk] at hn
   have ih:=mO k j y r hn
   by_cases e:p.1=j
   ·rw [cD e,cD e,if_neg (λz=>hk (e.trans z))]
   ·rw [ck e,ck e,ih]
theorem vN (kvs:List (κ×V))(k j:κ)(y:V):b0 (putK kvs k y) j=if j=k then some y else b0 kvs j:=by
 unfold putK
 by_cases a:(kvs.any λkv=>decide (kv.1=k))=true
 ·rw [if_pos a,pN]
  rw [eG] at a
  by_cases e:j=k
  ·obtain ⟨x,hx⟩:=Option.isSome_iff_exists.mp a
   rw [if_pos e,e,hx,Option.map_some,if_pos rfl]
  ·rw [if_neg e]
   cases b0 kvs j with
   | none=>rfl
   | some x=>rw [Option.map_some,if_neg e]
 ·rw [if_neg a]
  refine mO k j y kvs ?_
  rw [eG] at a
  cases q:b0 kvs k with
  | none=>rfl
  | some x=>rw [q] at a;exact (a rfl).elim
theorem h8 (kvs:List (κ×V))(k:κ)(v:V):(putK kvs k v).length<=kvs.length + 1:=by
 unfold putK
 split
 ·rw [List.length_map];omega
 ·rw [List.length_append,List.length_cons,List.length_nil];omega
theorem kq {k:κ}(v:V)(h:b0 kvs k=none):putK kvs k v=kvs++[(k,v)]:=by
 unfold putK
 rw [eG,h]
 exact if_neg (by decide)
theorem fC.fJ {o:Option V}{u:Option Value}(r:fC o u):o.isSome=u.isSome:=by
 cases o with
 | none=>cases u with
   | none=>rfl
   | some _=>exact (show False from r).elim
 | some _=>cases u with
   | none=>exact (show False from r).elim
   | some _=>rfl
theorem KV.val (r:KV kvs vs)(k:κ):fC (b0 kvs k) (valueAt vs k):=by
 unfold KV at r
 induction r with
 | nil=>exact True.intro
 | @cons p q ps qs h t ih=>
   obtain ⟨h1,h2⟩:=h
   by_cases e:p.1=k
   ·have e':q.1=k:=h1.symm.trans e
    have b:valueAt (q::qs) k=some q.2:=by simp [valueAt,List.find?_cons,e']
    rw [cD e,b];exact h2
   ·have e':¬q.1=k:=λz=>e (h1.trans z)
    have b:valueAt (q::qs) k=valueAt qs k:=by simp [valueAt,List.find?_cons,e']
    rw [ck e,b];exact ih
theorem KV.any (r:KV kvs vs)(k:κ):(kvs.any λkv=>decide (kv.1=k))=vs.any λkv=>decide (kv.1=k):=by
 unfold KV at r
 induction r with
 | nil=>rfl
 | cons h t ih=>rw [List.any_cons,List.any_cons,ih,h.1]
theorem KV.vj (r:KV kvs vs)(k:κ){y:V}{u:Value}(ry:RelV y u):
 KV (kvs.map λkv=>if kv.1=k then (kv.1,y) else kv) (vs.map λkv=>if kv.1=k then (kv.1,u) else kv):=by
 unfold KV at r ⊢
 induction r with
 | nil=>exact .nil
 | @cons p q ps qs h t ih=>
   rw [List.map_cons,List.map_cons]
   refine .cons ?_ ih
   obtain ⟨h1,h2⟩:=h
   by_cases e:p.1=k
   ·rw [if_pos e,if_pos (h1.symm.trans e)];exact ⟨h1,ry⟩
   ·rw [if_neg e,if_neg (λz=>e (h1.trans z))];exact ⟨h1,h2⟩
theorem KV.put (r:KV kvs vs)(k:κ){y:V}{u:Value}(ry:RelV y u):KV (putK kvs k y) (stored vs k u):=by
 unfold putK stored
 rw [r.any k]
 by_cases e:(vs.any λkv=>decide (kv.1=k))=true
 ·rw [if_pos e,if_pos e];exact r.vj k ry
 ·rw [if_neg e,if_neg e];exact Paired.snoc r ⟨rfl,ry⟩
theorem KV.length (r:KV kvs vs):kvs.length=vs.length:=Paired.length r
end
section
variable {H:Hp}{kvs:List (List Key×V)}{xs:List (List Key×Addr×Value)}{u:Value}
theorem gk {P:Program}{w:World}{k:Key}(r:RelV (kV k) u):(bB P w).is k u=true:=by
 cases k with
 | inl i=>obtain ⟨t,e⟩:=(show∃t,u=Value.int i t from r);subst e;exact pR P w i t
 | inr x=>obtain ⟨t,e⟩:=(show∃t,u=Value.str x t from r);subst e;exact cK P w x t
theorem mT {P:Program}{w:World}:∀{ks:List Key} {us:List Value},Vals (ks.map kV) us->ItemsAre (bB P w) ks us
 | [],_,r=>by rw [List.map_nil] at r;cases r;exact .nil
 | k::ks,_,r=>by
   rw [List.map_cons] at r
   cases r with
   | cons h t=>exact .cons (gk h) (mT t)
abbrev KT (H:Hp):List (List Key×V)->List (List Key×Addr×Value)->Prop:=Paired λp q=>p.1=q.1/\H q.2.1=some (.tup (p.1.map kV))/\RelV p.2 q.2.2
theorem KT.val (r:KT H kvs xs)(k:List Key):fC (b0 kvs k) ((atKey xs k).map (·.2)):=by
 induction r with
 | nil=>exact True.intro
 | @cons p q ps qs h t ih=>
   obtain ⟨h1,_,h2⟩:=h
   by_cases e:p.1=k
   ·have e':q.1=k:=h1.symm.trans e
    have b:atKey (q::qs) k=some q.2:=by simp [atKey,List.find?_cons,e']
    rw [cD e,b];exact h2
   ·have e':¬q.1=k:=λz=>e (h1.trans z)
    have b:atKey (q::qs) k=atKey qs k:=by simp [atKey,List.find?_cons,e']
    rw [ck e,b];exact ih
theorem KT.vj (r:KT H kvs xs)(k:List Key){y:V}(ry:RelV y u):
 KT H (kvs.map λkv=>if kv.1=k then (kv.1,y) else kv) (xs.map (putAt k u)):=by
 induction r with
 | nil=>exact .nil
 | @cons p q ps qs h t ih=>
   rw [List.map_cons,List.map_cons]
   refine .cons ?_ ih
   obtain ⟨h1,h2,h3⟩:=h
   unfold putAt
   by_cases e:p.1=k
   ·rw [if_pos e,if_pos (h1.symm.trans e)];exact ⟨h1,h2,ry⟩
   ·rw [if_neg e,if_neg (λz=>e (h1.trans z))];exact ⟨h1,h2,h3⟩
theorem KT.put (r:KT H kvs xs)(k:List Key){b:Addr}{y:V}(hb:H b=some (.tup (k.map kV)))(ry:RelV y u):
 KT H (putK kvs k y) (storedH xs k b u):=by
 have e:(kvs.any λkv=>decide (kv.1=k))=(atKey xs k).isSome:=by
  rw [eG,(r.val k).fJ,Option.isSome_map]
 unfold putK storedH
 rw [e]
 by_cases q:(atKey xs k).isSome=true
 ·rw [if_pos q,if_pos q];exact r.vj k ry
 ·rw [if_neg q,if_neg q];exact Paired.snoc r ⟨rfl,hb,ry⟩
theorem KT.keeps {H':Hp}(r:KT H kvs xs)(ht:∀b ys,H b=some (.tup ys)->H' b=some (.tup ys)):KT H' kvs xs:=
 Paired.wK r λ_ _ z=>⟨z.1,ht _ _ z.2.1,z.2.2⟩
end
section
variable {P:Program}{w:World}{H:Hp}{h:Heap}{a:Addr}
theorem xK {u:HO}(ok:cU P w H h)(e:Rd H a u):cJ P w H h a u:=e.ok ok
theorem jZ {kvs:List (Key×V)}(ok:cU P w H h)(e:Rd H a (.dK kvs)):kvs.length<=sizeLine/\(a==sysModules)=false/\∃vs,KV kvs vs/\h.DictOf (bB P w) a vs:=
 show cJ P w H h a (.dK kvs) from xK ok e
theorem rA {kvs:List (Key×V)}(ok:cU P w H h)(e:H a=some (.dK kvs)):kvs.length<=sizeLine/\(a==sysModules)=false/\∃vs,KV kvs vs/\h.DictOf (bB P w) a vs:=jZ ok (.inl e)
theorem jH {ks:List Key}(ok:cU P w H h)(e:H a=some (.tup (ks.map kV))):(tupleKind (bB P w)).is h ks a:=by
 obtain ⟨_,its,r,o,h1,h2,n,h3⟩:=(show cJ P w H h a (.tup (ks.map kV)) from ok a _ e)
 exact ⟨o,its.toArray,n,h1,h2,h3,by simpa using mT r⟩
theorem lr {kvs:List (List Key×V)}(ok:cU P w H h)(e:Rd H a (.dT kvs)):kvs.length<=sizeLine/\(a==sysModules)=false/\
 ∃xs,KT H kvs xs/\h.DictOfH (tupleKind (bB P w)) a xs:=by
 obtain ⟨z,y,xs,r,o,es,ep,h1,h2,h3,h4,h5⟩:=(show cJ P w H h a (.dT kvs) from xK ok e)
 refine ⟨z,y,xs,r,o,es,ep,h1,h2,h3,h4,λx hx=>?_,h5⟩
 have all:∀{l:List (List Key×V)} {m:List (List Key×Addr×Value)},KT H l m->∀x∈m,(tupleKind (bB P w)).is h x.1 x.2.1:=by
  intro l m q
  induction q with
  | nil=>intro x hx;exact nomatch hx
  | @cons p q ps qs hq t ih=>
    intro x hx
    rcases List.mem_cons.mp hx with e | hx
    ·subst e
     exact jH ok (by rw [← hq.1];exact hq.2.1)
    ·exact ih x hx
 exact all r x hx
theorem CZ {kvs:List (List Key×V)}(ok:cU P w H h)(e:H a=some (.dT kvs)):kvs.length<=sizeLine/\(a==sysModules)=false/\
 ∃xs,KT H kvs xs/\h.DictOfH (tupleKind (bB P w)) a xs:=lr ok (.inl e)
end
def eY (H:Hp)(a:Addr)(y:V)(r:Option V):Prop:=
 (∃kvs k,Rd H a (.dK kvs)/\y=kV k/\r=b0 kvs k)∨∃kvs k b,Rd H a (.dT kvs)/\y= .ref b/\H b=some (.tup (k.map kV))/\r=b0 kvs k
def kx (H:Hp)(a:Addr)(y v:V)(H':Hp):Prop:=
 (∃kvs k,H a=some (.dK kvs)/\y=kV k/\kvs.length < sizeLine/\H'=upd H a (.dK (putK kvs k v)))∨
 ∃kvs k b,H a=some (.dT kvs)/\y= .ref b/\H b=some (.tup (k.map kV))/\kvs.length < sizeLine/\H'=upd H a (.dT (putK kvs k v))
theorem eY.k {H:Hp}{a:Addr}{kvs:List (Key×V)}{k:Key}(e:H a=some (.dK kvs)):eY H a (kV k) (b0 kvs k):=.inl ⟨kvs,k,.inl e,rfl,rfl⟩
theorem kx.k {H:Hp}{a:Addr}{kvs:List (Key×V)}{k:Key}{v:V}(e:H a=some (.dK kvs))(hl:kvs.length < sizeLine):kx H a (kV k) v (upd H a (.dK (putK kvs k v))):=.inl ⟨kvs,k,e,rfl,hl,rfl⟩
section
variable {X:Cx}{pins:List (Addr×Obj)}{σ:St}{H:Hp}{s:Shared}{a:Addr}{y v:V}{u r:Value}{o:Option V}{A:Around}{E:Value->Shared->Prop}
variable {Q:Value->Shared->Prop}
theorem Inv.big (I:Inv X pins σ H s):sysModules < s.heap.objs.size:=by
 have h:mainGlobals < s.heap.objs.size:=(I.mod.glob.keeps I.bk).lt
 exact Nat.lt_trans (by decide) h
theorem t9 (hu:A.units + 1 < cLine)(I:Inv X pins σ H s)(g:eY H a y (some v))(ry:RelV y u)(h:∀w' s',Inv X pins σ H s'->RelV v w'->Q w' s'):
 wpAny (model X.prog X.w) A (getItem (.ref a) u) Q E s:=by
 rcases g with ⟨kvs,k,e,ey,l⟩ | ⟨kvs,k,b,e,ey,eb,l⟩
 ·subst ey
  obtain ⟨z,hd,vs,rel,dd⟩:=jZ I.hok e
  obtain ⟨w',hw,rw'⟩:=fC.some_of (v:=v) (o:=valueAt vs k) (by rw [l];exact rel.val k)
  exact wpAny_getItem_of (gk ry) dd.mapOf hw (h w' _ (I.tok _) rw')
 ·subst ey
  cases (show u=Value.ref b from ry)
  obtain ⟨z,hd,xs,rel,dd⟩:=lr I.hok e
  obtain ⟨w',hw,rw'⟩:=fC.some_of (v:=v) (o:=(atKey xs k).map (·.2)) (by rw [l];exact rel.val k)
  obtain ⟨p,hp,hp2⟩:=Option.map_eq_some_iff.mp hw
  refine wpAny_getItem_heap (tupleKind_room_in1 hu) (jH I.hok eb) dd hp ?_
  rw [hp2]
  exact h w' _ (I.tok _) rw'
theorem Fg (hu:A.units + 1 < cLine)(I:Inv X pins σ H s)(g:eY H a y o)(ry:RelV y u)(h:∀s',Inv X pins σ H s'->Q (.bool o.isSome) s'):
 wpAny (model X.prog X.w) A (compareOp .In u (.ref a)) Q E s:=by
 rcases g with ⟨kvs,k,e,ey,l⟩ | ⟨kvs,k,b,e,ey,eb,l⟩
 ·subst ey
  obtain ⟨z,hd,vs,rel,dd⟩:=jZ I.hok e
  refine wpAny_in_of (gk ry) hd dd.mapOf ?_
  rw [← (rel.val k).fJ,← l]
  exact h _ (I.tok _)
 ·subst ey
  cases (show u=Value.ref b from ry)
  obtain ⟨z,hd,xs,rel,dd⟩:=lr I.hok e
  refine wpAny_in_heap (tupleKind_room_in1 hu) (jH I.hok eb) hd dd ?_
  have q:=(rel.val k).fJ
  rw [Option.isSome_map] at q
  rw [← q,← l]
  exact h _ (I.tok _)
theorem yu (hu:A.units + 1 < cLine)(I:Inv X pins σ H s)(g:eY H a y o)(ry:RelV y u)(h:∀s',Inv X pins σ H s'->Q (.bool (!o.isSome)) s'):
 wpAny (model X.prog X.w) A (compareOp .NotIn u (.ref a)) Q E s:=by
 rcases g with ⟨kvs,k,e,ey,l⟩ | ⟨kvs,k,b,e,ey,eb,l⟩
 ·subst ey
  obtain ⟨z,hd,vs,rel,dd⟩:=jZ I.hok e
  refine wpAny_notIn_of (gk ry) hd dd.mapOf ?_
  rw [← (rel.val k).fJ,← l]
  exact h _ (I.tok _)
 ·subst ey
  cases (show u=Value.ref b from ry)
  obtain ⟨z,hd,xs,rel,dd⟩:=lr I.hok e
  refine wpAny_notIn_heap (tupleKind_room_in1 hu) (jH I.hok eb) hd dd ?_
  have q:=(rel.val k).fJ
  rw [Option.isSome_map] at q
  rw [← q,← l]
  exact h _ (I.tok _)
theorem jR {h':Heap}{t':Nat}{ob:HO}(I:Inv X pins σ H s)(mu:sY (H a))(hs:Heap.SameBut a s.heap h')(he:∃q,h'.get? a=some q)(new:cJ X.prog X.w (upd H a ob) h' a ob):
 Inv X pins σ (upd H a ob) {s with heap:=h',toks:=t'}:=
 I.write (x:=a) (e:=a) mu (.inl rfl) (λb q hb z=>(hs.2 b hb).trans z) he new
theorem pH {P:Program}{w:World}{H':Hp}{h':Heap}{kvs:List (Key×V)}{vs:List (Key×Value)}(z:kvs.length<=sizeLine)(hd:(a==sysModules)=false)(rel:KV kvs vs)(dd:h'.DictOf (bB P w) a vs):
 cJ P w H' h' a (.dK kvs):=⟨z,hd,vs,rel,dd⟩
theorem uK {H':Hp}{Q:Unit->Shared->Prop}(hu:A.units + 1 < cLine)(I:Inv X pins σ H s)(g:kx H a y v H')(ry:RelV y u)(rv:RelV v r)(h:∀s',Inv X pins σ H' s'->Q () s'):
 wpAny (model X.prog X.w) A (setItem (.ref a) u r) Q E s:=by
 rcases g with ⟨kvs,k,e,ey,l,eH⟩ | ⟨kvs,k,b,e,ey,eb,l,eH⟩
 ·subst ey eH
  obtain ⟨z,hd,vs,rel,dd⟩:=rA I.hok e
  have hz:vs.length<=sizeLine:=by rw [← rel.length];exact z
  have hl:(putK kvs k v).length<=sizeLine:=by have:=h8 kvs k v;omega
  refine wpAny_setItem_pairs (hsz:=hz) (gk ry) dd λh' dd' hs=>h _ ?_
  have he:∃q,h'.get? a=some q:=let ⟨q,_,_,hq,_⟩:=dd';⟨q,hq⟩
  exact jR I (by rw [e];exact True.intro) hs he (pH hl hd (rel.put k rv) dd')
 ·subst ey eH
  cases (show u=Value.ref b from ry)
  obtain ⟨z,hd,xs,rel,dd⟩:=CZ I.hok e
  have hz:xs.length<=sizeLine:=by rw [← Paired.length rel];exact z
  have hl:(putK kvs k v).length<=sizeLine:=by have:=h8 kvs k v;omega
  refine wpAny_setItem_heap (hsz:=hz) (tupleKind_room_in1 hu) (jH I.hok eb) dd λh' dd' hs=>h _ ?_
  obtain ⟨q,es,ep,hq,h2,h3,h4,_,h5⟩:=dd'
  refine jR I (by rw [e];exact True.intro) hs ⟨q,hq⟩ ⟨hl,hd,_,(rel.put k eb rv).keeps λc ys ec=>?_,q,es,ep,hq,h2,h3,h4,h5⟩
  rw [aw (Cu ec e (λz=>nomatch z))]
  exact ec
end
section
variable {X:Cx}{pins:List (Addr×Obj)}{σ:St}{H:Hp}{s:Shared}{a:Addr}{kvs:List (Key×V)}{k:Key}{u:Value}{A:Around}{E:Value->Shared->Prop}
theorem Cy {Q:Value->Shared->Prop}(I:Inv X pins σ H s)(e:Rd H a (.dK kvs))(h:∀t s',Inv X pins σ H s'->Q (.int kvs.length t) s'):wpAny (model X.prog X.w) A (call (.builtin "len") [.ref a]) Q E s:=by
 obtain ⟨z,hd,vs,rel,dd⟩:=jZ I.hok e
 refine call_len_dict hd dd (by rw [← rel.length];rw [sizeLine_eq] at z;omega) ?_
 rw [← rel.length]
 exact h _ _ (I.tok _)
end
def vD (i:Expr):Prop:=∀ov iv,subscripted i false ov iv=operate [ov,iv] (getItem ov iv)
theorem zk {prog:Program}{w:World}{A:Around}{E:Value->Shared->Prop}{s:Shared}{env:Env}{value slice:Expr}{pos:Pos}{T id:String}{Q:Value->Shared->Prop}
 (hl:typeLookup (.type T) "__getitem__"=pure (some (.builtin id))) (hs:vD slice)
 (h:wpAny (model prog w) A (eval value env) (λo s₁=>wpAny (model prog w) A (eval slice env) (λi s₂=>s₂.TypeIs o T/\wpAny (model prog w) A (getItem o i) Q E s₂) E s₁) E s):
 wpAny (model prog w) A (eval (.Subscript value slice pos) env) Q E s:=by
 refine Subscript_ (wpAny_mono h (λo s₁ h₁=>wpAny_mono h₁ (λi s₂ h₂=>?_) λ_ _ x=>x) λ_ _ x=>x)
 obtain ⟨hT,h₂⟩:=h₂
 unfold subscriptTail
 refine wpAny_bind ?_
 rw [getitemInPython_of_ne hT.not_modules]
 refine wpAny_bind (wpAny_specialOf hT hl ?_)
 have fin:wpAny (model prog w) A (subscripted slice false o i) (λr s₃=>wpAny (model prog w) A (letTemporaryGo value o r >>=λ_=>pure r) Q E s₃) E s₂:=by
  rw [hs o i]
  exact wpAny_operating (wpAny_mono h₂ (λr s₃ h₃=>wpAny_bind (wpAny_letTemporaryGo (wpAny_pure h₃))) λ_ _ x=>x)
 first
  | exact wpAny_pure (wpAny_bind fin)
  | exact wpAny_bind (wpAny_pure (wpAny_bind fin))
  | exact wpAny_bind fin
theorem pU {X:Cx}{pins:List (Addr×Obj)}{σ:St}{H:Hp}{s:Shared}{a:Addr}{y:V}{o:Option V}(I:Inv X pins σ H s)(g:eY H a y o):s.TypeIs (.ref a) "dict":=by
 rcases g with ⟨kvs,k,e,_,_⟩ | ⟨kvs,k,b,e,_,_,_⟩
 ·obtain ⟨_,_,vs,_,dd⟩:=jZ I.hok e
  exact dd.typeIs
 ·obtain ⟨_,_,xs,_,dd⟩:=lr I.hok e
  exact dd.typeIs
def DH (td ty:TE):TE:=λσ H Q=>td σ H λx H1=>ty σ H1 λy H2=>∃a v,x= .ref a/\eY H2 a y (some v)/\Q v H2
def Fp (ty td:TE):TE:=λσ H Q=>ty σ H λy H1=>td σ H1 λx H2=>∃a o,x= .ref a/\eY H2 a y o/\Q (.bl o.isSome) H2
def yc (ty td:TE):TE:=λσ H Q=>ty σ H λy H1=>td σ H1 λx H2=>∃a o,x= .ref a/\eY H2 a y o/\Q (.bl (!o.isSome)) H2
def C5 (td ty tv:TE):TS:=λD σ H=>tv σ H λv H1=>td σ H1 λx H2=>ty σ H2 λy H3=>∃a H4,x= .ref a/\kx H3 a y v H4/\D.nx σ H4
section
variable {X:Cx}{o i e value:Expr}{pos pos' tpos:Pos}{td ty tv:TE}
theorem yW (hu:X.A.units + 1 < cLine)(ho:PE X o td)(hi:PE X i ty)(hs:vD i):PE X (.Subscript o i pos) (DH td ty):=by
 intro pins s σ H Q I h
 refine zk PySem.F.slot_dict_getitem.lookup hs (aF (ho pins s σ H _ I h) λu s1 ⟨x,H1,I1,rx,q1⟩=>aF (hi pins s1 σ H1 _ I1 q1) λiv s2 ⟨y,H2,I2,ry,a,v,ex,g,q2⟩=>?_)
 subst ex
 obtain rfl:u=Value.ref a:=rx
 exact ⟨pU I2 g,t9 hu I2 g ry λw' s3 I3 rw'=>⟨v,H2,I3,rw',q2⟩⟩
theorem z5 (hu:X.A.units + 1 < cLine)(hi:PE X i ty)(ho:PE X o td):PC X .In i o (Fp ty td):=by
 intro pins s σ H Q I h
 refine aF (hi pins s σ H _ I h) λiv s1 ⟨y,H1,I1,ry,q1⟩=>aF (ho pins s1 σ H1 _ I1 q1) λu s2 ⟨x,H2,I2,rx,a,ov,ex,g,q2⟩=>?_
 subst ex
 obtain rfl:u=Value.ref a:=rx
 exact Fg hu I2 g ry λs3 I3=>⟨.bl ov.isSome,H2,I3,rfl,q2⟩
theorem jx (hu:X.A.units + 1 < cLine)(hi:PE X i ty)(ho:PE X o td):PC X .NotIn i o (yc ty td):=by
 intro pins s σ H Q I h
 refine aF (hi pins s σ H _ I h) λiv s1 ⟨y,H1,I1,ry,q1⟩=>aF (ho pins s1 σ H1 _ I1 q1) λu s2 ⟨x,H2,I2,rx,a,ov,ex,g,q2⟩=>?_
 subst ex
 obtain rfl:u=Value.ref a:=rx
 exact yu hu I2 g ry λs3 I3=>⟨.bl (!ov.isSome),H2,I3,rfl,q2⟩
theorem lS (hu:X.A.units + 1 < cLine)(ho:PE X o td)(hi:PE X i ty)(hv:PE X value tv)(hs:swapsWith value (some (.Subscript o i pos')) pos.line X.env=pure false):
 PS X (.Assign [.Subscript o i pos'] value pos) (C5 td ty tv):=by
 intro pins s σ H D I h
 refine wpAny_Assign_Subscript (aF (hv pins s σ H _ I h) λr s1 ⟨v,H1,I1,rv,q1⟩=>aF (ho pins s1 σ H1 _ I1 q1) λu s2 ⟨x,H2,I2,rx,q2⟩=>aF (hi pins s2 σ H2 _ I2 q2) λiv s3 ⟨y,H3,I3,ry,a,H4,ex,g,q3⟩=>?_) hs
 subst ex
 obtain rfl:u=Value.ref a:=rx
 exact uK hu I3 g ry rv λs4 I4=>⟨σ,H4,I4,q3⟩
end
theorem pB {P:Program}{w:World}{H:Hp}(h:Heap)(hb:sysModules < h.objs.size):cJ P w H (h.push {cls:=.type "dict",data:=.dict #[]}) h.objs.size (.dK []):=
 ⟨Nat.zero_le _,beq_eq_false_iff_ne.mpr (Ne.symm (Nat.ne_of_lt hb)),[],.nil,Heap.DictOf.new h⟩
def By:TE:=λ_ H Q=>∀p,H p=none->Q (.ref p) (upd H p (.dK []))
section
variable {X:Cx}{pos:Pos}
theorem wx:PE X (.Dict [] [] pos) By:=λpins s σ H Q I h=>
 wpAny_Dict_empty ⟨.ref s.heap.objs.size,_,I.laid (a:=s.heap.objs.size) (o:=.dK []) (t':=s.toks) (λ_ _ q=>Heap.get?_push_of_some _ q) (Nat.le_refl _) (pB s.heap I.big),rfl,h _ (I.hok.fresh (Nat.le_refl _))⟩
end
section
variable {X:Cx}{pos:Pos}
def oj:List (TE×TE)->St->Hp->(List (V×V)->Hp->Prop)->Prop
 | [],_,H,Q=>Q [] H
 | (tk,tv)::r,σ,H,Q=>tk σ H λx H1=>tv σ H1 λy H2=>oj r σ H2 λps H3=>Q ((x,y)::ps) H3
abbrev VV:List (V×V)->List (Value×Value)->Prop:=Paired λp q=>RelV p.1 q.1/\RelV p.2 q.2
def xf (X:Cx)(pos:Pos)(keys:List (Option Expr))(values:List Expr)(trs:List (TE×TE)):Prop:=
 ∀(pins:List (Addr×Obj)) (s:Shared) (σ:St) (H:Hp) (Q:List (V×V)->Hp->Prop),Inv X pins σ H s->oj trs σ H Q->
  wpAny (model X.prog X.w) X.A (evalPairs (pairTrees keys values X.env pos)) (λvs s'=>∃ps H',Inv X pins σ H' s'/\VV ps vs/\Q ps H') X.xe s
theorem yd:xf X pos [] [] []:=λpins s σ H Q I h=>pairTrees_nil_walk ⟨[],H,I,.nil,h⟩
theorem oN {k v:Expr}{ks:List (Option Expr)}{vs:List Expr}{tk tv:TE}{trs:List (TE×TE)}(hk:PE X k tk)(hv:PE X v tv)(hr:xf X pos ks vs trs):
 xf X pos (some k::ks) (v::vs) ((tk,tv)::trs):=λpins s σ H Q I h=>
 pairTrees_cons_walk (aF (hk pins s σ H _ I h) λu s1 ⟨x,H1,I1,rx,q1⟩=>aF (hv pins s1 σ H1 _ I1 q1) λw2 s2 ⟨y,H2,I2,ry,q2⟩=>
  aF (hr pins s2 σ H2 _ I2 q2) λws s3 ⟨ps,H3,I3,rel,q3⟩=>⟨(x,y)::ps,H3,I3,.cons ⟨rx,ry⟩ rel,q3⟩)
def iF (kvs more:List (Key×V)):List (Key×V):=more.foldl (λacc kv=>putK acc kv.1 kv.2) kvs
theorem KV.merge:∀{more:List (Key×V)} {rs:List (Key×Value)} {kvs:List (Key×V)} {vs:List (Key×Value)},KV more rs->KV kvs vs->KV (iF kvs more) (merged vs rs):=by
 intro more rs kvs vs r
 unfold KV at r
 induction r generalizing kvs vs with
 | nil=>intro q;exact q
 | @cons p q ps qs h t ih=>
   intro r0
   have e:KV (putK kvs p.1 p.2) (stored vs q.1 q.2):=by
    have:=r0.put p.1 h.2
    rw [← h.1];exact this
   exact ih e
theorem ji:∀(more kvs:List (Key×V)),(iF kvs more).length<=kvs.length + more.length
 | [],kvs=>by show kvs.length<=kvs.length + 0;omega
 | p::r,kvs=>by
   have h1:=ji r (putK kvs p.1 p.2)
   have h2:=h8 kvs p.1 p.2
   show (iF (putK kvs p.1 p.2) r).length<=_
   rw [List.length_cons];omega
theorem lx {P:Program}{w:World}:∀{kvs:List (Key×V)} {ws:List (Value×Value)},VV (kvs.map λkv=>(kV kv.1,kv.2)) ws->∃rs,Carries (bB P w) ws rs/\KV kvs rs
 | [],_,r=>by rw [List.map_nil] at r;cases r;exact ⟨[],True.intro,.nil⟩
 | p::kvs,_,r=>by
   rw [List.map_cons] at r
   cases r with
   | @cons a b as bs h t=>
     obtain ⟨rs,c,q⟩:=lx (P:=P) (w:=w) t
     obtain ⟨b1,b2⟩:=b
     exact ⟨(p.1,b2)::rs,⟨gk h.1,rfl,c⟩,.cons ⟨rfl,h.2⟩ q⟩
def DW (trs:List (TE×TE)):TE:=λσ H Q=>∀p,H p=none->oj trs σ (upd H p (.dK [])) λps H2=>H2 p=some (.dK [])/\∃kvs:List (Key×V),ps=kvs.map (λkv=>(kV kv.1,kv.2))/\kvs.length<=15/\Q (.ref p) (upd H2 p (.dK (iF [] kvs)))
theorem yX {keys:List (Option Expr)}{values:List Expr}{trs:List (TE×TE)}(h:xf X pos keys values trs)(hall:keys.all (·.isSome)=true)(hl:keys.length=values.length)(h0:keys≠[])
 (h15:keys.length<=15):PE X (.Dict keys values pos) (DW trs):=by
 intro pins s σ H Q I q
 have hn:=I.hok.fresh (Nat.le_refl s.heap.objs.size)
 have I1:=I.laid (a:=s.heap.objs.size) (o:=.dK []) (h':=s.heap.push {cls:=.type "dict",data:=.dict #[]}) (t':=s.toks) (λ_ _ q=>Heap.get?_push_of_some _ q) (Nat.le_refl _) (pB s.heap I.big)
 refine wpAny_Dict_walk (knd:=bB X.prog X.w) hall hl h0 h15 (aF (h pins _ σ _ _ I1 (q _ hn)) λws s2 ⟨ps,H2,I2,rel,e,kvs,ep,lk,q2⟩=>?_)
 subst ep
 obtain ⟨rs,c,rk⟩:=lx (P:=X.prog) (w:=X.w) rel
 obtain ⟨z,hd,vs0,r0,dd⟩:=rA I2.hok e
 cases r0
 refine ⟨rs,c,dd,λh' dd' hs=>⟨.ref s.heap.objs.size,_,?_,rfl,q2⟩⟩
 have hz:(iF [] kvs).length<=sizeLine:=by
  have h1:=ji kvs []
  rw [List.length_nil] at h1
  rw [sizeLine_eq];omega
 have he:∃q,h'.get? s.heap.objs.size=some q:=let ⟨q,_,_,hq,_⟩:=dd';⟨q,hq⟩
 exact jR I2 (by rw [e];exact True.intro) hs he (pH hz hd (rk.merge .nil) dd')
structure M2 (X:Cx) (o:Expr) (m:Str) (apos:Pos) (e f:Expr) (cpos:Pos):Prop where
 base:attributeBase o m X.env (eval o X.env)=eval o X.env
 few:((backTo cpos (starEach [e,f] X.env)).all (λx=> !x.1)&&(backToKw cpos (keywordEach [] X.env)).all (λx=>x.1.isSome)
  &&decide (([e,f]:List Expr).length + ([]:List Keyword).length + (if ([]:List Keyword).isEmpty then 0 else 1) < 30))=true
 line:(apos.endLine==cpos.line)=true
 trees:backTo cpos (starEach [e,f] X.env)=[(false,eval e X.env),(false,eval f X.env)]
end
section
variable {X:Cx}{pins:List (Addr×Obj)}{σ:St}{H:Hp}{s:Shared}{a:Addr}{y d:V}{u r:Value}{o:Option V}{A:Around}{E:Value->Shared->Prop}
end
section
variable {X:Cx}{o e f:Expr}{apos cpos:Pos}{td ty tx:TE}
end
section
variable {X:Cx}{pins:List (Addr×Obj)}{σ:St}{H:Hp}{s:Shared}{a:Addr}{kvs:List (Key×V)}{A:Around}{E:Value->Shared->Prop}
end
section
variable {X:Cx}{pins:List (Addr×Obj)}{σ:St}{H:Hp}{s:Shared}{a:Addr}{y:V}{u:Value}{A:Around}{E:Value->Shared->Prop}
end
end L2
namespace Att
open PySem PySem.W PySem.Calls PyProof.Rows
theorem lB {P:Params}{h:Heap}:∀(ns:List Int) (vs:List Value),WellAll P h vs (ns.map WData.int)->IntsAre vs ns:=by
 intro ns
 induction ns with
 | nil=>
   intro vs w
   rw [List.map_nil] at w
   cases w
   exact .nil
 | cons n ns ih=>
   intro vs w
   rw [List.map_cons] at w
   cases w with
   | cons a b=>
     cases a
     exact .cons _ _ (ih _ b)
theorem tP {l:OpenLaw}{n:Nat}(hn:l.most=some n){P:Params}{h:Heap}{args:List WData}{vals:List Value}
 (hpre:l.row.toRowW.claim.pre args=true) (hwl:WellAll P h vals args):
 ∃a vs ns,vals=[Value.ref a]/\args=[WData.list (ns.map WData.int)]/\h.get? a=some {cls:=.type "list",data:=.seq vs.toArray}/\IntsAre vs ns/\ns.length<=n:=by
 have hsh:WShape.hasAll [] args [.list .int]=true:=(pre_splitW hpre).1
 have hc:l.pre.holds [] {args:=args}=true:=(pre_splitW hpre).2
 obtain ⟨d,r,rfl,h1,h2⟩:=hasAllW_cons hsh
 obtain rfl:=hasAllW_nil h2
 obtain ⟨xs,rfl,h3⟩:=hasW_list h1
 obtain ⟨ns,rfl⟩:=items_int h3
 have hlen:ns.length<=n:=by
  unfold OpenLaw.pre at hc
  have h4:(WTm.not (.lt (.lit (.int (n:Int))) (.len (.arg 0)))).holds [] {args:=[.list (ns.map .int)]}=true:=by
   have h4:=(holds_andW hc).1
   rw [hn] at h4
   exact h4
  have h5:=condW_of h4 (w_not (w_lt w_lit (w_len_list (w_arg rfl))))
  rw [List.length_map] at h5
  refine Nat.le_of_not_lt λq=>?_
  have q':(n:Int) < ((ns.length:Nat):Int):=by omega
  first
   | (rw [decide_eq_true q'] at h5;exact absurd h5 (by decide))
   | (simp at h5;omega)
 cases hwl with
 | cons w1 w2=>
   cases w2
   cases w1 with
   | list ho hall=>exact ⟨_,_,ns,rfl,rfl,ho,lB ns _ hall,hlen⟩
theorem sT (l:OpenLaw)(args:List WData):l.row.toRowW.claim.post args (.bool true) args=true:=
 postW_of (r:=l.row.toRowW) (X:=(true==true))
  (show WShape.has [] (.bool true) .bool=true by first | rfl | decide | simp [WShape.has,WShape.arms,WShape.armsAll])
  (show (WTm.eq .res (.lit (.bool true))).value [] {args:=args,res:=some (.bool true),after:=args}=some (.bool (true==true)) from w_eq_bool (w_res rfl) w_lit) rfl
section
variable {prog:Program}{w:World}{A:Around}{E:Value->Shared->Prop}{s:Shared}{K:Frag}
end
end Att
namespace L2
open PySem PySem.Spec PyProof.Rows
theorem mW:∀{vs:List Value} {ns:List Int},IntsAre vs ns->Vals (ns.map V.int) vs
 | _,_,.nil=>.nil
 | _,_,.cons n t h=>.cons ⟨t,rfl⟩ (mW h)
def v7 (H:Hp):Prop:=∀b,H b=none∨∃o xs,H b=some (.frz o (.lst xs))
theorem vJ {P:Program}{w:World}{K:PySem.W.Frag}{mg mb:Str->Option Value}{CX:jk}{k:Nat}{fa a:Addr}{fd:FuncData}{x:Str}{sp:Sp}{s₁:Shared}{vs:List Value}{ns:List Int}
 (KX:K.In s₁.heap) (hns:s₁.heap.Ns mainGlobals mg) (hb:s₁.heap.Ns builtinsNs mb) (hbb:∀x:Str,x≠"__name__"->mb x=bootBuiltins x) (hlim:s₁.heap.NoLimit) (hg:s₁.gens= #[])
 (ha:s₁.heap.get? a=some {cls:=.type "list",data:=.seq vs.toArray}) (hi:IntsAre vs ns) (hl:ns.length<=sizeLine) (hr:bA k callerA)
 (F:∀base:Heap,K.In base->base.Ns mainGlobals mg->cV P w K mg base CX k fa fd [x] sp) (hbind:∀(s:Shared) (u:Value),BindsTo s fd ⟨[u],[]⟩ [(x,u)])
 (hsp:∀H:Hp,v7 H->aM K H a (ns.map V.int)->sp [.ref a] H (λv _=>v= .bl true) λ_ _ _=>False)
 (hCX:∀H e s',CX [] H s₁ (λ_ _ _=>False) e s'->False):
 codeAny (model P w) callerA (.call (.ref fa) ⟨[.ref a],[]⟩) (λr s'=>r= .ok (.ret (.bool true))/\OldK s₁.heap s'.heap/\s'.os=s₁.os/\AllBare s'.gens) s₁:=by
 have rv:=mW hi
 have lenV:=hi.length
 -- from an abstract heap in which nothing but the script may be tracked
 have core:∀H:Hp,v7 H->aM K H a (ns.map V.int)->cU P w H s₁.heap->(∀b,H b≠none->b=a)->(H a≠none->K.lookup a=none)->
  codeAny (model P w) callerA (.call (.ref fa) ⟨[.ref a],[]⟩) (λr s'=>r= .ok (.ret (.bool true))/\OldK s₁.heap s'.heap/\s'.os=s₁.os/\AllBare s'.gens) s₁:=by
  intro H hO hS hok hA hK
  have base_of:∀{b:Addr} {o:Obj},s₁.heap.get? b=some o->H b=none->(iU s₁.heap H).get? b=some o:=λe n=>vy e n
  have noA:∀{b:Addr} {o:Obj} {es:Array DictEntry} {ep:Nat},s₁.heap.get? b=some o->o.data= .dict es ep->H b=none:=λ{b o es ep} e d=>by
   cases q:H b with
   | none=>rfl
   | some u=>
     have e':b=a:=hA b (by rw [q];simp)
     subst e'
     rw [ha] at e;cases e
     have d':Data.seq vs.toArray _=Data.dict es ep:=d
     cases d'
  have nsK:∀{b:Addr} {m:Str->Option Value},s₁.heap.Ns b m->(iU s₁.heap H).Ns b m:=λ{b m} ⟨o,es,ep,e,d,r⟩=>⟨o,es,ep,base_of e (noA e d),d,r⟩
  have hKb:K.In (iU s₁.heap H):=λb o e=>base_of (KX b o e) (by
   cases q:H b with
   | none=>rfl
   | some u=>
     have e':b=a:=hA b (by rw [q];simp)
     subst e'
     rw [hK (by rw [q];simp)] at e;cases e)
  have hM:Mod K mg (iU s₁.heap H):=⟨hKb,nsK hns,⟨mb,nsK hb,hbb⟩,let ⟨mc,h1,h2⟩:=hlim;⟨mc,nsK h1,h2⟩⟩
  have e0:kB P w K mg (iU s₁.heap H) callerA [] s₁ H:=⟨rfl,hM,λb o e=>zi e,Nat.le_of_eq (uM _ _),trivial,λb hb=>absurd (show b∈([]:List Addr) from hb) (by simp),hok,.of_eq hg⟩
  refine codeAny_mono ((F _ hKb (nsK hns)).run callerA [] s₁ H ⟨[.ref a],[]⟩ [.ref a] [.ref a] _ _ hr e0 (hbind s₁ (.ref a)) (.cons rfl .nil) (hsp H hO hS)) λr s' h=>?_
  cases r with
  | error e=>exact (hCX H e s' h).elim
  | ok fl=>
    cases fl with
    | next=>exact False.elim h
    | brk=>exact False.elim h
    | cont=>exact False.elim h
    | ret u=>
      obtain ⟨v,H',os,bare,un,hok',r',q⟩:=h
      have q':v= .bl true:=q
      subst q'
      obtain rfl:u=Value.bool true:=r'
      refine ⟨rfl,OldK.of_keep λb o e=>?_,os,bare⟩
      cases q:H b with
      | none=>exact un.keep b o e q (by intro z;exact absurd (show b∈([]:List Addr) from z) (by simp)) (by simp)
      | some u=>
        rcases hO b with z | ⟨ob,xs,z⟩
        ·rw [q] at z;cases z
        ·have z2:=un.frzs b ob _ z
         obtain ⟨e1,_⟩:=hok b _ z
         obtain ⟨e2,_⟩:=hok' b _ z2
         rw [e] at e1;cases e1
         exact e2
 cases hk:K.lookup a with
 | some o=>
   -- the script is one of the module's own objects
   have e:=KX a o hk
   rw [ha] at e
   cases e
   refine core (λ_=>none) (λ_=>.inl rfl) (.inr ⟨_,vs.toArray,_,hk,rfl,rfl,rfl,by rw [List.size_toArray,lenV];exact hl,by simpa using rv⟩) (λb u z=>by have z':(none:Option HO)=some u:=z;cases z') (λb z=>absurd rfl z) λz=>absurd rfl z
 | none=>
   refine core (λb=>if b=a then some (.frz {cls:=.type "list",data:=.seq vs.toArray} (.lst (ns.map V.int))) else none) (λb=>?_) (.inl (.inr ⟨{cls:=.type "list",data:=.seq vs.toArray},if_pos rfl⟩)) (λb u z=>?_) (λb z=>?_) λ_=>hk
   ·by_cases hb:b=a
    ·exact .inr ⟨_,_,if_pos hb⟩
    ·exact .inl (if_neg hb)
   ·by_cases hb:b=a
    ·have z':=(if_pos hb).symm.trans z
     cases z'
     subst hb
     exact ⟨ha,by rw [List.length_map];exact hl,vs,_,rv,ha⟩
    ·have z':=(if_neg hb).symm.trans z
     cases z'
   ·by_cases hb:b=a
    ·exact hb
    ·exact absurd (if_neg hb) z
abbrev aU {K:PySem.W.Frag}{h:Heap}(_:K.In h):PySem.W.Frag:=K
def dC (s:Stmt):Arguments:=match s with
 | .FunctionDef _ a _ _ _ _ _ _ _ _=>a
 | _=>{posonlyargs:=[],args:=[],vararg:=none,kwonlyargs:=[],kw_defaults:=[],kwarg:=none,defaults:=[]}
def bM (s:Stmt):List Stmt:=match s with
 | .FunctionDef _ _ b _ _ _ _ _ _ _=>b
 | _=>[]
def ag (s:Stmt):Scope:=match s with
 | .FunctionDef _ _ _ _ _ _ sc _ _ _=>sc
 | _=>{kind:=.function,names:=[],isGenerator:=false,isCoroutine:=false}
abbrev dI:jk:=λ_ _ _ _ _ _=>False
abbrev E0:XK:=λ_ _ _=>False
theorem nv {X:Cx}:Passes dI X E0:=λ_ _ _ _ _ _ _ h=>h.elim
structure bw (K:PySem.W.Frag) (x qual:Str) (st:Stmt) (f:Addr) (fd:FuncData):Prop where
 ex:∃(oc:Value) (od:Option Addr) (kV doc pm:Value) (an:Option Addr) (cdv ct:Value) (osl:Array (Option Value)),
  fd=PySem.W.fnOf x qual (dC st) (bM st) (ag st) .none kV doc pm an cdv ct/\K.lookup f=some ⟨oc,od,.func fd,osl⟩/\PySem.W.codeIn K cdv qual=true
 kp:PySem.W.keepIn K (.ref f)=true
section
variable {P:Program}{w:World}{K:PySem.W.Frag}{mg:Str->Option Value}{base:Heap}
variable {x qual:Str}{st:Stmt}{f:Addr}
theorem bw.ok {fd:FuncData}{N ps:List Str}{k:Nat}{sp:Sp}(F:bw K x qual st f fd)(S:aE N ps (ag st))(len:∀vs H Q E,sp vs H Q E->vs.length=ps.length)
 (hbody:∀(cdv:Value) (A:Around) (outer:List Env) (s:Shared) (H:Hp) (vs:List V) (Q:VK) (E:XK),bA k (A.deeper (envOfC qual (ag st) s.heap.objs.size f cdv))->sp vs H Q E->
  ∃t,gF (fc dI P w K mg base N qual (ag st) f cdv A outer s H E).jf (bM st) t/\t {nx:=λ_ H'=>Q .non H',rt:=Q} (start N vs) H):cV P w K mg base dI (k + 1) f fd ps sp:=by
 obtain ⟨oc,od,kV,doc,pm,an,cdv,ct,osl,rfl,lk,hcd⟩:=F.ex
 refine Dd lk hcd S len λA outer s H vs Q E hr hsp=>?_
 obtain ⟨t,h,q⟩:=hbody cdv A outer s H vs Q E hr hsp
 exact ⟨t,h.jf,q⟩
theorem bw.binds {fd:FuncData}{ps:List Str}(F:bw K x qual st f fd)
 (h:∀(kV doc pm:Value) (an:Option Addr) (cdv ct:Value) (us:List Value),us.length=ps.length->bindArgs (PySem.W.fnOf x qual (dC st) (bM st) (ag st) .none kV doc pm an cdv ct) ⟨us,[]⟩=pure (ps.zip us)):Binds K fd ps []:=by
 obtain ⟨oc,od,kV,doc,pm,an,cdv,ct,osl,rfl,lk,hcd⟩:=F.ex
 exact .all (h kV doc pm an cdv ct)
theorem gT {oc:Value}{od an:Option Addr}{osl:Array (Option Value)}{kV doc pm cdv ct:Value}(l:K.lookup f=some ⟨oc,od,.func (PySem.W.fnOf x qual (dC st) (bM st) (ag st) .none kV doc pm an cdv ct),osl⟩)
 (c:PySem.W.codeIn K cdv qual=true) (k:PySem.W.keepIn K (.ref f)=true):bw K x qual st f (PySem.W.fnOf x qual (dC st) (bM st) (ag st) .none kV doc pm an cdv ct):=⟨⟨oc,od,kV,doc,pm,an,cdv,ct,osl,rfl,l,c⟩,k⟩
end
section
variable {X:Cx}
end
section
variable {H:Hp}
theorem jo {A B:Prop}(h:B):if false=true then A else B:=by
 rw [if_neg Bool.false_ne_true]
 exact h
theorem js {A B:Prop}(h:A):if true=true then A else B:=by
 rw [if_pos rfl]
 exact h
def ak (H H':Hp):Prop:=∀b o,H b=some o->H' b=some o
theorem ak.refl (H:Hp):ak H H:=λ_ _ h=>h
theorem ak.trans {H1 H2:Hp}(a:ak H H1)(b:ak H1 H2):ak H H2:=λc o h=>b c o (a c o h)
theorem ak.free {H':Hp}(e:ak H H'){l:Addr}(h:H' l=Option.none):H l=Option.none:=by
 cases q:H l with
 | none=>rfl
 | some o=>
   rw [e l o q] at h
   cases h
theorem ak.seq {K:PySem.W.Frag}{H':Hp}{a:Addr}{xs:List V}(e:ak H H')(h:aM K H a xs):aM K H' a xs:=by
 rcases h with (h | ⟨o,h⟩) | h
 ·exact .inl (.inl (e _ _ h))
 ·exact .inl (.inr ⟨o,e _ _ h⟩)
 ·exact .inr h
end
section
variable {X:Cx}
theorem mS:dX X (.builtin "len") (λxs H Q=>∃a kvs,xs=[V.ref a]/\H a=some (.dK kvs)/\Q (.int kvs.length) H):=by
 intro pins s σ H xs us Q I r h
 obtain ⟨a,kvs,rfl,ha,q⟩:=h
 obtain ⟨u,rfl,ru⟩:=vals1 r
 cases ru
 exact Cy I (.inl ha) λt s' I'=>⟨.int kvs.length,H,I',⟨t,rfl⟩,q⟩
end
section
variable {κ:Type} [DecidableEq κ]
theorem fo:∀{l:List κ} {k:κ},l.Nodup->¬k∈l->(l++[k]).Nodup
 | [],k,_,_=>by simp
 | a::r,k,h,hk=>by
   obtain ⟨h1,h2⟩:=List.nodup_cons.mp h
   show (a::(r++[k])).Nodup
   refine List.nodup_cons.mpr ⟨λm=>?_,fo h2 λm=>hk (List.mem_cons.mpr (Or.inr m))⟩
   rcases List.mem_append.mp m with q | q
   ·exact h1 q
   ·exact hk (List.mem_cons.mpr (Or.inl (List.mem_singleton.mp q).symm))
end
end L2
set_option maxHeartbeats 4000000
namespace L2
open PySem PySem.Spec PyProof.Rows
section
variable {X:Cx}
variable {elt target iter:Expr}{ifs:List Expr}{scope:Scope}{pos:Pos}{s:Shared}{fr:List Str}{ix:List Nat}{wi:TI}{g:TG}{tc:TT}{te:TE}
def br (X:Cx)(scope:Scope)(cl:List (Str×Addr))(C:Addr)(N':List Str)(s:Shared)(H:Hp)(ex:List Addr):Cx:=
 {X with N:=N',s₀:=s,H₀:=H,env:=compEnvC scope cl C X.env,outer:=X.stack,stack:=X.stack,ex:=ex,fn:=λ_=>false,pn:=[],xe:=λ_ _=>False}
def PF (X:Cx)(ifs:List Expr)(t:TT):Prop:=
 ∀(pins:List (Addr×Obj)) (s:Shared) (σ:St) (H:Hp) (Q:Bool->Hp->Prop),Inv X pins σ H s->t σ H Q->
  wpAny (model X.prog X.w) X.A (forIn ifs true λc r=>if r=true then do let ok ← isTrue c X.env (eval c X.env);pure (ForInStep.yield ok) else pure (ForInStep.yield r)) (TP X pins σ Q) X.xe s
def Fo:TT:=λ_ H Q=>Q true H
theorem AU:PF X [] Fo:=by
 intro pins s σ H Q I h
 exact wpAny_pure ⟨H,I,h⟩
theorem AN {c:Expr}{t:TT}(hc:PT X c t):PF X [c] t:=by
 intro pins s σ H Q I h
 show wpAny _ _ (forIn [c] true λc r=>_) _ _ s
 rw [List.forIn_cons]
 simp only [if_true,List.forIn_nil]
 refine wpAny_bind (wpAny_bind (wpAny_mono (hc pins s σ H Q I h) (λb s1 h1=>?_) λ_ _ e=>e))
 exact wpAny_pure (wpAny_pure h1)
theorem oA {prog:Program}{w:World}{A:Around}{R:Result->Shared->Prop}{it acc:Value}{env:Env}(I:Nat->Shared->Prop)
 (turn:∀n s,I n s->wpAny (model prog w) A (pyNext it) (λr s₁=>match r with
  | none=>R (.ok .next) s₁
  | some v=>wpAny (model prog w) A (letOwnedTupleGo target it v) (λ_ s₁'=>wpAny (model prog w) A (assign target env v) (λ_ s₂=>
   wpAny (model prog w) A (forIn ifs true λc r=>if r=true then do let ok ← isTrue c env (eval c env);pure (ForInStep.yield ok) else pure (ForInStep.yield r)) (λok s₃=>
    if ok=true then wpAny (model prog w) A (eval elt env) (λx s₄=>
     wpAny (model prog w) A (call (.builtin "list.append") [acc,x]) (λ_ s₅=>∃m,m < n/\I m s₅) (λ_ _=>False) s₄) (λ_ _=>False) s₃
    else∃m,m < n/\I m s₃) (λ_ _=>False) s₂) (λ_ _=>False) s₁') (λ_ _=>False) s₁) (λ_ _=>False) s)
 (n:Nat) (h:I n s):
 codeAny (model prog w) A (.compLoop (.ListComp elt [⟨target,iter,ifs,0⟩] scope pos) 0 it acc env) R s:=by
 have no:∀{α:Type} {t:Sem α} {Q:α->Shared->Prop} {E:Value->Shared->Prop} {s:Shared},wpAny (model prog w) A t Q (λ_ _=>False) s->wpAny (model prog w) A t Q E s:=λh=>wpAny_mono h (λ_ _ q=>q) λ_ _ f=>f.elim
 refine codeAny_loop rfl I (λn s hI=>?_) n h
 show wpAny _ A ((compTurn (.ListComp elt [⟨target,iter,ifs,0⟩] scope pos) 0 it acc env).onRaise (λx=>do noteFrame x env;theTreesLotGoes x)) _ _ s
 refine wpAny_noted ?_
 rw [compTurn_list]
 refine wpAny_bind (wpAny_standAt (wpAny_bind (wpAny_mono (no (turn n s hI)) (λr s₁ h₁=>?_) λ_ _ h'=>h')))
 cases r with
 | none=>exact wpAny_pure h₁
 | some v=>
   refine wpAny_bind (wpAny_mono (no h₁) (λ_ s₁' h₁'=>?_) λ_ _ h'=>h')
   refine wpAny_bind (wpAny_mono (no h₁') (λ_ s₂ h₂=>wpAny_bind (wpAny_mono (no h₂) (λok s₃ h₃=>?_) λ_ _ h'=>h')) λ_ _ h'=>h')
   cases ok with
   | false=>exact wpAny_pure ⟨rfl,h₃⟩
   | true=>
     exact wpAny_bind (wpAny_bind (wpAny_mono (no h₃) (λx s₄ h₄=>wpAny_bind (wpAny_mono (no h₄) (λ_ s₅ h₅=>wpAny_pure (wpAny_pure ⟨rfl,h₅⟩)) λ_ _ h'=>h')) λ_ _ h'=>h'))
def sg (wi:TI)(g:TG)(tc:TT)(te:TE)(z:St->St):TE:=λσ H Q=>wi σ H λJ H1=>
 ∃W:Nat->Nat->List V->St->Hp->Prop,(∃m,W 0 m [] (z σ) H1)/\∀i m ys σ' H',W i m ys σ' H'->
  ys.length<=sizeLine/\((J.stop i H'/\∀p,H' p=none->Q (.ref p) (upd H' p (.lst ys)))∨
  (J.go i H'/\∀x H2,J.yld i H' x H2->g x σ' H2 λσ2 H3=>tc σ2 H3 λb H4=>
    if b=true then te σ2 H4 λv H5=>∃m',m' < m/\W (i + 1) m' (ys++[v]) σ2 H5 else∃m',m' < m/\W (i + 1) m' ys σ2 H4))
structure dN (X:Cx) (scope:Scope) (cl:List (Str×Addr)) (own fr:List Str) (ix:List Nat):Prop where
 clos:closureFor scope X.env=pure cl
 cells:∀x c,cl.lookup x=some c->X.env.cells.lookup x=some c
 kind:scope.kind= .function
 ncell:∀y∈scope.names,y.2≠ .cell
 names:∀y∈scope.names,y.2= .local->scope.names.lookup y.1=some .local
 has:∀x,scope.names.lookup x=some .free->∃c,cl.lookup x=some c
 frees:∀x∈fr,scope.names.lookup x=some .free
 len:fr.length=ix.length
 at_:∀(k:Nat) (i:Nat) (x:Str),ix[k]?=some i->fr[k]?=some x->X.N[i]?=some x/\X.env.kindOf x=some .cell
theorem fB {env:Env}:∀{names:List (Str×NameKind)} {x:Str} {k:NameKind},
 (names.map λ(n,k)=>if (k==NameKind.free&&env.scope.kind== .function&&env.kindOf n==some .cell) then (n,NameKind.cell) else (n,k)).lookup x=some k->
 ∃k',names.lookup x=some k'/\(k=k'∨(k'= .free/\k= .cell))
 | [],_,_,h=>by simp at h
 | (n,k)::r,x,kk,h=>by
   have ih:=@fB env r x kk
   replace h:List.lookup x ((if (k==NameKind.free&&env.scope.kind== .function&&env.kindOf n==some .cell)=true then (n,NameKind.cell) else (n,k))::_)=some kk:=h
   by_cases hc:(k==NameKind.free&&env.scope.kind== .function&&env.kindOf n==some .cell)=true
   ·rw [if_pos hc] at h
    cases hx:x==n with
    | true=>
      simp only [List.lookup_cons,hx,Option.some.injEq] at h ⊢
      have hk:k= .free:=by
       simp only [Bool.and_eq_true] at hc
       exact eq_of_beq hc.1.1
      exact ⟨k,rfl,.inr ⟨hk,h.symm⟩⟩
    | false=>
      simp only [List.lookup_cons,hx] at h ⊢
      exact ih h
   ·rw [if_neg hc] at h
    cases hx:x==n with
    | true=>
      simp only [List.lookup_cons,hx,Option.some.injEq] at h ⊢
      exact ⟨k,rfl,.inl h.symm⟩
    | false=>
      simp only [List.lookup_cons,hx] at h ⊢
      exact ih h
theorem jF {env:Env}(hf:env.scope.kind= .function):∀{names:List (Str×NameKind)} {x:Str},names.lookup x=some .free->env.kindOf x=some .cell->
 (names.map λ(n,k)=>if (k==NameKind.free&&env.scope.kind== .function&&env.kindOf n==some .cell) then (n,NameKind.cell) else (n,k)).lookup x=some .cell
 | [],_,h,_=>by simp at h
 | (n,k)::r,x,h,hk=>by
   have ih:=@jF env hf r x
   show List.lookup x ((if (k==NameKind.free&&env.scope.kind== .function&&env.kindOf n==some .cell)=true then (n,NameKind.cell) else (n,k))::_)=_
   cases hx:x==n with
   | true=>
     simp only [List.lookup_cons,hx,Option.some.injEq] at h
     have e:x=n:=eq_of_beq hx
     subst e
     subst h
     rw [if_pos (by rw [hf,hk];rfl)]
     simp [List.lookup_cons]
   | false=>
     simp only [List.lookup_cons,hx] at h
     split
     ·simp only [List.lookup_cons,hx];exact ih h hk
     ·simp only [List.lookup_cons,hx];exact ih h hk
def fe (own:List Str)(ix:List Nat)(σ:St):St:=List.replicate own.length none++ix.map λi=>(σ[i]?).join
structure Off (X:Cx) (pins:List (Addr×Obj)) (H:Hp) (s:Shared) (C:Addr):Prop where
 ns:∃m,s.heap.Ns C m
 free:H C=none
 ne:C≠X.env.locals
 young:X.s₀.heap.objs.size<=C
 cell:∀x c,X.env.cells.lookup x=some c->c≠C
 pin:∀p∈X.pn++pins,p.1≠C
theorem mU {cl:List (Str×Addr)}{own:List Str}
 {use:Option (Value->Sem Unit)} {Qf:Value->Shared->Prop} {pins:List (Addr×Obj)} {σ:St} {H:Hp} {Q:VK}
 (hc:X.calm=true) (S:dN X scope cl own fr ix) (hi:PI X target iter wi)
 (hb:∀(C:Addr) (s:Shared) (H:Hp) (ex:List Addr),PG (br X scope cl C (own++fr) s H ex) target g/\PF (br X scope cl C (own++fr) s H ex) ifs tc/\PE (br X scope cl C (own++fr) s H ex) elt te)
 (hs:∀x,foldedSetIterable iter X.env x=pure x) (I:Inv X pins σ H s) (h:sg wi g tc te (fe own ix) σ H Q)
 (hfin:∀(D C:Addr) (H6:Hp) (s6:Shared),Inv X pins σ H6 s6->Off X pins H6 s6 C->Q (.ref D) H6->compPost (model X.prog X.w) X.A X.xe use Qf (.ref D) C (.ok .next) s6):
 wpAny (model X.prog X.w) X.A (comprehension (.ListComp elt [⟨target,iter,ifs,0⟩] scope pos) scope X.env (firstIterPos [⟨target,iter,ifs,0⟩] pos) (newList []) false (eval iter X.env) use) Qf X.xe s:=by
 refine wpAny_comprehension_free (use:=use) rfl hs S.clos S.kind S.names ?_
 refine aF (hi pins s σ H _ I h) λv s1 h1=>aF h1 λitv s2 h2=>?_
 obtain ⟨it,fp,tn,J,H2,rfl,I2,T,st2,f2,W,⟨m0,w0⟩,turn⟩:=h2
 refine wpAny_newObj_type (wpAny_newFunctionEnv S.ncell (by intro y hy;simp at hy) (λh₁ hns₁ hsb₁=>?_) S.kind)
 dsimp only at hns₁ hsb₁ ⊢
 generalize hH3:s2.heap.push {cls:=.type "list",dict:=none,data:=.seq ([]:List Value).toArray}=h3 at hns₁ hsb₁ ⊢
 have hC:h3.objs.size=s2.heap.objs.size + 1:=by rw [← hH3,Heap.size_push]
 have to3:∀b o,s2.heap.get? b=some o->h3.get? b=some o:=λb o e=>by rw [← hH3];exact Heap.get?_push_of_some _ e
 have getD3:h3.get? s2.heap.objs.size=some {cls:=.type "list",data:=.seq ([]:List Value).toArray}:=by rw [← hH3];exact Heap.get?_push_size _ rfl
 have to1:∀b o,h3.get? b=some o->h₁.get? b=some o:=λb o e=>hsb₁.extBut b o (Nat.ne_of_lt (Heap.lt_size e)) (Heap.get?_push_of_some _ e)
 have frD:∀{b:Addr},b∈fp->b≠s2.heap.objs.size:=λ{b} hb z=>by
  obtain ⟨o,e,_⟩:=T.obj 0 _ st2 b hb
  exact absurd (Heap.lt_size e) (by rw [z];exact Nat.lt_irrefl _)
 have frC:∀{b:Addr},b∈fp->b≠h3.objs.size:=λ{b} hb z=>by
  obtain ⟨o,e,_⟩:=T.obj 0 _ st2 b hb
  exact absurd (Heap.lt_size e) (by rw [z,hC];exact Nat.not_lt.mpr (Nat.le_succ _))
 have HD2:H2 s2.heap.objs.size=none:=I2.hok.fresh (Nat.le_refl _)
 -- the block's context
 let X':Cx:=br X scope cl h3.objs.size (own++fr) {s2 with heap:=h3} H2 (s2.heap.objs.size::fp)
 have ok':X'.Ok:=by
  refine ⟨I2.ok.mod,S.kind,I2.ok.glob,I2.ok.blt,Nat.le_refl _,λx y c e1 e2=>I2.ok.inj x y c (S.cells x c e1) (S.cells y c e2),λx hx=>?_,λx c z=>?_,I2.ok.hd,I2.ok.frames,.inl rfl,λb hb=>?_,λb o e=>?_,?_,λb o e hb=>?_,λb hb z=>?_,?_,I2.qG⟩
  ·have key:scope.names.lookup x=some .free:=by
    have hx:(relabel scope X.env).names.lookup x=some .cell∨(relabel scope X.env).names.lookup x=some .free:=hx
    rcases hx with hx | hx
    ·obtain ⟨k',e,z⟩:=fB hx
     rcases z with z | z
     ·subst z;exact absurd rfl (S.ncell _ (PySem.mem_of_lookup e))
     ·rw [e,z.1]
    ·obtain ⟨k',e,z⟩:=fB hx
     rcases z with z | z
     ·subst z;exact e
     ·cases z.2
   exact S.has x key
  ·cases z
  ·rcases List.mem_cons.mp hb with rfl | hb
   ·refine ⟨by rw [show X'.env.locals=h3.objs.size from rfl,hC];exact Nat.ne_of_lt (Nat.lt_succ_self _),λx c e z=>?_⟩
    obtain ⟨v',q⟩:=I2.cell x c (S.cells x c e)
    exact absurd q.lt (by rw [z];exact Nat.lt_irrefl _)
   ·exact ⟨frC hb,λx c e=>(f2 b hb).2.2.2.2.1 x c (S.cells x c e)⟩
  ·obtain ⟨e1,e2⟩:=I2.bs b o e
   exact ⟨to3 b o e1,e2⟩
  ·show X.base.objs.size<=h3.objs.size
   have:=I2.ok.bsz;have:=I2.sz
   omega
  ·rcases List.mem_cons.mp hb with rfl | hb
   ·exact absurd (Heap.lt_size (I2.bs _ o e).1) (Nat.lt_irrefl _)
   ·rcases (f2 b hb).2.2.2.1 with z | z
    ·exact I2.ok.noex b o e z
    ·exact absurd (Nat.lt_of_lt_of_le (Nat.lt_of_lt_of_le (Heap.lt_size e) I2.ok.bsz) z) (Nat.lt_irrefl _)
  ·replace z:b∈iM X.stack:=z
   rcases List.mem_cons.mp hb with rfl | hb
   ·obtain ⟨_,o,ho,_⟩:=I2.stack.mem z
    exact absurd (Heap.lt_size ho) (Nat.lt_irrefl _)
   ·rcases List.mem_cons.mp (I2.oy b z) with q | q
    ·exact (f2 b hb).2.1 q
    ·exact (f2 b hb).2.2.1 q
  ·exact I2.stack.of_keeps λb o e _=>⟨o,to3 b o e,rfl⟩
 have I4:Inv X' [] (fe own ix σ) H2 {s2 with heap:=h₁,toks:=s2.toks + ([]:List (Str×Value)).length}:=by
  refine ⟨ok',rfl,I2.bare,Un.kept to1,⟨_,hns₁,λi x v e1 e2 e3=>?_⟩,λx c e=>?_,I2.hok.fresh (by show s2.heap.objs.size<=h3.objs.size;rw [hC];exact Nat.le_succ _),λx c e=>I2.freeC x c (S.cells x c e),λp hp=>absurd (show p∈([]:List (Addr×Obj)) from hp) (by simp),I2.hok.kept λb o e=>to1 b o (to3 b o e),?_⟩
  ·replace e1:(own++fr)[i]?=some x:=e1
   unfold fe at e2
   by_cases hlt:i < own.length
   ·rw [List.getElem?_append_left (by simpa using hlt),List.getElem?_replicate] at e2
    split at e2<;>cases e2
   ·rw [List.getElem?_append_right (by simpa using hlt)] at e1 e2
    rw [List.length_replicate,List.getElem?_map] at e2
    cases ek:ix[i - own.length]? with
    | none=>rw [ek] at e2;cases e2
    | some j=>
      rw [ek] at e2
      obtain ⟨n1,n2⟩:=S.at_ _ j x ek e1
      have e2':σ[j]?=some (some v):=by
       have q:(σ[j]?).join=some v:=Option.some.inj e2
       cases es:σ[j]? with
       | none=>rw [es] at q;cases q
       | some o=>rw [es] at q;exact congrArg some q
      obtain ⟨m,hn,hl⟩:=I2.loc
      obtain ⟨u,r,l⟩:=hl j x v n1 e2' (.inr (.inl n2))
      refine ⟨u,r,?_⟩
      have hfr:scope.names.lookup x=some .free:=S.frees x (List.mem_of_getElem? e1)
      rcases l with ⟨k,_⟩ | ⟨_,c,hcl,z⟩
      ·rw [n2] at k;cases k
      ·obtain ⟨c',hc'⟩:=S.has x hfr
       have q:=S.cells x c' hc'
       rw [hcl] at q
       cases q
       obtain ⟨oc,ho,hd⟩:=z
       exact .inr ⟨.inl (jF I2.ok.kind hfr n2),c,hc',oc,to1 _ _ (to3 _ _ ho),hd⟩
  ·obtain ⟨v',oc,ho,hd⟩:=I2.cell x c (S.cells x c e)
   exact ⟨v',oc,to1 _ _ (to3 _ _ ho),hd⟩
  ·show (fe own ix σ).length=(own++fr).length
   unfold fe
   rw [List.length_append,List.length_append,List.length_replicate,List.length_map,S.len]
 obtain ⟨hg,hf,he⟩:=hb h3.objs.size {s2 with heap:=h3} H2 (s2.heap.objs.size::fp)
 have hg:PG X' target g:=hg
 have hf:PF X' ifs tc:=hf
 have he:PE X' elt te:=he
 have locX:X'.env.locals=h3.objs.size:=rfl
 -- D's place
 have Dne:s2.heap.objs.size≠X'.env.locals:=by rw [locX,hC];exact Nat.ne_of_lt (Nat.lt_succ_self _)
 have Dfs:s2.heap.objs.size∉X'.fs:=ok'.exfs _ (List.mem_cons_self ..)
 have Dcl:∀x c,X'.env.cells.lookup x=some c->c≠s2.heap.objs.size:=λx c e=>(ok'.exf _ (List.mem_cons_self ..)).2 x c e
 have fpX:∀{pl:List (Addr×Obj)} {H':Hp},(∀p∈pl,p.1=s2.heap.objs.size)->(∀b∈fp,H' b=none)->∀b∈fp,gR X' pl H' b:=λhp hn b hb=>
  ⟨hn b hb,frC hb,ok'.exfs b (List.mem_cons_of_mem _ hb),.inl (List.mem_cons_of_mem _ hb),(ok'.exf b (List.mem_cons_of_mem _ hb)).2,λp q=>by
   rw [hp p (by simpa [show X'.pn=[] from rfl] using q)];exact Ne.symm (frD hb)⟩
 have pinD:∀{σ':St} {H':Hp} {s':Shared} {o:Obj},Inv X' [] σ' H' s'->s'.heap.get? s2.heap.objs.size=some o->H' s2.heap.objs.size=none->(∀v,o.data≠ .cell v)->Inv X' [(s2.heap.objs.size,o)] σ' H' s':=λI e n d=>
  I.gy λp hp=>by
    obtain rfl:=List.mem_singleton.mp hp
    exact ⟨e,n,Dne,Dfs,d⟩
 have loop:codeAny (model X.prog X.w) X.A (.compLoop (.ListComp elt [⟨target,iter,ifs,0⟩] scope pos) 0 (.ref it) (.ref s2.heap.objs.size) X'.env)
  (compPost (model X.prog X.w) X.A X.xe use Qf (.ref s2.heap.objs.size) h3.objs.size) {s2 with heap:=h₁,toks:=s2.toks + ([]:List (Str×Value)).length}:=by
  refine oA (λn s'=>∃i ys its k σ' H',Inv X' [] σ' H' s'/\tn i s'.heap/\(∀b∈fp,H' b=none)/\H' s2.heap.objs.size=none/\Vals ys its/\s'.heap.get? s2.heap.objs.size=some {cls:=.type "list",data:=.seq its.toArray k}/\W i n ys σ' H')
   ?_ m0 ⟨0,[],[],0,_,H2,I4,T.keep 0 _ _ st2 λb _ o e=>to1 b o (to3 b o e),λb hb'=>(f2 b hb').1,HD2,.nil,to1 _ _ getD3,w0⟩
  rintro n s5 ⟨i,ys,its,k,σ5,H5,I5,st5,fr5,hD5,vs5,get5,w5⟩
  obtain ⟨hlen,alt⟩:=turn i n ys σ5 H5 w5
  have P5:=pinD I5 get5 hD5 (λv z=>by cases z)
  have okp:∀p∈[(s2.heap.objs.size,({cls:=.type "list",data:=.seq its.toArray k}:Obj))],p.1=s2.heap.objs.size:=λp hp=>by
   rw [List.mem_singleton.mp hp]
  rcases alt with ⟨stop,q⟩ | ⟨go,step⟩
  ·refine aF (T.done X' rfl rfl rfl hc i _ s5 σ5 H5 _ P5 (fpX okp fr5) st5 stop) λr s6 ⟨hr,I6⟩=>?_
   subst hr
   obtain ⟨m6,hn6,_⟩:=I6.loc
   obtain ⟨get6,_,_,_,_⟩:=I6.pin (s2.heap.objs.size,({cls:=.type "list",data:=.seq its.toArray k}:Obj)) (List.mem_append_right _ (List.mem_singleton.mpr rfl))
   have toh:∀b o,b≠h3.objs.size->s6.heap.get? b=some o->s6.heap.get? b=some o:=λb o hb e=>e
   have exn:∀{b:Addr} {o:Obj},s2.heap.get? b=some o->b∉fp->b∉X'.ex:=λ{b o} e hb z=>by
    rcases List.mem_cons.mp z with z | z
    ·exact absurd (Heap.lt_size e) (by rw [z];exact Nat.lt_irrefl _)
    ·exact hb z
   have neC:∀{b:Addr} {o:Obj},s2.heap.get? b=some o->b≠h3.objs.size:=λ{b o} e z=>by
    have q1:=Heap.lt_size e
    rw [z,hC] at q1
    exact absurd q1 (Nat.not_lt.mpr (Nat.le_succ _))
   have neD:∀{b:Addr} {o:Obj},s2.heap.get? b=some o->b≠s2.heap.objs.size:=λ{b o} e=>Nat.ne_of_lt (Heap.lt_size e)
   have neD':∀{b:Addr} {o:HO},H2 b=some o->b≠s2.heap.objs.size:=λ{b o} e=>bY e HD2
   have U:Un (iM X.stack) fp H2 (upd H5 s2.heap.objs.size (.lst ys)) s2.heap s6.heap:=by
    refine ⟨λb o e n hb hx=>?_,λb o e n hb hx=>?_,λb o e n hx=>?_,λb o e hx=>?_,λb xs e=>?_,λb o u e=>?_,λb ps e=>?_⟩
    ·exact toh b o (neC e) (I6.base.keep b o (to3 b o e) n hb (exn e hx))
    ·obtain ⟨sl,q1⟩:=I6.base.slot b o (to3 b o e) n hb (exn e hx)
     exact ⟨sl,toh b _ (neC e) q1⟩
    ·rw [aw (neD e)]
     exact I6.base.free b o (to3 b o e) n (exn e hx)
    ·obtain ⟨o',q1⟩:=I6.base.there b o (to3 b o e) (exn e hx)
     exact ⟨o',toh b _ (neC e) q1⟩
    ·rw [aw (neD' e)];exact I6.base.tups b xs e
    ·rw [aw (neD' e)];exact I6.base.frzs b o u e
    ·rw [aw (neD' e)];exact I6.base.tbls b ps e
   have HC:H5 h3.objs.size=none:=I6.free
   have hok:cU X.prog X.w (upd H5 s2.heap.objs.size (.lst ys)) s6.heap:=λb u e=>by
    by_cases hbD:b=s2.heap.objs.size
    ·subst hbD
     rw [av] at e
     cases e
     exact ⟨hlen,its,k,vs5,toh _ _ (by rw [hC];exact Nat.ne_of_lt (Nat.lt_succ_self _)) get6⟩
    ·rw [aw hbD] at e
     refine (I6.hok b u e).stay (λc o hco q1=>toh c o (λz=>?_) q1) (λc q1=>by rw [aw (bY q1 hD5)];exact q1) λc xs q1=>by rw [aw (bY q1 hD5)];exact q1
     rcases hco with hco | hco
     ·rw [← hco,z,HC] at e;cases e
     ·rw [z,HC] at hco;cases hco
   have fin:=I2.CB (s':=s6) (ch:=fp) I6.os U hok I6.bare λb hb'=>⟨(f2 b hb').2.2.2.1,(f2 b hb').2.1,(f2 b hb').2.2.2.2.1,(f2 b hb').2.2.2.2.2⟩
   refine hfin _ h3.objs.size _ s6 fin ⟨⟨m6,hn6⟩,?_,?_,?_,λx c e z=>?_,λp hp z=>?_⟩ (q _ hD5)
   ·rw [aw (by rw [hC];exact Nat.ne_of_gt (Nat.lt_succ_self _))];exact HC
   ·intro z
    have:=I2.lt
    rw [← z,hC] at this
    exact absurd this (Nat.not_lt.mpr (Nat.le_succ _))
   ·rw [hC];exact Nat.le_trans I2.sz (Nat.le_succ _)
   ·obtain ⟨v',q1⟩:=I2.cell x c e
    have:=q1.lt
    rw [z,hC] at this
    exact absurd this (Nat.not_lt.mpr (Nat.le_succ _))
   ·have:=Heap.lt_size (I2.pin p hp).1
    rw [z,hC] at this
    exact absurd this (Nat.not_lt.mpr (Nat.le_succ _))
  ·refine aF (T.item X' rfl rfl rfl hc i _ s5 σ5 H5 _ P5 (fpX okp fr5) st5 go) λr s6 ⟨u,hr,h6⟩=>?_
   subst hr
   refine aF h6 λ_ s7 ⟨x,H7,I7,r7,y7,st7,fr7⟩=>?_
   have I7':=I7.pinned (fpX okp fr7) (T.obj _ _ st7)
   refine aF (hg _ s7 σ5 H7 x u _ I7' r7 (step x H7 y7)) λ_ s8 ⟨σ8,H8,I8,q8⟩=>?_
   refine aF (hf _ s8 σ8 H8 _ I8 q8) λb s9 ⟨H9,I9,q9⟩=>?_
   have out:∀{σ':St} {H':Hp} {s':Shared},Inv X' ([(s2.heap.objs.size,({cls:=.type "list",data:=.seq its.toArray k}:Obj))]++iE fp s7.heap) σ' H' s'->
    tn (i + 1) s'.heap/\(∀b∈fp,H' b=none)/\H' s2.heap.objs.size=none/\s'.heap.get? s2.heap.objs.size=some {cls:=.type "list",data:=.seq its.toArray k}:=λI'=>by
    refine ⟨T.keep _ _ _ st7 λb hb' o e=>(I'.pin (b,o) (List.mem_append_right _ (List.mem_append_right _ (gp hb' e)))).1,λb hb'=>?_,(I'.pin (s2.heap.objs.size,({cls:=.type "list",data:=.seq its.toArray k}:Obj)) (List.mem_append_right _ (List.mem_append_left _ (List.mem_singleton.mpr rfl)))).2.1,(I'.pin (s2.heap.objs.size,({cls:=.type "list",data:=.seq its.toArray k}:Obj)) (List.mem_append_right _ (List.mem_append_left _ (List.mem_singleton.mpr rfl)))).1⟩
    obtain ⟨o,e,d⟩:=T.obj _ _ st7 b hb'
    exact (I'.pin (b,o) (List.mem_append_right _ (List.mem_append_right _ (gp hb' e)))).2.1
   cases b with
   | false=>
     rw [if_neg Bool.false_ne_true] at q9 ⊢
     obtain ⟨m',hm,w'⟩:=q9
     obtain ⟨o1,o2,o3,o4⟩:=out I9
     exact ⟨m',hm,i + 1,ys,its,k,σ8,H9,I9.gy (λ_ z=>nomatch z),o1,o2,o3,vs5,o4,w'⟩
   | true=>
     rw [if_pos rfl] at q9 ⊢
     refine aF (he _ s9 σ8 H9 _ I9 q9) λuv s10 ⟨v10,H10,I10,r10,q10⟩=>?_
     obtain ⟨m',hm,w'⟩:=q10
     obtain ⟨o1,o2,o3,o4⟩:=out I10
     refine wpAny_list_append_plain ⟨k,o4⟩ (λh' hpl hsb=>?_) (by
      have:=vs5.length
      rw [List.size_toArray,← this];exact hlen)
     obtain ⟨k',hk'⟩:=hpl
     have I11:Inv X' (iE fp s7.heap) σ8 H10 s10:=I10.gy λp hp=>I10.pin p (List.mem_append_right _ (List.mem_append_right _ hp))
     have I12:Inv X' [] σ8 H10 {s10 with heap:=h'}:=(I10.gy (λ_ z=>nomatch z):Inv X' [] σ8 H10 s10).turned (t':=s10.toks) (λb o hb' e=>hsb.extBut b o hb' e) o3 Dne (.inl (List.mem_cons_self ..)) Dcl (λp hp=>absurd (show p∈([]:List (Addr×Obj)) from hp) (by simp))
     refine ⟨m',hm,i + 1,ys++[v10],its++[uv],k',σ8,H10,I12,T.keep _ _ _ o1 λb hb' o e=>hsb.extBut b o (frD hb') e,o2,o3,vs5.append (.cons r10 .nil),?_,w'⟩
     show h'.get? _=_
     rw [hk']
     simp
 exact codeAny_compStart_list loop (T.self X.A 0 _ _ _ (T.keep 0 _ _ st2 λb _ o e=>to1 b o (to3 b o e)) loop)
theorem Off.gone {pins:List (Addr×Obj)}{σ:St}{H:Hp}{C:Addr}{h':Heap}(o:Off X pins H s C)(I:Inv X pins σ H s)(hsb:Heap.SameBut C s.heap h'):Inv X pins σ H {s with heap:=h'}:=
 I.turned (t':=s.toks) (λb u hb e=>hsb.extBut b u hb e) o.free o.ne (.inr o.young) o.cell o.pin
theorem yB {cl:List (Str×Addr)}{own:List Str}
 (hc:X.calm=true) (S:dN X scope cl own fr ix) (hi:PI X target iter wi)
 (hb:∀(C:Addr) (s:Shared) (H:Hp) (ex:List Addr),PG (br X scope cl C (own++fr) s H ex) target g/\PF (br X scope cl C (own++fr) s H ex) ifs tc/\PE (br X scope cl C (own++fr) s H ex) elt te)
 (hs:∀x,foldedSetIterable iter X.env x=pure x:=by intro _;rfl):
 PE X (.ListComp elt [⟨target,iter,ifs,0⟩] scope pos) (sg wi g tc te (fe own ix)):=by
 intro pins s σ H Q I h
 rw [eval_ListComp]
 refine mU (use:=none) hc S hi hb hs I h λD C H6 s6 I6 o6 q=>?_
 obtain ⟨m,hn⟩:=o6.ns
 exact ⟨m,hn,λh' hsb=>⟨.ref D,H6,o6.gone I6 hsb,rfl,q⟩⟩
theorem rP {i:Nat}{y:Str}{py spos:Pos}{cl:List (Str×Addr)}{own:List Str}
 (hsw:swapsWith (.ListComp elt [⟨target,iter,ifs,0⟩] scope pos) (some (.Name y py)) spos.line X.env=pure true)
 (hN:X.N.Nodup) (hi':X.N[i]?=some y) (hx:Loc X.env.scope y)
 (hc:X.calm=true) (S:dN X scope cl own fr ix) (hi:PI X target iter wi)
 (hb:∀(C:Addr) (s:Shared) (H:Hp) (ex:List Addr),PG (br X scope cl C (own++fr) s H ex) target g/\PF (br X scope cl C (own++fr) s H ex) ifs tc/\PE (br X scope cl C (own++fr) s H ex) elt te)
 (hs:∀x,foldedSetIterable iter X.env x=pure x:=by intro _;rfl)
 (hf:X.fn y=true∨X.env.scope.names.lookup y=some .local:=by first | exact .inl rfl | exact .inr rfl | assumption):
 PS X (.Assign [.Name y py] (.ListComp elt [⟨target,iter,ifs,0⟩] scope pos) spos) (wb (sg wi g tc te (fe own ix)) (r6 i)):=by
 intro pins s σ H D I h
 rw [exec_Assign_Name_used _ _ _ _ hsw]
 refine wpAny_bind (wpAny_standAt (wpAny_bind ?_))
 show wpAny _ _ (do let _ ← comprehension (.ListComp elt [⟨target,iter,ifs,0⟩] scope pos) scope X.env _ (newList []) false (eval iter X.env) (some (assign (.Name y py) X.env))) _ _ s
 refine wpAny_bind (wpAny_mono (mU (use:=some (assign (.Name y py) X.env)) (Qf:=λ_ s'=>SP X pins D .next s') hc S hi hb hs I h λA C H6 s6 I6 o6 q=>?_) (λ_ s' hq=>wpAny_pure (wpAny_pure hq)) λ_ _ e=>e)
 show wpAny _ _ (assign (.Name y py) X.env (.ref A)) _ _ _
 refine wpAny_assign_Name (mM I6 hN hi' hx (v:=.ref A) rfl (λs7 I7 hw=>?_) hf)
 obtain ⟨c,hsb7,hcc⟩:=hw
 have neC:C≠c:=by
  rcases hcc with rfl | hcc
  ·exact o6.ne
  ·exact Ne.symm (o6.cell y c hcc)
 obtain ⟨m,hn⟩:=o6.ns
 have o7:Off X pins H6 s7 C:=⟨⟨m,hn.sameBut hsb7 neC⟩,o6.free,o6.ne,o6.young,o6.cell,o6.pin⟩
 exact ⟨m,hn.sameBut hsb7 neC,λh' hsb=>⟨_,H6,o7.gone I7 hsb,q⟩⟩
end
end L2
namespace Fc
open PySem PySem.Spec L2
open PyProof.Rows hiding St
section
variable {X:Cx}
variable {e:Expr}{σ:St}{H:Hp}{t:TT}{Q:Bool->Hp->Prop}
def eP (X:Cx)(e:Expr):TE:=λσ H Q=>∀(pins:List (Addr×Obj)) (s:Shared),Inv X pins σ H s->wpAny (model X.prog X.w) X.A (eval e X.env) (EP X pins σ Q) X.xe s
def wj (X:Cx)(e:Expr):TT:=λσ H Q=>∀(pins:List (Addr×Obj)) (s:Shared),Inv X pins σ H s->wpAny (model X.prog X.w) X.A (isTrue e X.env (eval e X.env)) (TP X pins σ Q) X.xe s
def v5 (X:Cx)(e:Expr):TT:=λσ H Q=>∀(whole:Sem Value) (pins:List (Addr×Obj)) (s:Shared),Inv X pins σ H s->wpAny (model X.prog X.w) X.A (isTrue e X.env whole) (TP X pins σ Q) X.xe s
def md (X:Cx)(e:Expr):TG:=λv σ H Q=>∀(pins:List (Addr×Obj)) (s:Shared) (u:Value),Inv X pins σ H s->RelV v u->wpAny (model X.prog X.w) X.A (assign e X.env u) (λ_ s'=>∃σ' H',Inv X pins σ' H' s'/\Q σ' H') X.xe s
def vZ (X:Cx)(st:Stmt):TS:=λD σ H=>∀(pins:List (Addr×Obj)) (s:Shared),Inv X pins σ H s->wpAny (model X.prog X.w) X.A (exec st X.env) (SP X pins D) X.xe s
def nz (X:Cx)(st:List Stmt):TS:=λD σ H=>∀(pins:List (Addr×Obj)) (s:Shared),Inv X pins σ H s->wpAny (model X.prog X.w) X.A (execs st X.env) (SP X pins D) X.xe s
def rD (X:Cx)(es:List Expr):TA:=λσ H Q=>∀(pos:Pos) (pins:List (Addr×Obj)) (s:Shared),Inv X pins σ H s->wpAny (model X.prog X.w) X.A (spliced (backTo pos (starEach es X.env))) (AP X pins σ Q) X.xe s
def nX (X:Cx)(ifs:List Expr):TT:=λσ H Q=>∀(pins:List (Addr×Obj)) (s:Shared),Inv X pins σ H s->
 wpAny (model X.prog X.w) X.A (forIn ifs true λc r=>if r=true then do let ok ← isTrue c X.env (eval c X.env);pure (ForInStep.yield ok) else pure (ForInStep.yield r)) (TP X pins σ Q) X.xe s
theorem aJ:PE X e (eP X e):=λpins s _ _ _ I h=>h pins s I
theorem kO:PT X e (wj X e):=λpins s _ _ _ I h=>h pins s I
theorem z1:PW X e (v5 X e):=λwh pins s _ _ _ I h=>h wh pins s I
theorem pgS:PG X e (md X e):=λpins s _ _ _ u _ I r h=>h pins s u I r
theorem EX {e:Stmt}:PS X e (vZ X e):=λpins s _ _ _ I h=>h pins s I
theorem ie {e:List Stmt}:gF X e (nz X e):=λpins s _ _ _ I h=>h pins s I
theorem jm {e:List Expr}:PA X e (rD X e):=λpos pins s _ _ _ I h=>h pos pins s I
theorem eS {t:TE}(h:PE X e t){Q:VK}(q:t σ H Q):eP X e σ H Q:=λpins s I=>h pins s σ H Q I q
theorem tS (h:PT X e t)(q:t σ H Q):wj X e σ H Q:=λpins s I=>h pins s σ H Q I q
theorem wS (h:PW X e t)(q:t σ H Q):v5 X e σ H Q:=λwh pins s I=>h wh pins s σ H Q I q
theorem gS {t:TG}(h:PG X e t){v:V}{Q:St->Hp->Prop}(q:t v σ H Q):md X e v σ H Q:=λpins s u I r=>h pins s σ H v u Q I r q
theorem sS {e:Stmt}{t:TS}(h:PS X e t){D:Ends}(q:t D σ H):vZ X e D σ H:=λpins s I=>h pins s σ H D I q
theorem Bu {e:List Stmt}{t:TS}(h:gF X e t){D:Ends}(q:t D σ H):nz X e D σ H:=λpins s I=>h pins s σ H D I q
theorem aS {e:List Expr}{t:TA}(h:PA X e t){Q:List V->Hp->Prop}(q:t σ H Q):rD X e σ H Q:=λpos pins s I=>h pos pins s σ H Q I q
theorem fS {e:List Expr}(h:PF X e t)(q:t σ H Q):nX X e σ H Q:=λpins s I=>h pins s σ H Q I q
end
section
variable {H R:Hp}{α:Type}
theorem ak.fresh {p:Addr}(h:H p=none)(o:HO):ak H (upd H p o):=λb u q=>by rw [aw (bY q h)];exact q
structure Rep (α:Type) where
 R:PySem.W.Frag->Hp->V->α->Prop
 mono:∀{K:PySem.W.Frag} {H H':Hp} {v:V} {x:α},ak H H'->R K H v x->R K H' v x
def ab:Rep Int:=⟨λ_ _ v x=>v= .int x,λ_ h=>h⟩
def cx:Rep Bool:=⟨λ_ _ v x=>v= .bl x,λ_ h=>h⟩
theorem Paired.map {β:Type}{F G:α->β->Prop}(f:∀a b,F a b->G a b):∀{l:List α} {m:List β},PySem.Paired F l m->PySem.Paired G l m
 | _,_,.nil=>.nil
 | _,_,.cons h t=>.cons (f _ _ h) (Paired.map f t)
def ae (r:Rep α):Rep (List α):=⟨λK H v xs=>∃a vs,v= .ref a/\H a=some (.lst vs)/\PySem.Paired (r.R K H) vs xs/\xs.length<=sizeLine,
 λs ⟨a,vs,e,q,p,z⟩=>⟨a,vs,e,s _ _ q,Paired.map (λ_ _=>r.mono s) p,z⟩⟩
def bp:Rep (List Int):=⟨λK H v xs=>∃a,v= .ref a/\aM K H a (xs.map V.int)/\xs.length<=63,λs ⟨a,e,q,z⟩=>⟨a,e,s.seq q,z⟩⟩
def fD {β:Type}(r:Rep α)(r':Rep β):Rep (α×β):=⟨λK H v x=>∃a v1 v2,v= .ref a/\H a=some (.tup [v1,v2])/\r.R K H v1 x.1/\r'.R K H v2 x.2,
 λs ⟨a,v1,v2,e,q,h1,h2⟩=>⟨a,v1,v2,e,s _ _ q,r.mono s h1,r'.mono s h2⟩⟩
structure Ext (H R H' R':Hp):Prop where
 h:ak H H'
 r:ak R R'
 s:ak R' H'
 old:∀b,H b≠none->R' b=R b
theorem Ext.refl (s:ak R H):Ext H R H R:=⟨ak.refl _,ak.refl _,s,λ_ _=>rfl⟩
theorem ak.some {H':Hp}(s:ak H H'){b:Addr}(h:H b≠none):H' b≠none:=by
 cases q:H b with
 | none=>exact absurd q h
 | some o=>rw [s b o q];exact Option.some_ne_none o
theorem Ext.trans {H1 R1 H2 R2:Hp}(a:Ext H R H1 R1)(b:Ext H1 R1 H2 R2):Ext H R H2 R2:=
 ⟨a.h.trans b.h,a.r.trans b.r,b.s,λc hc=>(b.old c (ak.some a.h hc)).trans (a.old c hc)⟩
theorem Ext.fresh (s:ak R H){p:Addr}(h:H p=none)(o:HO):Ext H R (upd H p o) (upd R p o):=
 ⟨ak.fresh h o,ak.fresh (s.free h) o,λb u q=>by
  by_cases e:b=p
  ·subst e;rw [av] at q ⊢;exact q
  ·rw [aw e] at q ⊢;exact s b u q,λb hb=>aw λe=>hb (e▸h)⟩
theorem Ext.dy (s:ak R H){p:Addr}(h:H p=none)(o:HO):Ext H R (upd H p o) R:=
 ⟨ak.fresh h o,ak.refl _,s.trans (ak.fresh h o),λ_ _=>rfl⟩
structure qi:Type 1 where
 fp:List Addr
 R:PySem.W.Frag->Hp->Hp->V->Prop
 loc:∀{K:PySem.W.Frag} {H R0 H' R':Hp} {v:V},(∀a∈fp,H' a=H a)->ak R0 R'->R K H R0 v->R K H' R' v
 has:∀{K:PySem.W.Frag} {H R0:Hp} {v:V},R K H R0 v->∀a∈fp,H a≠none
inductive Ent:Type 1
 | no
 | im {α:Type} (r:Rep α) (x:α)
 | mu {α:Type} (r:Rep α) (xs:List α)
 | di (kvs:List (Int×V))
 | ob (B:qi)
def bH (kvs:List (Int×V)):List (Key×V):=kvs.map λp=>(Sum.inl p.1,p.2)
def Ent.ok (K:PySem.W.Frag)(H R:Hp):Ent->Option V->Prop
 | .no,_=>True
 | .im r x,o=>∃v,o=some v/\r.R K R v x
 | .mu r xs,o=>∃a vs,o=some (.ref a)/\H a=some (.lst vs)/\R a=none/\PySem.Paired (r.R K R) vs xs
 | .di kvs,o=>∃a,o=some (.ref a)/\H a=some (.dK (bH kvs))/\R a=none
 | .ob B,o=>(∃v,o=some v/\B.R K H R v)/\∀a∈B.fp,R a=none
def Ent.own:Ent->Bool
 | .mu .. =>true
 | .di .. =>true
 | _=>false
def refOf:Option V->List Addr
 | some (.ref a)=>[a]
 | _=>[]
def Ent.fp:Ent->Option V->List Addr
 | .mu ..,o=>refOf o
 | .di ..,o=>refOf o
 | .ob B,_=>B.fp
 | _,_=>[]
abbrev Ga:=List Ent
structure ao (K:PySem.W.Frag) (σ:St) (H0 R0 H R:Hp) (Γ:Ga):Prop where
 ext:Ext H0 R0 H R
 ent:∀(i:Nat) (e:Ent),Γ[i]?=some e->e.ok K H R (σ[i]?).join
 nw:∀(i:Nat) (e:Ent) (a:Addr),Γ[i]?=some e->a∈e.fp (σ[i]?).join->H0 a=none
 ds:∀(i j:Nat) (e e':Ent) (a:Addr),Γ[i]?=some e->Γ[j]?=some e'->a∈e.fp (σ[i]?).join->a∈e'.fp (σ[j]?).join->i=j
 len:Γ.length=σ.length
end
section
variable {K:PySem.W.Frag}{σ:St}{H0 R0 H R H' R':Hp}{Γ:Ga}{α:Type}{r:Rep α}
variable {a:Addr}{o:Option V}{u:HO}{i:Nat}
theorem bR:a∈refOf o↔o=some (.ref a):=by
 unfold refOf
 split
 ·rw [List.mem_singleton];constructor
  ·rintro rfl;rfl
  ·intro e;cases e;rfl
 ·rename_i h
  constructor
  ·intro z;cases z
  ·intro e;exact absurd e (h a)
theorem Ent.lF {e:Ent}(w:e.own=true):a∈e.fp o↔o=some (.ref a):=by
 cases e with
 | no=>cases w
 | im r x=>cases w
 | mu r xs=>exact bR
 | di kvs=>exact bR
 | ob B=>cases w
theorem ao.new (E:ao K σ H0 R0 H R Γ)(i:Nat)(e:Ent)(a:Addr)(h:Γ[i]?=some e)(w:e.own=true)(ha:(σ[i]?).join=some (.ref a)):H0 a=none:=E.nw i e a h ((Ent.lF w).mpr ha)
theorem Ent.fI {e:Ent}(h:e.ok K H R o)(ha:a∈e.fp o):H a≠none/\R a=none:=by
 cases e with
 | no=>cases ha
 | im r x=>cases ha
 | mu r xs=>
   obtain ⟨b,vs,e,q,n,_⟩:=h
   rw [Ent.fp,bR,e] at ha
   cases ha
   exact ⟨by rw [q];exact Option.some_ne_none _,n⟩
 | di kvs=>
   obtain ⟨b,e,q,n⟩:=h
   rw [Ent.fp,bR,e] at ha
   cases ha
   exact ⟨by rw [q];exact Option.some_ne_none _,n⟩
 | ob B=>obtain ⟨⟨v,e,q⟩,n⟩:=h;exact ⟨B.has q a ha,n a ha⟩
theorem Ent.ok.loc {e:Ent}(h:e.ok K H R o)(hH:∀a∈e.fp o,H' a=H a)(hR:ak R R')(hn:∀a∈e.fp o,R' a=none):e.ok K H' R' o:=by
 cases e with
 | no=>trivial
 | im r y=>obtain ⟨v,e,q⟩:=h;exact ⟨v,e,r.mono hR q⟩
 | mu r xs=>
   obtain ⟨a,vs,e,q,n,p⟩:=h
   have ha:a∈Ent.fp (.mu r xs) o:=bR.mpr e
   exact ⟨a,vs,e,(hH a ha).trans q,hn a ha,Paired.map (λ_ _=>r.mono hR) p⟩
 | di kvs=>
   obtain ⟨a,e,q,n⟩:=h
   have ha:a∈Ent.fp (.di kvs) o:=bR.mpr e
   exact ⟨a,e,(hH a ha).trans q,hn a ha⟩
 | ob B=>obtain ⟨⟨v,e,q⟩,n⟩:=h;exact ⟨⟨v,e,B.loc hH hR q⟩,hn⟩
theorem Ent.ok.grow {e:Ent}(h:e.ok K H R o)(x:Ext H R H' R'):e.ok K H' R' o:=by
 refine h.loc (λa ha=>?_) x.r (λa ha=>?_)
 ·cases q:H a with
  | none=>exact absurd q (Ent.fI h ha).1
  | some u=>exact x.h _ _ q
 ·obtain ⟨h1,h2⟩:=Ent.fI h ha
  exact (x.old a h1).trans h2
theorem ao.grow (E:ao K σ H0 R0 H R Γ)(x:Ext H R H' R'):ao K σ H0 R0 H' R' Γ:=
 ⟨E.ext.trans x,λi e h=>(E.ent i e h).grow x,E.nw,E.ds,E.len⟩
theorem ao.sub (E:ao K σ H0 R0 H R Γ):ak R H:=E.ext.s
def Off (a:Addr)(σ:St)(Γ:Ga):Prop:=∀(i:Nat) (e:Ent),Γ[i]?=some e->a∉e.fp (σ[i]?).join
theorem ao.off (E:ao K σ H0 R0 H R Γ)(h:H a=none):Off a σ Γ:=λi e q w=>(Ent.fI (E.ent i e q) w).1 h
theorem set_at.{v}{β:Type v}{l:List β}{i:Nat}{y:β}{j:Nat}{e:β}(q:(l.set i y)[j]?=some e):(j=i/\e=y/\i < l.length)∨(j≠i/\l[j]?=some e):=by
 by_cases hj:j=i
 ·subst hj
  have hl:j < l.length:=by
   have:=List.getElem?_eq_some_iff.mp q
   simpa using this.1
  rw [List.getElem?_set_self hl] at q
  exact .inl ⟨rfl,(Option.some.inj q).symm,hl⟩
 ·rw [List.getElem?_set_ne (Ne.symm hj)] at q
  exact .inr ⟨hj,q⟩
theorem ao.setG (E:ao K σ H0 R0 H R Γ)(i:Nat){v:V}{en:Ent}(ho:en.ok K H R (some v))(h0:∀a∈en.fp (some v),H0 a=none)(hf:∀a∈en.fp (some v),∀(j:Nat) (e:Ent),j≠i->Γ[j]?=some e->a∉e.fp (σ[j]?).join):
 ao K (σ.set i (some v)) H0 R0 H R (Γ.set i en):=by
 have key:∀(j:Nat) (e:Ent),(Γ.set i en)[j]?=some e->(j=i/\e=en/\((σ.set i (some v))[j]?).join=some v)∨(j≠i/\Γ[j]?=some e/\(σ.set i (some v))[j]?=σ[j]?):=λj e q=>by
  rcases set_at q with ⟨rfl,rfl,hl⟩ | ⟨hj,q⟩
  ·exact .inl ⟨rfl,rfl,by rw [List.getElem?_set_self (by rw [← E.len];exact hl)];rfl⟩
  ·exact .inr ⟨hj,q,List.getElem?_set_ne (Ne.symm hj)⟩
 refine ⟨E.ext,λj e q=>?_,λj e a q w=>?_,λj k e e' a q q' w w'=>?_,by rw [List.length_set,List.length_set];exact E.len⟩
 ·rcases key j e q with ⟨_,rfl,q2⟩ | ⟨_,q1,q2⟩
  ·rw [q2];exact ho
  ·rw [q2];exact E.ent j e q1
 ·rcases key j e q with ⟨_,rfl,q2⟩ | ⟨_,q1,q2⟩
  ·rw [q2] at w;exact h0 a w
  ·rw [q2] at w;exact E.nw j e a q1 w
 ·rcases key j e q with ⟨hj,rfl,q2⟩ | ⟨hj,q1,q2⟩
  ·rcases key k e' q' with ⟨hk,rfl,q2'⟩ | ⟨hk,q1',q2'⟩
   ·rw [hj,hk]
   ·rw [q2] at w;rw [q2'] at w';exact absurd w' (hf a w k e' hk q1')
  ·rcases key k e' q' with ⟨hk,rfl,q2'⟩ | ⟨hk,q1',q2'⟩
   ·rw [q2] at w;rw [q2'] at w';exact absurd w (hf a w' j e hj q1)
   ·rw [q2] at w;rw [q2'] at w';exact E.ds j k e e' a q1 q1' w w'
theorem ao.set (E:ao K σ H0 R0 H R Γ)(i:Nat){v:V}{x:α}(h:r.R K R v x):ao K (σ.set i (some v)) H0 R0 H R (Γ.set i (.im r x)):=
 E.setG i ⟨v,rfl,h⟩ (λa w=>by cases w) λa w=>by cases w
theorem ao.sr (E:ao K σ H0 R0 H R Γ)(i:Nat){u:HO}{en:Ent}(ho:en.ok K H R (some (.ref a)))(h0:H0 a=none)(hf:∀(j:Nat) (e:Ent),j≠i->Γ[j]?=some e->a∉e.fp (σ[j]?).join)(hfp:en.fp (some (.ref a))=[a]:=by rfl):
 ao K (σ.set i (some (.ref a))) H0 R0 H R (Γ.set i en):=
 E.setG i ho (λb w=>by rw [hfp,List.mem_singleton] at w;rw [w];exact h0) λb w=>by rw [hfp,List.mem_singleton] at w;rw [w];exact hf
theorem ao.me (E:ao K σ H0 R0 H R Γ){e0 en:Ent}(hi:Γ[i]?=some e0)(ha:a∈e0.fp (σ[i]?).join)(ho:en.ok K (L2.upd H a u) R (σ[i]?).join)
 (hsub:∀b∈en.fp (σ[i]?).join,b∈e0.fp (σ[i]?).join∨(H0 b=none/\Off b σ Γ)):ao K σ H0 R0 (L2.upd H a u) R (Γ.set i en):=by
 have h0:H0 a=none:=E.nw i e0 a hi ha
 have hR:R a=none:=(Ent.fI (E.ent i e0 hi) ha).2
 refine ⟨⟨λb o q=>?_,E.ext.r,λb o q=>?_,E.ext.old⟩,λj e q=>?_,λj e b q w=>?_,λj k e e' b q q' w w'=>?_,by rw [List.length_set];exact E.len⟩
 ·rw [aw (bY q h0)];exact E.ext.h b o q
 ·rw [aw (bY q hR)];exact E.ext.s b o q
 ·rcases set_at q with ⟨rfl,rfl,_⟩ | ⟨hj,q1⟩
  ·exact ho
  ·refine (E.ent j e q1).loc (λb hb=>aw λz=>hj ?_) (ak.refl _) λb hb=>(Ent.fI (E.ent j e q1) hb).2
   rw [z] at hb
   exact E.ds j i e e0 a q1 hi hb ha
 ·rcases set_at q with ⟨rfl,rfl,_⟩ | ⟨hj,q1⟩
  ·rcases hsub b w with z | z
   ·exact E.nw _ _ b hi z
   ·exact z.1
  ·exact E.nw j e b q1 w
 ·rcases set_at q with ⟨rfl,rfl,_⟩ | ⟨hj,q1⟩
  ·rcases set_at q' with ⟨rfl,rfl,_⟩ | ⟨hk,q1'⟩
   ·rfl
   ·rcases hsub b w with z | z
    ·exact E.ds _ _ _ _ b hi q1' z w'
    ·exact absurd w' (z.2 k e' q1')
  ·rcases set_at q' with ⟨rfl,rfl,_⟩ | ⟨hk,q1'⟩
   ·rcases hsub b w' with z | z
    ·exact E.ds _ _ _ _ b q1 hi w z
    ·exact absurd w (z.2 j e q1)
   ·exact E.ds _ _ _ _ b q1 q1' w w'
theorem ao.upd (E:ao K σ H0 R0 H R Γ){e0 en:Ent}(hi:Γ[i]?=some e0)(w0:e0.own=true)(ha:(σ[i]?).join=some (.ref a))(hR:R a=none)(ho:en.ok K (L2.upd H a u) R (some (.ref a)))(hfp:en.fp (some (.ref a))=[a]:=by rfl):
 ao K σ H0 R0 (L2.upd H a u) R (Γ.set i en):=
 E.me hi ((Ent.lF w0).mpr ha) (by rw [ha];exact ho) λb w=>.inl (by rw [ha,hfp,List.mem_singleton] at w;rw [w];exact (Ent.lF w0).mpr ha)
theorem ao.nu (E:ao K σ H0 R0 H R Γ)(ha:H a=some u)(hR:R a=none)(h0:H0 a=none)(off:Off a σ Γ):ao K σ H0 R0 H (L2.upd R a u) Γ:=by
 have s2:ak R (L2.upd R a u):=ak.fresh hR _
 refine ⟨⟨E.ext.h,E.ext.r.trans s2,λb o qb=>?_,λb hb=>?_⟩,λi e qe=>?_,E.nw,E.ds,E.len⟩
 ·by_cases hb:b=a
  ·subst hb;rw [av] at qb;cases qb;exact ha
  ·rw [aw hb] at qb;exact E.ext.s b o qb
 ·rw [aw (show b≠a from λe=>hb (by rw [e];exact h0))];exact E.ext.old b hb
 ·refine (E.ent i e qe).loc (λ_ _=>rfl) s2 λb hb=>?_
  rw [aw (show b≠a from λz=>off i e qe (z▸hb))]
  exact (Ent.fI (E.ent i e qe) hb).2
theorem ao.tell (E:ao K σ H0 R0 H R Γ){e0 en:Ent}(hi:Γ[i]?=some e0)(ho:en.ok K H R (σ[i]?).join)(hsub:∀b∈en.fp (σ[i]?).join,b∈e0.fp (σ[i]?).join):ao K σ H0 R0 H R (Γ.set i en):=by
 refine ⟨E.ext,λj e q=>?_,λj e b q w=>?_,λj k e e' b q q' w w'=>?_,by rw [List.length_set];exact E.len⟩
 ·rcases set_at q with ⟨rfl,rfl,_⟩ | ⟨hj,q1⟩
  ·exact ho
  ·exact E.ent j e q1
 ·rcases set_at q with ⟨rfl,rfl,_⟩ | ⟨hj,q1⟩
  ·exact E.nw _ _ b hi (hsub b w)
  ·exact E.nw j e b q1 w
 ·rcases set_at q with ⟨rfl,rfl,_⟩ | ⟨hj,q1⟩
  ·rcases set_at q' with ⟨rfl,rfl,_⟩ | ⟨hk,q1'⟩
   ·rfl
   ·exact E.ds _ _ _ _ b hi q1' (hsub b w) w'
  ·rcases set_at q' with ⟨rfl,rfl,_⟩ | ⟨hk,q1'⟩
   ·exact E.ds _ _ _ _ b q1 hi w (hsub b w')
   ·exact E.ds _ _ _ _ b q1 q1' w w'
def Wk:Ga->Ga->Prop
 | [],[]=>True
 | e::r,e'::r'=>(e'=e∨e'= .no)/\Wk r r'
 | _,_=>False
theorem Wk.len:∀{Γ Γ':Ga},Wk Γ Γ'->Γ'.length=Γ.length
 | [],[],_=>rfl
 | _::_,_::_,h=>by rw [List.length_cons,List.length_cons,Wk.len h.2]
theorem Wk.at:∀{Γ Γ':Ga},Wk Γ Γ'->∀(i:Nat) (e:Ent),Γ'[i]?=some e->e= .no∨Γ[i]?=some e
 | [],[],_,i,e,q=>by simp at q
 | a::_,b::_,h,0,e,q=>by
   simp at q
   rcases h.1 with z | z
   ·right;simp [← q,z]
   ·left;rw [← q,z]
 | a::r,b::r',h,i + 1,e,q=>by
   simp at q
   have:=Wk.at h.2 i e q
   simpa using this
theorem Wk.refl:∀Γ:Ga,Wk Γ Γ
 | []=>trivial
 | _::r=>⟨.inl rfl,Wk.refl r⟩
theorem ao.weak (E:ao K σ H0 R0 H R Γ){Γ':Ga}(w:Wk Γ Γ'):ao K σ H0 R0 H R Γ':=by
 refine ⟨E.ext,λi e q=>?_,λi e a q z=>?_,λi j e e' a q q' z z'=>?_,w.len.trans E.len⟩
 ·rcases w.at i e q with rfl | q
  ·trivial
  ·exact E.ent i e q
 ·rcases w.at i e q with rfl | q
  ·cases z
  ·exact E.nw i e a q z
 ·rcases w.at i e q with rfl | q
  ·cases z
  ·rcases w.at j e' q' with rfl | q'
   ·cases z'
   ·exact E.ds i j e e' a q q' z z'
end
section
variable {X:Cx}{Γ Γ1 Γ2 Γ3:Ga}{α β γ:Type}
variable {pos:Pos}{r:Rep α}
def EV (X:Cx)(e:Expr)(Γ:Ga){α:Type}(r:Rep α)(y:α)(Γ':Ga):Prop:=
 ∀(σ:St) (H0 R0 H R:Hp),ao X.K σ H0 R0 H R Γ->∀Q:VK,(∀v H' R',ao X.K σ H0 R0 H' R' Γ'->ak R R'->r.R X.K R' v y->Q v H')->eP X e σ H Q
def aV (X:Cx)(e:Expr)(Γ:Ga){α:Type}(r:Rep α)(ys:List α)(Γ':Ga):Prop:=
 ∀(σ:St) (H0 R0 H R:Hp),ao X.K σ H0 R0 H R Γ->∀Q:VK,(∀a vs H' R',ao X.K σ H0 R0 H' R' Γ'->ak R R'->H' a=some (.lst vs)->R' a=none->H0 a=none->Off a σ Γ'->PySem.Paired (r.R X.K R') vs ys->ys.length<=sizeLine->Q (.ref a) H')->eP X e σ H Q
def TV (X:Cx)(e:Expr)(Γ:Ga)(b:Bool)(Γ':Ga):Prop:=
 ∀(σ:St) (H0 R0 H R:Hp),ao X.K σ H0 R0 H R Γ->∀Q:Bool->Hp->Prop,(∀H' R',ao X.K σ H0 R0 H' R' Γ'->ak R R'->Q b H')->wj X e σ H Q
def TW (X:Cx)(e:Expr)(Γ:Ga)(b:Bool)(Γ':Ga):Prop:=
 ∀(σ:St) (H0 R0 H R:Hp),ao X.K σ H0 R0 H R Γ->∀Q:Bool->Hp->Prop,(∀H' R',ao X.K σ H0 R0 H' R' Γ'->ak R R'->Q b H')->v5 X e σ H Q
def TF (X:Cx)(es:List Expr)(Γ:Ga)(b:Bool)(Γ':Ga):Prop:=
 ∀(σ:St) (H0 R0 H R:Hp),ao X.K σ H0 R0 H R Γ->∀Q:Bool->Hp->Prop,(∀H' R',ao X.K σ H0 R0 H' R' Γ'->ak R R'->Q b H')->nX X es σ H Q
def BG (X:Cx)(tg:Expr){α:Type}(r:Rep α)(bf:α->Ga->Ga):Prop:=
 ∀(σ:St) (H0 R0 H R:Hp) (Γ:Ga) (v:V) (x:α),ao X.K σ H0 R0 H R Γ->r.R X.K R v x->∀Q:St->Hp->Prop,(∀σ',ao X.K σ' H0 R0 H R (bf x Γ)->Q σ' H)->md X tg v σ H Q
abbrev RT:=Hp->V->Hp->Hp->Prop
def WS (X:Cx)(sts:List Stmt)(Γ:Ga)(N:Ga->Prop)(T:RT):Prop:=
 ∀(σ:St) (H0 R0 H R:Hp),ao X.K σ H0 R0 H R Γ->∀D:Ends,(∀σ' H' R' Γ',ao X.K σ' H0 R0 H' R' Γ'->ak R R'->N Γ'->D.nx σ' H')->(∀v H' R',Ext H0 R0 H' R'->T H0 v H' R'->D.rt v H')->nz X sts D σ H
def W1 (X:Cx)(st:Stmt)(Γ:Ga)(N:Ga->Prop)(T:RT):Prop:=
 ∀(σ:St) (H0 R0 H R:Hp),ao X.K σ H0 R0 H R Γ->∀D:Ends,(∀σ' H' R' Γ',ao X.K σ' H0 R0 H' R' Γ'->ak R R'->N Γ'->D.nx σ' H')->(∀v H' R',Ext H0 R0 H' R'->T H0 v H' R'->D.rt v H')->vZ X st D σ H
def cF (K:PySem.W.Frag){β:Type}(r:Rep β)(P:β->Prop):RT:=λ_ v _ R'=>∃y,r.R K R' v y/\P y
def AD (K:PySem.W.Frag){β:Type}(r:Rep β)(P:List β->Prop):RT:=λH0 v H' R'=>∃a vs ys,v= .ref a/\H0 a=none/\H' a=some (.lst vs)/\R' a=none/\PySem.Paired (r.R K R') vs ys/\ys.length<=sizeLine/\P ys
theorem aV.im {e:Expr}{ys:List α}(h:aV X e Γ r ys Γ1):EV X e Γ (ae r) ys Γ1:=by
 intro σ H0 R0 H R E Q q
 refine h σ H0 R0 H R E Q λa vs H' R' E' s1 ha hR h0 off p z=>?_
 have s2:ak R' (upd R' a (.lst vs)):=ak.fresh hR _
 exact q (.ref a) H' (upd R' a (.lst vs)) (E'.nu ha hR h0 off) (s1.trans s2) ⟨a,vs,rfl,av,Paired.map (λ_ _=>r.mono s2) p,z⟩
theorem EV.cast {e:Expr}{y y':α}(h:EV X e Γ r y Γ1)(e1:y=y'):EV X e Γ r y' Γ1:=e1▸h
theorem aa (i:Nat){x:Str}{y:α}(hΓ:Γ[i]?=some (.im r y))(hN:X.N[i]?=some x:=by rfl)(hv:cy X.env.scope x:=by first | exact Or.inl rfl | exact Or.inr (Or.inl rfl) | exact Or.inr (Or.inr rfl))
 (hd:(x==("__debug__":Str))=false:=by decide) (hcd:(x==("__classdict__":Str))=false:=by decide):EV X (.Name x pos) Γ r y Γ:=by
 intro σ H0 R0 H R E Q q
 obtain ⟨v,e,h⟩:=E.ent i _ hΓ
 refine eS (bc hN hv hd hcd) ⟨v,?_,q v H R E (ak.refl _) h⟩
 cases es:σ[i]? with
 | none=>rw [es] at e;cases e
 | some o=>rw [es] at e;exact congrArg some e
theorem ev_int {i:Int}{j:Nat}:EV X (.Constant (.int i) j pos) Γ ab i Γ:=λ_ _ _ _ _ E _ q=>eS z0 (q _ _ _ E (ak.refl _) rfl)
theorem jW {b:Bool}{j:Nat}:EV X (.Constant (.bool b) j pos) Γ cx b Γ:=λ_ _ _ _ _ E _ q=>eS rW (q _ _ _ E (ak.refl _) rfl)
theorem iu {x:Str}{n:Int}{t:Tok}(hm:X.mg x=some (.int n t))(hg:Gl X x:=by rfl)(hd:(x==("__debug__":Str))=false:=by decide):EV X (.Name x pos) Γ ab n Γ:=
 λ_ _ _ _ _ E _ q=>eS (gC (v:=.int n) hg hm ⟨t,rfl⟩ hd) (q (.int n) _ _ E (ak.refl _) rfl)
theorem gj {op:Operator}{r2:R2}{a b:Expr}{ra:Rep α}{rb:Rep β}{rc:Rep γ}{x:α}{y:β}{z:γ}(ho:cS X (binaryOp op) r2)(ha:EV X a Γ ra x Γ1)(hb:EV X b Γ1 rb y Γ2)
 (hz:∀(R:Hp) v u H Q,ra.R X.K R v x->rb.R X.K R u y->(∀w,rc.R X.K R w z->Q w H)->r2 v u H Q):EV X (.BinOp a op b pos) Γ rc z Γ2:=by
 intro σ H0 R0 H R E Q q
 refine eS (xm ho aJ aJ) (ha σ H0 R0 H R E _ λv H1 R1 E1 s1 e1=>hb σ H0 R0 H1 R1 E1 _ λu H2 R2 E2 s2 e2=>?_)
 exact hz R2 v u H2 _ (ra.mono s2 e1) e2 λw hw=>q w H2 R2 E2 (s1.trans s2) hw
section
variable {a b c:Expr}{pos:Pos}{x y z:Int}
theorem bX (ha:EV X a Γ ab x Γ1)(hb:EV X b Γ1 ab y Γ2):EV X (.BinOp a .Add b pos) Γ ab (x + y) Γ2:=gj Bp ha hb λR v u H Q e1 e2 q=>⟨x,y,e1,e2,q _ rfl⟩
theorem fY (ha:EV X a Γ ab x Γ1)(hb:EV X b Γ1 ab y Γ2):EV X (.BinOp a .Sub b pos) Γ ab (x - y) Γ2:=gj B7 ha hb λR v u H Q e1 e2 q=>⟨x,y,e1,e2,q _ rfl⟩
theorem u7 (ha:EV X a Γ ab x Γ1)(hb:EV X b Γ1 ab y Γ2)(h:rE x y):EV X (.BinOp a .Mult b pos) Γ ab (x * y) Γ2:=gj Aq ha hb λR v u H Q e1 e2 q=>⟨x,y,e1,e2,h,q _ rfl⟩
theorem cn (ha:EV X a Γ ab x Γ1)(hb:EV X b Γ1 ab y Γ2)(h:0 < y):EV X (.BinOp a .Mod b pos) Γ ab (x % y) Γ2:=gj zA ha hb λR v u H Q e1 e2 q=>⟨x,y,e1,e2,h,q _ rfl⟩
theorem ip (ha:EV X a Γ ab x Γ1)(hb:EV X b Γ1 ab y Γ2)(h:A7 x y):EV X (.BinOp a .FloorDiv b pos) Γ ab (x / y) Γ2:=gj zt ha hb λR v u H Q e1 e2 q=>⟨x,y,e1,e2,h,q _ rfl⟩
theorem oZ (ha:EV X a Γ ab x Γ1)(hb:EV X b Γ1 ab y Γ2)(h:zN x y):EV X (.BinOp a .Pow b pos) Γ ab (x ^ y.toNat) Γ2:=gj Bg ha hb λR v u H Q e1 e2 q=>⟨x,y,e1,e2,h,q _ rfl⟩
theorem jy (ha:EV X a Γ ab x Γ1):EV X (.UnaryOp .USub a pos) Γ ab (-x) Γ1:=by
 intro σ H0 R0 H R E Q q
 exact eS (C7 Ci aJ) (ha σ H0 R0 H R E _ λv H1 R1 E1 s1 e1=>⟨x,e1,q _ H1 R1 E1 s1 rfl⟩)
end
structure fm (X:Cx) (op:CmpOp) {α β:Type} (ra:Rep α) (rb:Rep β) (x:α) (y:β) (k:Bool):Prop where
 r2:∃r,cS X (compareOp op) r/\∀(R H:Hp) v u Q,ak R H->ra.R X.K R v x->rb.R X.K R u y->Q (.bl k) H->r v u H Q
theorem iy {op:CmpOp}{a b:Expr}{pos:Pos}{ra:Rep α}{rb:Rep β}{x:α}{y:β}{k:Bool}(c:fm X op ra rb x y k)(ha:EV X a Γ ra x Γ1)(hb:EV X b Γ1 rb y Γ2)(hm:behindInMarks op b=false:=by first | exact pJ _ | with_unfolding_all rfl):
 EV X (.Compare a [op] [b] pos) Γ cx k Γ2:=by
 obtain ⟨r,ho,hr⟩:=c.r2
 intro σ H0 R0 H R E Q q
 refine eS (y4 ho aJ aJ hm) (ha σ H0 R0 H R E _ λv H1 R1 E1 s1 e1=>hb σ H0 R0 H1 R1 E1 _ λu H2 R2 E2 s2 e2=>?_)
 exact hr R2 H2 v u _ E2.sub (ra.mono s2 e1) e2 (q _ H2 R2 E2 (s1.trans s2) rfl)
theorem aA {op:CmpOp}{a b:Expr}{pos:Pos}{ra:Rep α}{rb:Rep β}{x:α}{y:β}{k:Bool}(c:fm X op ra rb x y k)(ha:EV X a Γ ra x Γ1)(hb:EV X b Γ1 rb y Γ2)(hm:behindInMarks op b=false:=by first | exact pJ _ | with_unfolding_all rfl):
 TV X (.Compare a [op] [b] pos) Γ k Γ2:=by
 obtain ⟨r,ho,hr⟩:=c.r2
 intro σ H0 R0 H R E Q q
 refine tS (yA ho aJ aJ hm) (ha σ H0 R0 H R E _ λv H1 R1 E1 s1 e1=>hb σ H0 R0 H1 R1 E1 _ λu H2 R2 E2 s2 e2=>?_)
 exact hr R2 H2 v u _ E2.sub (ra.mono s2 e1) e2 ⟨k,rfl,q H2 R2 E2 (s1.trans s2)⟩
section
variable {x y:Int}
theorem jK:fm X .Lt ab ab x y (decide (x < y)):=⟨_,DV,λR H v u Q _ e1 e2 q=>⟨x,y,e1,e2,q⟩⟩
theorem Aa:fm X .LtE ab ab x y (decide (x<=y)):=⟨_,Dn,λR H v u Q _ e1 e2 q=>⟨x,y,e1,e2,q⟩⟩
theorem gP:fm X .Gt ab ab x y (decide (y < x)):=⟨_,Eb,λR H v u Q _ e1 e2 q=>⟨x,y,e1,e2,q⟩⟩
theorem FO:fm X .GtE ab ab x y (decide (y<=x)):=⟨_,Dl,λR H v u Q _ e1 e2 q=>⟨x,y,e1,e2,q⟩⟩
theorem iY:fm X .Eq ab ab x y (decide (x=y)):=⟨_,xu,λR H v u Q _ e1 e2 q=>by
 cases e1;cases e2
 exact ⟨rfl,by rw [show decide (V.int x=V.int y)=decide (x=y) by rw [mi];exact Bool.beq_eq_decide_eq x y];exact q⟩⟩
end
variable {a:Expr}{pos:Pos}{x:Bool}{b c:Expr}{y:Bool}{rest:List Expr}
theorem oW {op op':CmpOp}{ra:Rep α}{rb:Rep β}{rc:Rep γ}{x:α}{y:β}{z:γ}{k k':Bool}(c1:fm X op ra rb x y k)(c2:fm X op' rb rc y z k')(ha:EV X a Γ ra x Γ)(hb:EV X b Γ rb y Γ)(hc:EV X c Γ rc z Γ)
 (hm:lastMarks [op,op'] [b,c]=false:=by with_unfolding_all rfl):EV X (.Compare a [op,op'] [b,c] pos) Γ cx (k&&k') Γ:=by
 obtain ⟨r,ho,hr⟩:=c1.r2
 obtain ⟨r',ho',hr'⟩:=c2.r2
 intro σ H0 R0 H R E Q q
 refine eS (vm ho ho' aJ aJ aJ hm) (ha σ H0 R0 H R E _ λv H1 R1 E1 s1 e1=>hb σ H0 R0 H1 R1 E1 _ λu H2 R2 E2 s2 e2=>?_)
 refine hr R2 H2 v u _ E2.sub (ra.mono s2 e1) e2 ⟨k,rfl,?_⟩
 cases k with
 | false=>exact jo (q _ H2 R2 E2 (s1.trans s2) rfl)
 | true=>exact js (hc σ H0 R0 H2 R2 E2 _ λw H3 R3 E3 s3 e3=>hr' R3 H3 u w _ E3.sub (rb.mono s3 e2) e3 (q _ H3 R3 E3 (s1.trans (s2.trans s3)) rfl))
theorem wd {op op':CmpOp}{ra:Rep α}{rb:Rep β}{rc:Rep γ}{x:α}{y:β}{z:γ}{k k':Bool}(c1:fm X op ra rb x y k)(c2:fm X op' rb rc y z k')(ha:EV X a Γ ra x Γ)(hb:EV X b Γ rb y Γ)(hc:EV X c Γ rc z Γ)
 (hm:lastMarks [op,op'] [b,c]=false:=by with_unfolding_all rfl):TV X (.Compare a [op,op'] [b,c] pos) Γ (k&&k') Γ:=by
 obtain ⟨r,ho,hr⟩:=c1.r2
 obtain ⟨r',ho',hr'⟩:=c2.r2
 intro σ H0 R0 H R E Q q
 refine tS (vT ho ho' aJ aJ aJ hm) (ha σ H0 R0 H R E _ λv H1 R1 E1 s1 e1=>hb σ H0 R0 H1 R1 E1 _ λu H2 R2 E2 s2 e2=>?_)
 refine hr R2 H2 v u _ E2.sub (ra.mono s2 e1) e2 ⟨k,rfl,?_⟩
 cases k with
 | false=>exact jo ⟨false,rfl,q H2 R2 E2 (s1.trans s2)⟩
 | true=>exact js (hc σ H0 R0 H2 R2 E2 _ λw H3 R3 E3 s3 e3=>hr' R3 H3 u w _ E3.sub (rb.mono s3 e2) e3 ⟨k',rfl,q H3 R3 E3 (s1.trans (s2.trans s3))⟩)
theorem A0 {op:BoolOp}{r:Rep α}{x:α}(h:EV X a Γ r x Γ1):EV X (.BoolOp op [a] pos) Γ r x Γ1:=λσ H0 R0 H R E Q q=>eS (Ab aJ) (h σ H0 R0 H R E Q q)
theorem AH (ha:EV X a Γ cx x Γ)(hb:x=true->EV X (.BoolOp .And (b::rest) pos) Γ cx y Γ):EV X (.BoolOp .And (a::b::rest) pos) Γ cx (x&&y) Γ:=by
 intro σ H0 R0 H R E Q q
 refine eS (AK aJ aJ) (ha σ H0 R0 H R E _ λv H1 R1 E1 s1 e1=>⟨x,e1,?_⟩)
 cases x with
 | false=>exact jo (q _ H1 R1 E1 s1 rfl)
 | true=>exact js (hb rfl σ H0 R0 H1 R1 E1 _ λw H3 R3 E3 s3 e3=>q w H3 R3 E3 (s1.trans s3) e3)
theorem B6 (ha:EV X a Γ cx x Γ1):EV X (.UnaryOp .Not a pos) Γ cx (!x) Γ1:=by
 intro σ H0 R0 H R E Q q
 exact eS (BC aJ) (ha σ H0 R0 H R E _ λv H1 R1 E1 s1 e1=>⟨x,e1,q _ H1 R1 E1 s1 rfl⟩)
theorem jz (ha:TV X a Γ x Γ1):TV X (.UnaryOp .Not a pos) Γ (!x) Γ1:=by
 intro σ H0 R0 H R E Q q
 exact tS (Bq kO) (ha σ H0 R0 H R E _ λH1 R1 E1 s1=>q H1 R1 E1 s1)
theorem TW.tv {e:Expr}{b:Bool}(h:TW X e Γ b Γ1):TV X e Γ b Γ1:=λσ H0 R0 H R E Q q=>tS (z1.pt) (h σ H0 R0 H R E Q q)
theorem c9 (ha:TV X a Γ x Γ1):TW X (.BoolOp .And [a] pos) Γ x Γ1:=λσ H0 R0 H R E Q q=>wS (yL kO) (ha σ H0 R0 H R E Q q)
theorem tX (ha:TV X a Γ x Γ1):TW X (.BoolOp .Or [a] pos) Γ x Γ1:=λσ H0 R0 H R E Q q=>wS (Bm kO) (ha σ H0 R0 H R E Q q)
theorem cC (ha:TV X a Γ x Γ)(hb:x=true->TW X (.BoolOp .And (b::rest) pos) Γ y Γ):TW X (.BoolOp .And (a::b::rest) pos) Γ (x&&y) Γ:=by
 intro σ H0 R0 H R E Q q
 refine wS (zK kO z1) (ha σ H0 R0 H R E _ λH1 R1 E1 s1=>?_)
 cases x with
 | false=>exact jo (q H1 R1 E1 s1)
 | true=>exact js (hb rfl σ H0 R0 H1 R1 E1 _ λH3 R3 E3 s3=>q H3 R3 E3 (s1.trans s3))
theorem wX (ha:TV X a Γ x Γ)(hb:x=false->TW X (.BoolOp .Or (b::rest) pos) Γ y Γ):TW X (.BoolOp .Or (a::b::rest) pos) Γ (x ||y) Γ:=by
 intro σ H0 R0 H R E Q q
 refine wS (Di kO z1) (ha σ H0 R0 H R E _ λH1 R1 E1 s1=>?_)
 cases x with
 | true=>exact js (q H1 R1 E1 s1)
 | false=>exact jo (hb rfl σ H0 R0 H1 R1 E1 _ λH3 R3 E3 s3=>q H3 R3 E3 (s1.trans s3))
theorem gz {k:Bool}(ha:EV X a Γ cx k Γ1)(he:∀whole,isTrue a X.env whole=(do let v ← whole;standAt a.pos;holding [v] (truthy v)):=by intro _;rfl):TV X a Γ k Γ1:=by
 intro σ H0 R0 H R E Q q
 exact tS (Ad aJ he) (ha σ H0 R0 H R E _ λv H1 R1 E1 s1 e1=>⟨k,e1,q H1 R1 E1 s1⟩)
theorem fM:TF X [] Γ true Γ:=λσ H0 R0 H R E Q q=>fS AU (q H R E (ak.refl _))
theorem fO {b:Bool}(h:TV X c Γ b Γ1):TF X [c] Γ b Γ1:=λσ H0 R0 H R E Q q=>fS (AN kO) (h σ H0 R0 H R E Q q)
theorem i7 {k:Bool}{r:Rep α}{x y:α}(hc:TV X c Γ k Γ1)(ha:k=true->EV X a Γ1 r x Γ2)(hb:k=false->EV X b Γ1 r y Γ2):EV X (.IfExp c a b pos) Γ r (if k then x else y) Γ2:=by
 intro σ H0 R0 H R E Q q
 refine eS (vQ kO aJ aJ) (hc σ H0 R0 H R E _ λH1 R1 E1 s1=>?_)
 cases k with
 | true=>exact js (ha rfl σ H0 R0 H1 R1 E1 _ λv H3 R3 E3 s3 e3=>q v H3 R3 E3 (s1.trans s3) e3)
 | false=>exact jo (hb rfl σ H0 R0 H1 R1 E1 _ λv H3 R3 E3 s3 e3=>q v H3 R3 E3 (s1.trans s3) e3)
end
section
variable {X:Cx}{Γ Γ1 Γ2 Γ3:Ga}{α β γ δ:Type}
variable {r:Rep α}{pos:Pos}{i:Int}{b:Expr}{es:List Expr}{x:α}{a:Expr}{xs:List α}
structure Pk:Type 1 where
 {α:Type}
 r:Rep α
 x:α
inductive hU (K:PySem.W.Frag) (R:Hp):List V->List Pk->Prop
 | nil:hU K R [] []
 | cons {v:V} {vs:List V} {p:Pk} {ps:List Pk}:p.r.R K R v p.x->hU K R vs ps->hU K R (v::vs) (p::ps)
def HA (X:Cx)(es:List Expr)(Γ:Ga)(ps:List Pk)(Γ':Ga):Prop:=
 ∀(σ:St) (H0 R0 H R:Hp),ao X.K σ H0 R0 H R Γ->∀Q:List V->Hp->Prop,(∀vs H' R',ao X.K σ H0 R0 H' R' Γ'->ak R R'->hU X.K R' vs ps->Q vs H')->rD X es σ H Q
theorem ax:HA X [] Γ [] Γ:=λσ H0 R0 H R E Q q=>aS bt (q [] H R E (ak.refl _) .nil)
theorem ah {e:Expr}{ps:List Pk}(he:EV X e Γ r x Γ1)(hr:HA X es Γ1 ps Γ2)(hs:starEach (e::es) X.env=(false,eval e X.env)::starEach es X.env:=by rfl):HA X (e::es) Γ (⟨r,x⟩::ps) Γ2:=by
 intro σ H0 R0 H R E Q q
 refine aS (aR aJ jm hs) (he σ H0 R0 H R E _ λv H1 R1 E1 s1 e1=>hr σ H0 R0 H1 R1 E1 _ λvs H2 R2 E2 s2 e2=>?_)
 exact q (v::vs) H2 R2 E2 (s1.trans s2) (.cons (r.mono s2 e1) e2)
def EA (X:Cx)(es:List Expr)(Γ:Ga){α:Type}(r:Rep α)(ys:List α)(Γ':Ga):Prop:=
 ∀(σ:St) (H0 R0 H R:Hp),ao X.K σ H0 R0 H R Γ->∀Q:List V->Hp->Prop,(∀vs H' R',ao X.K σ H0 R0 H' R' Γ'->ak R R'->PySem.Paired (r.R X.K R') vs ys->Q vs H')->rD X es σ H Q
theorem aN:EA X [] Γ r [] Γ:=λσ H0 R0 H R E Q q=>aS bt (q [] H R E (ak.refl _) .nil)
theorem aq {e:Expr}{ys:List α}(he:EV X e Γ r x Γ1)(hr:EA X es Γ1 r ys Γ2)(hs:starEach (e::es) X.env=(false,eval e X.env)::starEach es X.env:=by rfl):EA X (e::es) Γ r (x::ys) Γ2:=by
 intro σ H0 R0 H R E Q q
 refine aS (aR aJ jm hs) (he σ H0 R0 H R E _ λv H1 R1 E1 s1 e1=>hr σ H0 R0 H1 R1 E1 _ λvs H2 R2 E2 s2 e2=>?_)
 exact q (v::vs) H2 R2 E2 (s1.trans s2) (.cons (r.mono s2 e1) e2)
theorem aL {ys:List α}(h:EA X es Γ r ys Γ1)(hz:ys.length<=sizeLine):aV X (.List es pos) Γ r ys Γ1:=by
 intro σ H0 R0 H R E Q q
 refine eS (Ap jm) (h σ H0 R0 H R E _ λvs H1 R1 E1 s1 p1=>⟨by rw [p1.length];exact hz,λp hp=>?_⟩)
 exact q p vs _ R1 (E1.grow (Ext.dy E1.sub hp _)) s1 av (E1.sub.free hp) (E1.ext.h.free hp) (E1.off hp) p1 hz
theorem zh {k:Nat}{r':Rep β}{y:β}(h:HA X [a,b] Γ [⟨r,x⟩,⟨r',y⟩] Γ1):EV X (.Tuple [a,b] k pos) Γ (fD r r') (x,y) Γ1:=by
 intro σ H0 R0 H R E Q q
 refine eS (ua jm) (h σ H0 R0 H R E _ λvs H1 R1 E1 s1 p1=>?_)
 obtain ⟨h1,h2⟩:∃v1 v2,vs=[v1,v2]/\r.R X.K R1 v1 x/\r'.R X.K R1 v2 y:=by
  cases p1 with
  | cons a1 t=>cases t with
    | cons a2 t2=>cases t2;exact ⟨_,_,rfl,a1,a2⟩
 obtain ⟨v2,rfl,e1,e2⟩:=h2
 refine ⟨by show 2<=sizeLine;decide,λp hp=>?_⟩
 have s2:ak R1 (upd R1 p (.tup [h1,v2])):=ak.fresh (E1.sub.free hp) _
 exact q _ _ (upd R1 p (.tup [h1,v2])) (E1.grow (Ext.fresh E1.sub hp _)) (s1.trans s2) ⟨p,_,_,rfl,av,r.mono s2 e1,r'.mono s2 e2⟩
theorem cT {F:α->β->Prop}:∀{vs:List α} {xs:List β},PySem.Paired F vs xs->∀{i:Nat} {y:β},xs[i]?=some y->∃v,vs[i]?=some v/\F v y
 | _,_,.nil,i,y,h=>by simp at h
 | _,_,.cons h t,0,y,e=>by simp at e;subst e;exact ⟨_,rfl,h⟩
 | _,_,.cons h t,i + 1,y,e=>by
   obtain ⟨v,e1,e2⟩:=cT t (i:=i) (y:=y) (by simpa using e)
   exact ⟨v,by simpa using e1,e2⟩
theorem eU {F:α->β->Prop}{vs:List α}{xs:List β}(p:PySem.Paired F vs xs){y:β}(h:cb xs i=some y):∃v,cb vs i=some v/\F v y:=by
 unfold cb at h ⊢
 rw [p.length]
 cases e:eJ xs.length i with
 | none=>rw [e] at h;cases h
 | some j=>rw [e] at h;exact cT p h
theorem lA (h0:0<=i)(h1:i < xs.length):cb xs i=xs[i.toNat]?:=by
 have e:i=((i.toNat:Nat):Int):=by omega
 have hl:i.toNat < xs.length:=by omega
 have q:cb xs ((i.toNat:Nat):Int)=some xs[i.toNat]:=ym (List.getElem?_eq_getElem hl)
 rw [← e] at q
 rw [q,List.getElem?_eq_getElem hl]
theorem ba {y:α}(ha:EV X a Γ (ae r) xs Γ1)(hb:EV X b Γ1 ab i Γ2)(h:cb xs i=some y)(hs:dY b:=by exact λ_ _=>rfl):EV X (.Subscript a b pos) Γ r y Γ2:=by
 intro σ H0 R0 H R E Q q
 refine eS (hJ gB aJ aJ hs) (ha σ H0 R0 H R E _ λv H1 R1 E1 s1 e1=>hb σ H0 R0 H1 R1 E1 _ λu H2 R2 E2 s2 e2=>?_)
 obtain ⟨p,vs,rfl,ha,pp,z⟩:=(ae r).mono s2 e1
 obtain ⟨w,e3,e4⟩:=eU pp h
 exact ⟨p,vs,i,w,rfl,e2,aM.of (E2.sub _ _ ha),e3,q w H2 R2 E2 (s1.trans s2) e4⟩
theorem nK {xs:List Int}{y:Int}(ha:EV X a Γ bp xs Γ1)(hb:EV X b Γ1 ab i Γ2)(h:cb xs i=some y)(hs:dY b:=by exact λ_ _=>rfl):EV X (.Subscript a b pos) Γ ab y Γ2:=by
 intro σ H0 R0 H R E Q q
 refine eS (hJ gB aJ aJ hs) (ha σ H0 R0 H R E _ λv H1 R1 E1 s1 e1=>hb σ H0 R0 H1 R1 E1 _ λu H2 R2 E2 s2 e2=>?_)
 obtain ⟨p,rfl,ha,z⟩:=bp.mono s2 e1
 have e3:cb (xs.map V.int) i=some (.int y):=by
  unfold cb at h ⊢
  rw [List.length_map]
  cases e:eJ xs.length i with
  | none=>rw [e] at h;cases h
  | some j=>
    rw [e] at h
    show (xs.map V.int)[j]?=_
    rw [List.getElem?_map,show xs[j]?=some y from h];rfl
 exact ⟨p,_,i,_,rfl,e2,E2.sub.seq ha,e3,q _ H2 R2 E2 (s1.trans s2) rfl⟩
theorem va (j:Nat){x:Str}{p1:Pos}{y:α}(hb:EV X b Γ ab i Γ1)(hΓ:Γ[j]?=some (.mu r xs))(hΓ1:Γ1[j]?=some (.mu r xs))(h:cb xs i=some y)(hN:X.N[j]?=some x:=by rfl)(hv:cy X.env.scope x:=by first | exact Or.inl rfl | exact Or.inr (Or.inl rfl) | exact Or.inr (Or.inr rfl))
 (hs:dY b:=by exact λ_ _=>rfl) (hd:(x==("__debug__":Str))=false:=by decide) (hcd:(x==("__classdict__":Str))=false:=by decide):EV X (.Subscript (.Name x p1) b pos) Γ r y Γ1:=by
 intro σ H0 R0 H R E Q q
 obtain ⟨a,vs,e,_,_,_⟩:=E.ent j _ hΓ
 refine eS (hJ gB (bc hN hv hd hcd) aJ hs) ⟨.ref a,?_,hb σ H0 R0 H R E _ λu H2 R2 E2 s2 e2=>?_⟩
 ·cases es:σ[j]? with
  | none=>rw [es] at e;cases e
  | some o=>rw [es] at e;exact congrArg some e
 ·obtain ⟨a',vs',e',ha,hR,pp⟩:=E2.ent j _ hΓ1
  rw [e] at e';cases e'
  obtain ⟨w,e3,e4⟩:=eU pp h
  exact ⟨a,vs',i,w,rfl,e2,aM.of ha,e3,q w H2 R2 E2 s2 e4⟩
section
variable {a:Expr}{n:Int}{j:Nat}{p1 pos:Pos}{w:Row}
end
variable {a:Expr}{pos:Pos}{r:Rep α}{xs:List α}
def OV (X:Cx)(e:Option Expr)(Γ:Ga)(o:Option Int):Prop:=∃t,PO X e t/\∀(σ:St) (H0 R0 H R:Hp),ao X.K σ H0 R0 H R Γ->∀Q:Option Int->Hp->Prop,(∀H' R',ao X.K σ H0 R0 H' R' Γ->ak R R'->Q o H')->t σ H Q
theorem ov_none:OV X none Γ none:=⟨_,yF,λσ H0 R0 H R E Q q=>q H R E (ak.refl _)⟩
theorem ov_some {e:Expr}{i:Int}(h:EV X e Γ ab i Γ):OV X (some e) Γ (some i):=⟨_,y3 aJ,λσ H0 R0 H R E Q q=>h σ H0 R0 H R E _ λv H1 R1 E1 s1 e1=>⟨i,e1,q H1 R1 E1 s1⟩⟩
def cut (xs:List α)(lo hi:Option Int):List α:=(xs.drop (HT.sIx xs.length 0 lo)).take (HT.sIx xs.length xs.length hi - HT.sIx xs.length 0 lo)
theorem ia {F:α->β->Prop}:∀(n:Nat) {vs:List α} {xs:List β},PySem.Paired F vs xs->PySem.Paired F (vs.drop n) (xs.drop n)
 | 0,_,_,h=>h
 | _ + 1,_,_,.nil=>.nil
 | n + 1,_,_,.cons _ t=>ia n t
theorem fE {F:α->β->Prop}:∀(n:Nat) {vs:List α} {xs:List β},PySem.Paired F vs xs->PySem.Paired F (vs.take n) (xs.take n)
 | 0,_,_,_=>.nil
 | _ + 1,_,_,.nil=>.nil
 | n + 1,_,_,.cons h t=>.cons h (fE n t)
theorem dw {F:α->β->Prop}:∀{vs:List α} {xs:List β} {vs':List α} {xs':List β},PySem.Paired F vs xs->PySem.Paired F vs' xs'->PySem.Paired F (vs++vs') (xs++xs')
 | _,_,_,_,.nil,h=>h
 | _,_,_,_,.cons h t,h'=>.cons h (dw t h')
theorem rX (xs:List α)(lo hi:Option Int):(cut xs lo hi).length<=xs.length:=by
 unfold cut
 rw [List.length_take,List.length_drop]
 omega
theorem hV {lo hi:Option Expr}{p2:Pos}{l h:Option Int}(ha:EV X a Γ (ae r) xs Γ)(hl:OV X lo Γ l)(hh:OV X hi Γ h):aV X (.Subscript a (.Slice lo hi none p2) pos) Γ r (cut xs l h) Γ:=by
 intro σ H0 R0 H R E Q q
 obtain ⟨tl,pl,kl⟩:=hl
 obtain ⟨th,ph,kh⟩:=hh
 refine eS (i5 yS aJ pl ph) (ha σ H0 R0 H R E _ λv H1 R1 E1 s1 e1=>kl σ H0 R0 H1 R1 E1 _ λH2 R2 E2 s2=>kh σ H0 R0 H2 R2 E2 _ λH3 R3 E3 s3=>?_)
 obtain ⟨p,vs,rfl,hp,pp,z⟩:=(ae r).mono (s2.trans s3) e1
 refine ⟨p,vs,rfl,aM.of (E3.sub _ _ hp),λd hd=>?_⟩
 refine q d _ _ R3 (E3.grow (Ext.dy E3.sub hd _)) (s1.trans (s2.trans s3)) av (E3.sub.free hd) (E3.ext.h.free hd) (E3.off hd) ?_ (Nat.le_trans (rX _ _ _) z)
 unfold cut ib
 rw [pp.length]
 exact fE _ (ia _ pp)
theorem bI {b:Expr}{ys:List α}(ha:EV X a Γ (ae r) xs Γ1)(hb:EV X b Γ1 (ae r) ys Γ2)(hz:xs.length + ys.length<=sizeLine):aV X (.BinOp a .Add b pos) Γ r (xs++ys) Γ2:=by
 intro σ H0 R0 H R E Q q
 refine eS (xm AL aJ aJ) (ha σ H0 R0 H R E _ λv H1 R1 E1 s1 e1=>hb σ H0 R0 H1 R1 E1 _ λu H2 R2 E2 s2 e2=>?_)
 obtain ⟨p,vs,rfl,hp,pp,z⟩:=(ae r).mono s2 e1
 obtain ⟨p',ws,rfl,hp',pp',z'⟩:=e2
 refine ⟨p,p',vs,ws,rfl,rfl,E2.sub _ _ hp,E2.sub _ _ hp',by rw [pp.length,pp'.length];exact hz,λd hd=>?_⟩
 exact q d _ _ R2 (E2.grow (Ext.dy E2.sub hd _)) (s1.trans s2) av (E2.sub.free hd) (E2.ext.h.free hd) (E2.off hd) (dw pp pp') (by rw [List.length_append];exact hz)
theorem gX {p:Pos}(hm:X.mg "len"=none)(ha:EV X a Γ (ae r) xs Γ1)(hs:starEach [a] X.env=[(false,eval a X.env)]:=by rfl)(hg:Gl X "len":=by rfl):EV X (.Call (.Name "len" p) [a] [] pos) Γ ab (xs.length:Int) Γ1:=by
 intro σ H0 R0 H R E Q q
 refine eS (dk eV hg hm PySem.boot_len (aR aJ bt hs) (by decide) (by decide) hs) (ha σ H0 R0 H R E _ λv H1 R1 E1 s1 e1=>?_)
 obtain ⟨p,vs,rfl,hp,pp,z⟩:=e1
 refine ⟨p,vs,rfl,.inl (aM.of (E1.sub _ _ hp)),?_⟩
 rw [pp.length]
 exact q _ H1 R1 E1 s1 rfl
theorem lK {p:Pos}{xs:List Int}(hm:X.mg "len"=none)(ha:EV X a Γ bp xs Γ1)(hs:starEach [a] X.env=[(false,eval a X.env)]:=by rfl)(hg:Gl X "len":=by rfl):EV X (.Call (.Name "len" p) [a] [] pos) Γ ab (xs.length:Int) Γ1:=by
 intro σ H0 R0 H R E Q q
 refine eS (dk eV hg hm PySem.boot_len (aR aJ bt hs) (by decide) (by decide) hs) (ha σ H0 R0 H R E _ λv H1 R1 E1 s1 e1=>?_)
 obtain ⟨p,rfl,hp,z⟩:=e1
 refine ⟨p,_,rfl,.inl (E1.sub.seq hp),?_⟩
 rw [List.length_map]
 exact q _ H1 R1 E1 s1 rfl
end
section
variable {X:Cx}{Γ Γ1 Γ2 Γ3:Ga}{α β γ δ:Type}{N:Ga->Prop}{T:RT}
variable {pos:Pos}{r:Rep α}{x:Str}{p1:Pos}{e:Expr}
theorem Bx {Γ':Ga}(w:Wk Γ Γ')(h:N Γ'):WS X [] Γ N T:=λσ H0 R0 H R E D dn dr=>Bu yG (dn σ H R Γ' (E.weak w) (ak.refl _) h)
theorem aT (h:N Γ):WS X [] Γ N T:=Bx (Wk.refl Γ) h
theorem aj {st:Stmt}{rest:List Stmt}(h:W1 X st Γ (λΓ'=>WS X rest Γ' N T) T):WS X (st::rest) Γ N T:=λσ H0 R0 H R E D dn dr=>
 Bu (wD EX ie) (h σ H0 R0 H R E {D with nx:=nz X rest D} (λσ' H' R' Γ' E' s' h'=>h' σ' H0 R0 H' R' E' D (λσ2 H2 R2 Γ2 E2 s2=>dn σ2 H2 R2 Γ2 E2 (s'.trans s2)) dr) dr)
theorem ai {st:Stmt}(h:W1 X st Γ N T):WS X [st] Γ N T:=λσ H0 R0 H R E D dn dr=>Bu (x8 EX) (h σ H0 R0 H R E D dn dr)
theorem aZ (i:Nat){y:α}(he:EV X e Γ r y Γ1)(h:N (Γ1.set i (.im r y)))(hN:X.N.Nodup:=by first | assumption | decide)(hi:X.N[i]?=some x:=by rfl)(hx:Loc X.env.scope x:=by first | exact Or.inl rfl | exact Or.inr rfl)
 (hs:swapsWith e (some (.Name x p1)) pos.line X.env=pure false:=by rfl) (hf:X.fn x=true∨X.env.scope.names.lookup x=some .local:=by first | exact .inl rfl | exact .inr rfl):W1 X (.Assign [.Name x p1] e pos) Γ N T:=λσ H0 R0 H R E D dn dr=>
 sS (iL hN hi hx aJ hs hf) (he σ H0 R0 H R E _ λv H1 R1 E1 s1 e1=>dn _ H1 R1 _ (E1.set i e1) s1 h)
theorem cQ (i:Nat){ys:List α}(he:aV X e Γ r ys Γ1)(h:N (Γ1.set i (.mu r ys)))(hN:X.N.Nodup:=by first | assumption | decide)(hi:X.N[i]?=some x:=by rfl)(hx:Loc X.env.scope x:=by first | exact Or.inl rfl | exact Or.inr rfl)
 (hs:swapsWith e (some (.Name x p1)) pos.line X.env=pure false:=by rfl) (hf:X.fn x=true∨X.env.scope.names.lookup x=some .local:=by first | exact .inl rfl | exact .inr rfl):W1 X (.Assign [.Name x p1] e pos) Γ N T:=λσ H0 R0 H R E D dn dr=>
 sS (iL hN hi hx aJ hs hf) (he σ H0 R0 H R E _ λa vs H1 R1 E1 s1 ha hR h0 off p z=>dn _ H1 R1 _ (E1.sr (u:=.lst vs) (en:=.mu r ys) i ⟨a,vs,rfl,ha,hR,p⟩ h0 λj e _ q w=>off j e q w) s1 h)
theorem aW {P:α->Prop}{y:α}(he:EV X e Γ r y Γ1)(h:P y):W1 X (.Return (some e) pos) Γ N (cF X.K r P):=λσ H0 R0 H R E D dn dr=>
 sS (jM aJ) (he σ H0 R0 H R E _ λv H1 R1 E1 s1 e1=>dr v H1 R1 E1.ext ⟨y,e1,h⟩)
theorem bq {c:Expr}{a b:List Stmt}{k:Bool}(hc:TV X c Γ k Γ1)(h1:k=true->WS X a Γ1 N T)(h2:k=false->WS X b Γ1 N T):W1 X (.If c a b pos) Γ N T:=λσ H0 R0 H R E D dn dr=>by
 refine sS (Ec kO ie ie) (hc σ H0 R0 H R E _ λH1 R1 E1 s1=>?_)
 cases k with
 | true=>exact js (h1 rfl σ H0 R0 H1 R1 E1 D (λσ2 H2 R2 Γ2 E2 s2=>dn σ2 H2 R2 Γ2 E2 (s1.trans s2)) dr)
 | false=>exact jo (h2 rfl σ H0 R0 H1 R1 E1 D (λσ2 H2 R2 Γ2 E2 s2=>dn σ2 H2 R2 Γ2 E2 (s1.trans s2)) dr)
theorem bg (i:Nat)(hN:X.N.Nodup:=by first | assumption | decide)(hi:X.N[i]?=some x:=by rfl)(hx:Loc X.env.scope x:=by first | exact Or.inl rfl | exact Or.inr rfl)(hf:X.fn x=true∨X.env.scope.names.lookup x=some .local:=by first | exact .inl rfl | exact .inr rfl):
 BG X (.Name x pos) r (λy Γ=>Γ.set i (.im r y)):=λσ H0 R0 H R Γ v x E h Q q=>gS (iz hN hi hx hf) (q _ (E.set i h))
theorem eK (i j:Nat){y:Str}{k:Nat}{p2:Pos}{r':Rep β}(hc:X.calm=true:=by rfl)(hN:X.N.Nodup:=by first | assumption | decide)(hi:X.N[i]?=some x:=by rfl)(hx:Loc X.env.scope x:=by first | exact Or.inl rfl | exact Or.inr rfl)(hf:X.fn x=true∨X.env.scope.names.lookup x=some .local:=by first | exact .inl rfl | exact .inr rfl)
 (hj:X.N[j]?=some y:=by rfl) (hy:Loc X.env.scope y:=by first | exact Or.inl rfl | exact Or.inr rfl) (hf':X.fn y=true∨X.env.scope.names.lookup y=some .local:=by first | exact .inl rfl | exact .inr rfl):
 BG X (.Tuple [.Name x p1,.Name y p2] k pos) (fD r r') (λw Γ=>(Γ.set i (.im r w.1)).set j (.im r' w.2)):=λσ H0 R0 H R Γ v w E h Q q=>by
 obtain ⟨a,v1,v2,rfl,ha,e1,e2⟩:=h
 exact gS (tf hc (ja (iz hN hi hx hf) (ja (iz hN hj hy hf') qf))) ⟨a,_,rfl,cW.of (E.sub _ _ ha),rfl,v1,[v2],rfl,v2,[],rfl,rfl,q _ ((E.set i e1).set j e2)⟩
end
section
variable {X:Cx}{Γ Γ1 Γ2 Γ3:Ga}{α β γ δ:Type}{N:Ga->Prop}{T:RT}
variable {pos:Pos}{x:Str}{p1:Pos}{r:Rep α}{xs:List α}{kvs:List (Int×V)}{e:Expr}{y:α}
theorem at_of {σ:St}{i:Nat}{v:V}(e:(σ[i]?).join=some v):σ[i]?=some (some v):=by
 cases es:σ[i]? with
 | none=>rw [es] at e;cases e
 | some o=>rw [es] at e;exact congrArg some e
theorem mn {c:Expr}{body:List Stmt}(I:Nat->Ga->Prop){m0:Nat}(h0:I m0 Γ)
 (hstep:∀(m:Nat) (Γ:Ga),I m Γ->∃(k:Bool) (Γ':Ga),TV X c Γ k Γ'/\(k=true->WS X body Γ' (λΓ''=>∃m',m' < m/\I m' Γ'') T)/\(k=false->N Γ'))
 (hp:PassesOwn (model X.prog X.w) X.A X.env X.xe:=by exact PassesOwn.never):W1 X (.While c body [] pos) Γ N T:=λσ H0 R0 H R E D dn dr=>by
 refine sS (vC hp kO ie) ?_
 refine ⟨λm σ' H'=>∃R' Γ',ao X.K σ' H0 R0 H' R' Γ'/\ak R R'/\I m Γ',⟨m0,R,Γ,E,ak.refl _,h0⟩,?_⟩
 rintro m σ' H' ⟨R',Γ',E',s',hI⟩
 obtain ⟨k,Γ2,ht,h1,h2⟩:=hstep m Γ' hI
 refine ht σ' H0 R0 H' R' E' _ λH1 R1 E1 s1=>?_
 cases k with
 | true=>
   refine js ⟨_,λσ2 H2 h=>h,h1 rfl σ' H0 R0 H1 R1 E1 _ (λσ3 H3 R3 Γ3 E3 s3 h3=>?_) dr⟩
   obtain ⟨m',hm,hI'⟩:=h3
   exact ⟨m',hm,R3,Γ3,E3,s'.trans (s1.trans s3),hI'⟩
 | false=>exact jo (dn σ' H1 R1 Γ2 E1 (s'.trans s1) (h2 rfl))
theorem ft (i:Nat){ap cp:Pos}(he:EV X e Γ r y Γ1)(hΓ:Γ[i]?=some (.mu r xs))(hΓ1:Γ1[i]?=some (.mu r xs))(hz:xs.length < sizeLine)(h:N (Γ1.set i (.mu r (xs++[y]))))
 (hN:X.N[i]?=some x:=by rfl) (hv:cy X.env.scope x:=by first | exact Or.inl rfl | exact Or.inr (Or.inl rfl) | exact Or.inr (Or.inr rfl))
 (hd:(x==("__debug__":Str))=false:=by decide) (hcd:(x==("__classdict__":Str))=false:=by decide)
 (hsw:swapsWith (.Call (.Attribute (.Name x p1) "append" ap) [e] [] cp) none pos.line X.env=pure false:=by rfl)
 (hbase:attributeBase (.Name x p1) "append" X.env (eval (.Name x p1) X.env)=eval (.Name x p1) X.env:=by rfl)
 (hfew:((backTo cp (starEach [e] X.env)).all (λx=> !x.1)&&(backToKw cp (keywordEach [] X.env)).all (λx=>x.1.isSome)
  &&decide ([e].length + ([]:List Keyword).length + (if ([]:List Keyword).isEmpty then 0 else 1) < 30))=true:=by rfl)
 (hline:(ap.endLine==cp.line)=true:=by rfl) (hs:starEach [e] X.env=(false,eval e X.env)::starEach [] X.env:=by rfl):W1 X (.Expr (.Call (.Attribute (.Name x p1) "append" ap) [e] [] cp) pos) Γ N T:=λσ H0 R0 H R E D dn dr=>by
 obtain ⟨a,vs,ea,ha,hR,pp⟩:=E.ent i _ hΓ
 refine sS (gx (iT PySem.F.plainAttrs_list PySem.F.slot_list_append PySem.F.type_list_append mH (bc hN hv hd hcd) (aR aJ bt hs) hbase hfew hline hs rfl) hsw) ?_
 refine ⟨.ref a,at_of ea,.inl ⟨rfl,vs,aM.of ha⟩,he σ H0 R0 H R E _ λv H1 R1 E1 s1 e1=>?_⟩
 obtain ⟨a',vs',ea',ha',hR',pp'⟩:=E1.ent i _ hΓ1
 rw [ea] at ea';cases ea'
 refine ⟨a,vs',v,rfl,rfl,ha',by rw [pp'.length];exact hz,?_⟩
 exact dn σ _ R1 _ (E1.upd (en:=.mu r (xs++[y])) hΓ1 rfl ea hR' ⟨a,_,rfl,av,hR',dw pp' (.cons e1 .nil)⟩) s1 h
theorem je {F:α->β->Prop}{v:α}{y:β}(h:F v y):∀{vs:List α} {xs:List β} (i:Nat),PySem.Paired F vs xs->PySem.Paired F (vs.set i v) (xs.set i y)
 | _,_,_,.nil=>.nil
 | _,_,0,.cons _ t=>.cons h t
 | _,_,i + 1,.cons q t=>.cons q (je h i t)
theorem qp (i:Nat){b:Expr}{p2:Pos}{k:Int}{j:Nat}(he:EV X e Γ r y Γ1)(hb:EV X b Γ1 ab k Γ2)(hΓ1:Γ1[i]?=some (.mu r xs))(hΓ2:Γ2[i]?=some (.mu r xs))(hj:eJ xs.length k=some j)(h:N (Γ2.set i (.mu r (xs.set j y))))
 (hN:X.N[i]?=some x:=by rfl) (hv:cy X.env.scope x:=by first | exact Or.inl rfl | exact Or.inr (Or.inl rfl) | exact Or.inr (Or.inr rfl))
 (hd:(x==("__debug__":Str))=false:=by decide) (hcd:(x==("__classdict__":Str))=false:=by decide)
 (ha:∀v,assign (.Subscript (.Name x p1) b p2) X.env v=(do
  let ov ← holding [v] (eval (.Name x p1) X.env)
  let iv ← holding [v,ov] (eval b X.env)
  standAt p2
  holding [v,ov,iv] (setItem ov iv v)
  release [v,ov,iv] []):=by intro _;rfl)
 (hs:swapsWithSole [.Subscript (.Name x p1) b p2] e pos.line X.env=pure false:=by rfl) (hw:swappedStores [.Subscript (.Name x p1) b p2] e X.env=pure none:=by rfl) (h1:(assignEach [.Subscript (.Name x p1) b p2] X.env).map (·.2)=[assign (.Subscript (.Name x p1) b p2) X.env]:=by rfl):
 W1 X (.Assign [.Subscript (.Name x p1) b p2] e pos) Γ N T:=λσ H0 R0 H R E D dn dr=>by
 refine sS (ot aJ (tR (bc hN hv hd hcd) aJ set_list ha) hs hw h1) (he σ H0 R0 H R E _ λv H1 R1 E1 s1 e1=>?_)
 obtain ⟨a,vs,ea,hp,hR,pp⟩:=E1.ent i _ hΓ1
 refine ⟨.ref a,at_of ea,hb σ H0 R0 H1 R1 E1 _ λu H2 R2 E2 s2 e2=>?_⟩
 obtain ⟨a',vs',ea',ha',hR',pp'⟩:=E2.ent i _ hΓ2
 rw [ea] at ea';cases ea'
 refine ⟨a,vs',k,j,rfl,e2,ha',by rw [pp'.length];exact hj,?_⟩
 exact dn σ _ R2 _ (E2.upd (en:=.mu r (xs.set j y)) hΓ2 rfl ea hR' ⟨a,_,rfl,av,hR',je (r.mono s2 e1) j pp'⟩) (s1.trans s2) h
theorem lG {F:α->β->Prop}{vs:List α}{xs:List β}(p:PySem.Paired F vs xs):PySem.Paired F vs.dropLast xs.dropLast:=by
 rw [List.dropLast_eq_take,List.dropLast_eq_take,p.length]
 exact fE _ p
theorem uC (i:Nat){ap cp:Pos}(hΓ:Γ[i]?=some (.mu r xs))(hy:xs[xs.length - 1]?=some y)
 (hN:X.N[i]?=some x:=by rfl) (hv:cy X.env.scope x:=by first | exact Or.inl rfl | exact Or.inr (Or.inl rfl) | exact Or.inr (Or.inr rfl))
 (hd:(x==("__debug__":Str))=false:=by decide) (hcd:(x==("__classdict__":Str))=false:=by decide)
 (hbase:attributeBase (.Name x p1) "pop" X.env (eval (.Name x p1) X.env)=eval (.Name x p1) X.env:=by rfl) (hline:(ap.endLine==cp.line)=true:=by rfl):
 EV X (.Call (.Attribute (.Name x p1) "pop" ap) [] [] cp) Γ r y (Γ.set i (.mu r xs.dropLast)):=by
 intro σ H0 R0 H R E Q q
 obtain ⟨a,vs,ea,ha,hR,pp⟩:=E.ent i _ hΓ
 obtain ⟨v,hv',hr⟩:=cT pp hy
 refine eS (BF PySem.F.plainAttrs_list PySem.F.slot_list_pop PySem.F.type_list_pop Ah (bc hN hv hd hcd) hbase hline) ⟨.ref a,at_of ea,.inl ⟨rfl,vs,aM.of ha⟩,?_⟩
 refine ⟨a,vs,v,rfl,rfl,ha,by rw [pp.length];exact hv',?_⟩
 exact q v _ R (E.upd hΓ rfl ea hR ⟨a,_,rfl,av,hR,lG pp⟩) (ak.refl _) hr
theorem oi (i:Nat)(hΓ:Γ[i]?=some (.mu r xs))(hN:X.N[i]?=some x:=by rfl)(hv:cy X.env.scope x:=by first | exact Or.inl rfl | exact Or.inr (Or.inl rfl) | exact Or.inr (Or.inr rfl))
 (hd:(x==("__debug__":Str))=false:=by decide) (hcd:(x==("__classdict__":Str))=false:=by decide)
 (he:∀whole,isTrue (.Name x pos) X.env whole=(do let v ← whole;standAt (Expr.Name x pos).pos;holding [v] (truthy v)):=by intro _;rfl):TV X (.Name x pos) Γ (!xs.isEmpty) Γ:=by
 intro σ H0 R0 H R E Q q
 obtain ⟨a,vs,ea,ha,hR,pp⟩:=E.ent i _ hΓ
 refine tS (oX (bc hN hv hd hcd) he) ⟨.ref a,at_of ea, !xs.isEmpty,.inl ⟨vs,aM.of ha,?_⟩,q H R E (ak.refl _)⟩
 cases pp<;>rfl
theorem qo (i:Nat){p:Pos}(hm:X.mg "len"=none)(hΓ:Γ[i]?=some (.mu r xs))(hN:X.N[i]?=some x:=by rfl)(hv:cy X.env.scope x:=by first | exact Or.inl rfl | exact Or.inr (Or.inl rfl) | exact Or.inr (Or.inr rfl))
 (hd:(x==("__debug__":Str))=false:=by decide) (hcd:(x==("__classdict__":Str))=false:=by decide) (hg:Gl X "len":=by rfl):EV X (.Call (.Name "len" p) [.Name x p1] [] pos) Γ ab (xs.length:Int) Γ:=by
 intro σ H0 R0 H R E Q q
 obtain ⟨a,vs,ea,ha,hR,pp⟩:=E.ent i _ hΓ
 refine eS (dk eV hg hm PySem.boot_len (aR (bc hN hv hd hcd) bt rfl) (by decide) (by decide) rfl) ⟨.ref a,at_of ea,a,vs,rfl,.inl (aM.of ha),?_⟩
 rw [pp.length]
 exact q _ H R E (ak.refl _) rfl
theorem freeze {K:PySem.W.Frag}{σ:St}{H0 R0 H R:Hp}(E:ao K σ H0 R0 H R Γ){i:Nat}(hΓ:Γ[i]?=some (.mu r xs))(hz:xs.length<=sizeLine):∃R' v,ao K σ H0 R0 H R' (Γ.set i (.im (ae r) xs))/\ak R R'/\(σ[i]?).join=some v/\(ae r).R K R' v xs:=by
 obtain ⟨a,vs,ea,ha,hR,pp⟩:=E.ent i _ hΓ
 have h0:H0 a=none:=E.new i _ a hΓ rfl ea
 have s2:ak R (upd R a (.lst vs)):=ak.fresh hR _
 have rr:(ae r).R K (upd R a (.lst vs)) (.ref a) xs:=⟨a,vs,rfl,av,Paired.map (λ_ _=>r.mono s2) pp,hz⟩
 have E1:ao K σ H0 R0 H R (Γ.set i .no):=E.tell hΓ trivial λb w=>by cases w
 have E2:=E1.nu ha hR h0 λj e q w=>by
  rcases set_at q with ⟨rfl,rfl,_⟩ | ⟨hj,q1⟩
  ·cases w
  ·exact hj (E.ds j i e _ a q1 hΓ w ((Ent.lF (e:=.mu r xs) rfl).mpr ea))
 have hl:i < Γ.length:=(List.getElem?_eq_some_iff.mp hΓ).1
 have E3:=E2.tell (i:=i) (e0:=.no) (en:=.im (ae r) xs) (List.getElem?_set_self hl) ⟨_,ea,rr⟩ λb w=>by cases w
 rw [List.set_set] at E3
 exact ⟨_,.ref a,E3,s2,ea,rr⟩
theorem WS.freeze (i:Nat){sts:List Stmt}(hΓ:Γ[i]?=some (.mu r xs))(hz:xs.length<=sizeLine)(h:WS X sts (Γ.set i (.im (ae r) xs)) N T):WS X sts Γ N T:=λσ H0 R0 H R E D dn dr=>by
 obtain ⟨R',v,E',s',_,_⟩:=Fc.freeze E hΓ hz
 exact h σ H0 R0 H R' E' D (λσ2 H2 R2 Γ2 E2 s2=>dn σ2 H2 R2 Γ2 E2 (s'.trans s2)) dr
def eX:Rep (List (Int×V)):=⟨λK H v kvs=>∃a,v= .ref a/\H a=some (.dK (bH kvs)),λs ⟨a,e,q⟩=>⟨a,e,s _ _ q⟩⟩
def fA (kvs:List (Int×V))(k:Int):Bool:=kvs.any λp=>decide (p.1=k)
theorem lI (kvs:List (Int×V))(k:Int):(b0 (bH kvs) (Sum.inl k:Key)).isSome=fA kvs k:=by
 rw [← eG]
 unfold bH fA
 rw [List.any_map]
 congr 1
 funext p
 show decide ((Sum.inl p.1:Key)=Sum.inl k)=decide (p.1=k)
 by_cases h:p.1=k
 ·rw [h];simp
 ·rw [decide_eq_false h,decide_eq_false λz=>h (Sum.inl.inj z)]
theorem yV (i:Nat)(neg:Bool){k:Int}(hu:X.A.units + 1 < cLine)(he:EV X e Γ ab k Γ)(hΓ:Γ[i]?=some (.di kvs))(hN:X.N[i]?=some x:=by rfl)(hv:cy X.env.scope x:=by first | exact Or.inl rfl | exact Or.inr (Or.inl rfl) | exact Or.inr (Or.inr rfl))
 (hd:(x==("__debug__":Str))=false:=by decide) (hcd:(x==("__classdict__":Str))=false:=by decide):
 TV X (.Compare e [if neg then .NotIn else .In] [.Name x p1] pos) Γ (if neg then !fA kvs k else fA kvs k) Γ:=by
 intro σ H0 R0 H R E Q q
 cases neg with
 | false=>
   refine tS (jJ (z5 hu aJ (bc hN hv hd hcd)) (by with_unfolding_all rfl)) (he σ H0 R0 H R E _ λv H1 R1 E1 s1 e1=>?_)
   obtain ⟨a,ea,ha,hR⟩:=E1.ent i _ hΓ
   cases e1
   refine ⟨.ref a,at_of ea,a,_,rfl,eY.k (k:=Sum.inl k) ha,_,rfl,?_⟩
   rw [lI]
   exact q H1 R1 E1 s1
 | true=>
   refine tS (jJ (jx hu aJ (bc hN hv hd hcd)) (by with_unfolding_all rfl)) (he σ H0 R0 H R E _ λv H1 R1 E1 s1 e1=>?_)
   obtain ⟨a,ea,ha,hR⟩:=E1.ent i _ hΓ
   cases e1
   refine ⟨.ref a,at_of ea,a,_,rfl,eY.k (k:=Sum.inl k) ha,_,rfl,?_⟩
   rw [lI]
   exact q H1 R1 E1 s1
theorem uA (i:Nat){ke ve:Expr}{p2:Pos}{k:Int}{v:V}(hu:X.A.units + 1 < cLine)(hk:EV X ke Γ ab k Γ)(hv:PE X ve (tC v))(hΓ:Γ[i]?=some (.di kvs))(hn:fA kvs k=false)(hz:kvs.length < sizeLine)(h:N (Γ.set i (.di (kvs++[(k,v)]))))
 (hN:X.N[i]?=some x:=by rfl) (hvi:cy X.env.scope x:=by first | exact Or.inl rfl | exact Or.inr (Or.inl rfl) | exact Or.inr (Or.inr rfl))
 (hd:(x==("__debug__":Str))=false:=by decide) (hcd:(x==("__classdict__":Str))=false:=by decide)
 (hs:swapsWith ve (some (.Subscript (.Name x p1) ke p2)) pos.line X.env=pure false:=by rfl):W1 X (.Assign [.Subscript (.Name x p1) ke p2] ve pos) Γ N T:=λσ H0 R0 H R E D dn dr=>by
 refine sS (lS hu (bc hN hvi hd hcd) aJ hv hs) ?_
 obtain ⟨a,ea,ha,hR⟩:=E.ent i _ hΓ
 refine ⟨.ref a,at_of ea,hk σ H0 R0 H R E _ λu H1 R1 E1 s1 e1=>?_⟩
 obtain ⟨a',ea',ha',hR'⟩:=E1.ent i _ hΓ
 rw [ea] at ea';cases ea'
 cases e1
 refine ⟨a,_,rfl,kx.k (k:=Sum.inl k) ha' (by unfold bH;rw [List.length_map];exact hz),?_⟩
 have vn:b0 (bH kvs) (Sum.inl k:Key)=none:=by
  have:=lI kvs k
  rw [hn] at this
  cases q:b0 (bH kvs) (Sum.inl k:Key) with
  | none=>rfl
  | some z=>rw [q] at this;cases this
 rw [kq v vn]
 have e:bH kvs++[((Sum.inl k:Key),v)]=bH (kvs++[(k,v)]):=by unfold bH;rw [List.map_append];rfl
 rw [e]
 exact dn σ _ R1 _ (E1.upd (en:=.di (kvs++[(k,v)])) hΓ rfl ea hR' ⟨a,rfl,av,hR'⟩) s1 h
theorem B5 (i:Nat){P:List (Int×V)->Prop}(hΓ:Γ[i]?=some (.di kvs))(h:P kvs)(hN:X.N[i]?=some x:=by rfl)(hv:cy X.env.scope x:=by first | exact Or.inl rfl | exact Or.inr (Or.inl rfl) | exact Or.inr (Or.inr rfl))
 (hd:(x==("__debug__":Str))=false:=by decide) (hcd:(x==("__classdict__":Str))=false:=by decide):W1 X (.Return (some (.Name x p1)) pos) Γ N (cF X.K eX P):=λσ H0 R0 H R E D dn dr=>by
 obtain ⟨a,ea,ha,hR⟩:=E.ent i _ hΓ
 have h0:H0 a=none:=E.new i _ a hΓ rfl ea
 refine sS (jM (bc hN hv hd hcd)) ⟨.ref a,at_of ea,dr _ H (upd R a (.dK (bH kvs))) ⟨E.ext.h,E.ext.r.trans (ak.fresh hR _),λb o qb=>?_,λb hb=>?_⟩ ⟨kvs,⟨a,rfl,av⟩,h⟩⟩
 ·by_cases hb:b=a
  ·subst hb;rw [av] at qb;cases qb;exact ha
  ·rw [aw hb] at qb;exact E.ext.s b o qb
 ·rw [aw (show b≠a from λe=>hb (by rw [e];exact h0))];exact E.ext.old b hb
theorem yz {a:Expr}{p:Pos}(hm:X.mg "len"=none)(ha:EV X a Γ eX kvs Γ1)(hs:starEach [a] X.env=[(false,eval a X.env)]:=by rfl)(hg:Gl X "len":=by rfl):EV X (.Call (.Name "len" p) [a] [] pos) Γ ab (kvs.length:Int) Γ1:=by
 intro σ H0 R0 H R E Q q
 refine eS (dk mS hg hm PySem.boot_len (aR aJ bt hs) (by decide) (by decide) hs) (ha σ H0 R0 H R E _ λv H1 R1 E1 s1 e1=>?_)
 obtain ⟨p,rfl,hp⟩:=e1
 refine ⟨p,_,rfl,E1.sub _ _ hp,?_⟩
 unfold bH
 rw [List.length_map]
 exact q _ H1 R1 E1 s1 rfl
end
abbrev cX:=PySem.W.Frag->List Pk->RT->Prop
def aP (S:cX)(K:PySem.W.Frag):Sp:=λvs H Q _=>∃R ps T,ak R H/\hU K R vs ps/\S K ps T/\∀v H' R',Ext H R H' R'->T H v H' R'->Q v H'
theorem hU.length {K:PySem.W.Frag}{R:Hp}:∀{vs:List V} {ps:List Pk},hU K R vs ps->vs.length=ps.length
 | _,_,.nil=>rfl
 | _,_,.cons _ t=>by rw [List.length_cons,List.length_cons,hU.length t]
structure aG (P:Program) (w:World) (K:PySem.W.Frag) (mg:Str->Option Value) (base:Heap) (x:Str) (k:Nat) (sp:Sp):Prop where
 ex:∃f fd ps,cV P w K mg base dI k f fd ps sp/\mg x=some (.ref f)/\PySem.W.keepIn K (.ref f)=true/\Binds K fd ps []
theorem aG.mono {P:Program}{w:World}{K:PySem.W.Frag}{mg:Str->Option Value}{base:Heap}{x:Str}{j k:Nat}{sp:Sp}(c:aG P w K mg base x j sp)(h:j<=k):aG P w K mg base x k sp:=by
 obtain ⟨f,fd,ps,F,a,b,c⟩:=c.ex
 exact ⟨f,fd,ps,F.mono h,a,b,c⟩
section
variable {X:Cx}{Γ Γ1 Γ2 Γ3:Ga}{α β γ δ:Type}{N:Ga->Prop}{T:RT}
theorem oQ {S:cX}{x:Str}{k:Nat}{e:Expr}{es:List Expr}{p pos:Pos}{ps:List Pk}{Q:VK}{σ:St}{H0 R0 H R:Hp}(C:aG X.prog X.w X.K X.mg X.base x k (aP S X.K))(hr:bA k X.A)(ha:HA X (e::es) Γ ps Γ1)(hS:S X.K ps T)(E:ao X.K σ H0 R0 H R Γ)
 (q:∀H1 R1 v H' R',ao X.K σ H0 R0 H1 R1 Γ1->ak R R1->Ext H1 R1 H' R'->T H1 v H' R'->Q v H')
 (hg:Gl X x) (hdb:(x==("__debug__":Str))=false) (he:starEach (e::es) X.env=(false,eval e X.env)::starEach es X.env) (hpl:(backTo pos (starEach es X.env)).any (·.1)=false):eP X (.Call (.Name x p) (e::es) [] pos) σ H Q:=by
 obtain ⟨f,fd,pn,F,hm,hk,hb⟩:=C.ex
 refine eS (lM F hr hg hm hk hb .nil nv jm hdb he hpl) (ha σ H0 R0 H R E _ λvs H1 R1 E1 s1 p1=>?_)
 refine ⟨R1,ps,T,E1.sub,by rw [List.append_nil];exact p1,hS,λv H' R' x t=>q H1 R1 v H' R' E1 s1 x t⟩
theorem aI {S:cX}{x:Str}{k:Nat}{e:Expr}{es:List Expr}{p pos:Pos}{ps:List Pk}{r:Rep α}{y:α}(C:aG X.prog X.w X.K X.mg X.base x k (aP S X.K))(hr:bA k X.A)(ha:HA X (e::es) Γ ps Γ1)(hS:S X.K ps (cF X.K r (· =y)))
 (hg:Gl X x:=by rfl) (hdb:(x==("__debug__":Str))=false:=by decide) (he:starEach (e::es) X.env=(false,eval e X.env)::starEach es X.env:=by rfl) (hpl:(backTo pos (starEach es X.env)).any (·.1)=false:=by rfl):EV X (.Call (.Name x p) (e::es) [] pos) Γ r y Γ1:=λσ H0 R0 H R E Q q=>
 oQ C hr ha hS E (λH1 R1 v H' R' E1 s1 xx t=>by
  obtain ⟨z,e1,rfl⟩:=t
  exact q v H' R' (E1.grow xx) (s1.trans xx.r) e1) hg hdb he hpl
end
def ee (ps:List Pk)(n:Nat):Ga:=ps.map (λp=>Ent.im p.r p.x)++List.replicate (n - ps.length) .no
theorem fT {K:PySem.W.Frag}{R H:Hp}{vs:List V}{ps:List Pk}{N:List Str}(s:ak R H)(p:hU K R vs ps)(hl:ps.length<=N.length):ao K (L2.start N vs) H R H R (ee ps N.length):=by
 have noown:∀(i:Nat) (e:Ent) (o:Option V),(ee ps N.length)[i]?=some e->e.fp o=[]:=λi e o q=>by
  unfold ee at q
  rcases List.mem_append.mp (List.mem_of_getElem? q) with z | z
  ·obtain ⟨p,_,rfl⟩:=List.mem_map.mp z;rfl
  ·obtain ⟨_,rfl⟩:=List.mem_replicate.mp z;rfl
 refine ⟨Ext.refl s,λi e q=>?_,λi e a q w=>absurd w (by rw [noown i e _ q];exact List.not_mem_nil),λi j e e' a q _ w=>absurd w (by rw [noown i e _ q];exact List.not_mem_nil),?_⟩
 ·have hp:=p.length
  unfold ee at q
  unfold L2.start
  by_cases hi:i < ps.length
  ·rw [List.getElem?_append_left (by simpa using hi),List.getElem?_map] at q
   rw [List.getElem?_append_left (by simpa [hp] using hi),List.getElem?_map]
   have key:∀{vs:List V} {ps:List Pk},hU K R vs ps->∀(i:Nat) (p:Pk),ps[i]?=some p->∃v,vs[i]?=some v/\p.r.R K R v p.x:=by
    intro vs ps h
    induction h with
    | nil=>intro i p e;simp at e
    | cons a b ih=>
      intro i p e
      cases i with
      | zero=>simp at e;subst e;exact ⟨_,rfl,a⟩
      | succ i=>simpa using ih i p (by simpa using e)
   cases e1:ps[i]? with
   | none=>rw [e1] at q;cases q
   | some p1=>
     rw [e1] at q
     cases q
     obtain ⟨v,h1,h2⟩:=key p i p1 e1
     rw [h1]
     exact ⟨v,rfl,h2⟩
  ·rw [List.getElem?_append_right (by simpa using hi),List.getElem?_replicate] at q
   split at q
   ·cases q;trivial
   ·cases q
 ·unfold ee L2.start
  rw [List.length_append,List.length_append,List.length_map,List.length_map,List.length_replicate,List.length_replicate,p.length]
section
variable {P:Program}{w:World}{K:PySem.W.Frag}{mg:Str->Option Value}{base:Heap}
theorem bu {S:cX}{x qual:Str}{st:Stmt}{f:Addr}{fd:FuncData}{N ps:List Str}{k:Nat}(F:bw K x qual st f fd)(Sc:aE N ps (ag st))(hm:mg x=some (.ref f))(hb:Binds K fd ps [])(len:∀qs T,S K qs T->qs.length=ps.length)
 (hbody:∀(cdv:Value) (A:Around) (outer:List Env) (s:Shared) (H:Hp) (E:XK) (qs:List Pk) (T:RT),bA k (A.deeper (envOfC qual (ag st) s.heap.objs.size f cdv))->S K qs T->
  WS (fc dI P w K mg base N qual (ag st) f cdv A outer s H E).jf (bM st) (ee qs N.length) (λ_=>False) T):aG P w K mg base x (k + 1) (aP S K):=by
 refine ⟨f,fd,ps,?_,hm,F.kp,hb⟩
 refine F.ok Sc (λvs H Q E h=>?_) (λcdv A outer s H vs Q E hr h=>?_)
 ·obtain ⟨R,qs,T,_,p,hS,_⟩:=h
  rw [p.length];exact len qs T hS
 ·obtain ⟨R,qs,T,sR,p,hS,q⟩:=h
  have hl:qs.length<=N.length:=by
   rw [len qs T hS]
   have:=congrArg List.length Sc.pre
   rw [List.length_take] at this
   omega
  exact ⟨_,ie,hbody cdv A outer s H E qs T hr hS (L2.start N vs) H R H R (fT sR p hl) {nx:=λ_ H'=>Q .non H',rt:=Q} (λ_ _ _ _ _ _ f=>f.elim) λv H' R' xx t=>q v H' R' xx t⟩
end
section
variable {X:Cx}{Γ Γ1 Γ2 Γ3:Ga}{α β γ δ:Type}{N:Ga->Prop}{T:RT}
variable {a:Expr}{pos:Pos}
theorem ox {bs:List Bool}{us:List Value}(r:Vals (bs.map V.bl) us){j:Nat}{v:Value}(h:us.toArray[j]?=some v):v= .bool (bs.getD j true):=by
 induction bs generalizing us j with
 | nil=>cases r;simp at h
 | cons b r' ih=>
   cases r with
   | cons h1 t=>
     cases j with
     | zero=>simp at h;rw [← h];exact h1
     | succ j=>exact ih t (by simpa using h)
theorem all_range (bs:List Bool):((List.range bs.length).all λj=>bs.getD j true)=bs.all id:=by
 rw [Bool.eq_iff_iff,List.all_eq_true,List.all_eq_true]
 constructor
 ·intro h b hb
  obtain ⟨j,hj,rfl⟩:=List.mem_iff_getElem.mp hb
  have:=h j (List.mem_range.mpr hj)
  simpa [List.getD_eq_getElem?_getD,List.getElem?_eq_getElem hj] using this
 ·intro h j hj
  have hj:=List.mem_range.mp hj
  simpa [List.getD_eq_getElem?_getD,List.getElem?_eq_getElem hj] using h _ (List.getElem_mem hj)
theorem any_range (bs:List Bool):((List.range bs.length).any λj=>bs.getD j true)=bs.any id:=by
 rw [Bool.eq_iff_iff,List.any_eq_true,List.any_eq_true]
 constructor
 ·rintro ⟨j,hj,h⟩
  have hj:=List.mem_range.mp hj
  exact ⟨_,List.getElem_mem hj,by simpa [List.getD_eq_getElem?_getD,List.getElem?_eq_getElem hj] using h⟩
 ·rintro ⟨b,hb,h⟩
  obtain ⟨j,hj,rfl⟩:=List.mem_iff_getElem.mp hb
  exact ⟨j,List.mem_range.mpr hj,by simpa [List.getD_eq_getElem?_getD,List.getElem?_eq_getElem hj] using h⟩
theorem wH (hc:X.calm=true):dX X (.builtin "all") (λxs H Q=>∃(p:Addr) (bs:List Bool),xs=[.ref p]/\aM X.K H p (bs.map V.bl)/\Q (.bl (bs.all id)) H):=by
 intro pins s σ H xs us Q I r h
 obtain ⟨p,bs,rfl,hq,q⟩:=h
 obtain ⟨u,rfl,rx⟩:=vals1 r
 cases rx
 obtain ⟨its,r',pl,hz⟩:=I.list hq
 have hne:p≠s.heap.objs.size:=λe=>by obtain ⟨o,ho,_⟩:=pl.isList;exact absurd (Heap.lt_size ho) (by rw [e];exact Nat.lt_irrefl _)
 refine call_all_walk (wpAny_pyIter_list pl.isList ?_)
 refine ⟨s.heap.objs.size,_,[s.heap.objs.size],its.toArray.size,_,_,λj=>bs.getD j true,rfl,Walks.list (A:=X.A.in1) (show X.A.in1.handled=none from I.ok.hd hc) s.heap.objs.size p hne its.toArray,?_,λj v s Q E hv hQ=>?_,λh' tk hk=>?_⟩
 ·refine ⟨⟨_,Heap.get?_push_size _ rfl,rfl,rfl⟩,?_⟩
  obtain ⟨o,ho,c,n,d⟩:=pl.isList
  exact ⟨o,Heap.get?_push_of_some _ ho,c,n,d⟩
 ·rw [ox r' hv];exact wpAny_truthy_bool hQ
 ·have e:its.toArray.size=bs.length:=by rw [List.size_toArray,← r'.length,List.length_map]
  rw [e,all_range]
  exact ⟨.bl _,H,I.kept λb o e=>hk b o (λz=>absurd (Heap.lt_size e) (by rw [List.mem_singleton.mp z];exact Nat.lt_irrefl _)) (Heap.get?_push_of_some _ e),rfl,q⟩
theorem wc (hc:X.calm=true):dX X (.builtin "any") (λxs H Q=>∃(p:Addr) (bs:List Bool),xs=[.ref p]/\aM X.K H p (bs.map V.bl)/\Q (.bl (bs.any id)) H):=by
 intro pins s σ H xs us Q I r h
 obtain ⟨p,bs,rfl,hq,q⟩:=h
 obtain ⟨u,rfl,rx⟩:=vals1 r
 cases rx
 obtain ⟨its,r',pl,hz⟩:=I.list hq
 have hne:p≠s.heap.objs.size:=λe=>by obtain ⟨o,ho,_⟩:=pl.isList;exact absurd (Heap.lt_size ho) (by rw [e];exact Nat.lt_irrefl _)
 refine call_any_walk (wpAny_pyIter_list pl.isList ?_)
 refine ⟨s.heap.objs.size,_,[s.heap.objs.size],its.toArray.size,_,_,λj=>bs.getD j true,rfl,Walks.list (A:=X.A.in1) (show X.A.in1.handled=none from I.ok.hd hc) s.heap.objs.size p hne its.toArray,?_,λj v s Q E hv hQ=>?_,λh' tk hk=>?_⟩
 ·refine ⟨⟨_,Heap.get?_push_size _ rfl,rfl,rfl⟩,?_⟩
  obtain ⟨o,ho,c,n,d⟩:=pl.isList
  exact ⟨o,Heap.get?_push_of_some _ ho,c,n,d⟩
 ·rw [ox r' hv];exact wpAny_truthy_bool hQ
 ·have e:its.toArray.size=bs.length:=by rw [List.size_toArray,← r'.length,List.length_map]
  rw [e,any_range]
  exact ⟨.bl _,H,I.kept λb o e=>hk b o (λz=>absurd (Heap.lt_size e) (by rw [List.mem_singleton.mp z];exact Nat.lt_irrefl _)) (Heap.get?_push_of_some _ e),rfl,q⟩
theorem kI {K:PySem.W.Frag}{R:Hp}:∀{vs:List V} {xs:List Bool},PySem.Paired (cx.R K R) vs xs->vs=xs.map V.bl
 | _,_,.nil=>rfl
 | _,_,.cons h t=>by rw [List.map_cons,← kI t];exact congrArg (· ::_) h
theorem xp {x:Str}{id:String}{r:List V->Hp->VK->Prop}{p:Pos}{ra:Rep α}{rb:Rep β}{y:α}{z:β}(hc:dX X (.builtin id) r)(hm:X.mg x=none)(hv:bootBuiltins x=some (.builtin id))(ha:EV X a Γ ra y Γ1)
 (h:∀(R H:Hp) v Q,ak R H->ra.R X.K R v y->(∀w,rb.R X.K R w z->Q w H)->r [v] H Q) (hs:starEach [a] X.env=[(false,eval a X.env)]:=by rfl) (hg:Gl X x:=by rfl) (hn:x≠"__name__":=by decide) (hdb:(x==("__debug__":Str))=false:=by decide):
 EV X (.Call (.Name x p) [a] [] pos) Γ rb z Γ1:=by
 intro σ H0 R0 H R E Q q
 exact eS (dk hc hg hm hv (aR aJ bt hs) hn hdb hs) (ha σ H0 R0 H R E _ λv H1 R1 E1 s1 e1=>h R1 H1 v _ E1.sub e1 λw hw=>q w H1 R1 E1 s1 hw)
theorem Ak {p:Pos}{bs:List Bool}(hm:X.mg "all"=none)(ha:EV X a Γ (ae cx) bs Γ1)(hs:starEach [a] X.env=[(false,eval a X.env)]:=by rfl)(hc:X.calm=true:=by rfl)(hg:Gl X "all":=by rfl):EV X (.Call (.Name "all" p) [a] [] pos) Γ cx (bs.all id) Γ1:=
 xp (wH hc) hm boot_all ha (λR H v Q s ⟨p,vs,e,hp,pp,_⟩ q=>⟨p,bs,by rw [e],by rw [← kI pp];exact aM.of (s _ _ hp),q _ rfl⟩) hs hg
theorem zL {p:Pos}{bs:List Bool}(hm:X.mg "any"=none)(ha:EV X a Γ (ae cx) bs Γ1)(hs:starEach [a] X.env=[(false,eval a X.env)]:=by rfl)(hc:X.calm=true:=by rfl)(hg:Gl X "any":=by rfl):EV X (.Call (.Name "any" p) [a] [] pos) Γ cx (bs.any id) Γ1:=
 xp (wc hc) hm boot_any ha (λR H v Q s ⟨p,vs,e,hp,pp,_⟩ q=>⟨p,bs,by rw [e],by rw [← kI pp];exact aM.of (s _ _ hp),q _ rfl⟩) hs hg
theorem yQ {p:Pos}{b:Bool}(hm:X.mg "int"=none)(ha:EV X a Γ cx b Γ1)(hs:starEach [a] X.env=[(false,eval a X.env)]:=by rfl)(hg:Gl X "int":=by rfl):EV X (.Call (.Name "int" p) [a] [] pos) Γ ab (if b then 1 else 0) Γ1:=by
 intro σ H0 R0 H R E Q q
 exact eS (fL tN hg hm PyProof.Rows.boot_int (aR aJ bt hs) (by decide) (by decide) hs) (ha σ H0 R0 H R E _ λv H1 R1 E1 s1 e1=>.inr ⟨b,by rw [show v=V.bl b from e1],q _ H1 R1 E1 s1 rfl⟩)
theorem yj {b:Expr}{p:Pos}{x y:Int}(hm:X.mg "min"=none)(ha:HA X [a,b] Γ [⟨ab,x⟩,⟨ab,y⟩] Γ1)(hs:starEach [a,b] X.env=(false,eval a X.env)::starEach [b] X.env:=by rfl)(hc:X.calm=true:=by rfl)(hg:Gl X "min":=by rfl)(hpl:(backTo pos (starEach [b] X.env)).any (·.1)=false:=by rfl):EV X (.Call (.Name "min" p) [a,b] [] pos) Γ ab (if y < x then y else x) Γ1:=by
 intro σ H0 R0 H R E Q q
 refine eS (dk (u6 hc) hg hm PyProof.Rows.boot_min jm (by decide) (by decide) hs hpl) (ha σ H0 R0 H R E _ λvs H1 R1 E1 s1 p1=>?_)
 cases p1 with
 | cons a1 t=>cases t with
   | cons a2 t2=>cases t2;cases a1;cases a2;exact ⟨x,y,rfl,q _ H1 R1 E1 s1 rfl⟩
end
def Src (K:PySem.W.Frag)(J:It)(R1:Hp){α:Type}(r:Rep α)(xs:List α):Prop:=
 ∀(H' R':Hp),ak R1 R'->ak R' H'->∀i:Nat,(∀x,xs[i]?=some x->J.go i H'/\∀v H2,J.yld i H' v H2->∃R2,Ext H' R' H2 R2/\r.R K R2 v x)/\(xs.length<=i->J.stop i H')
section
variable {X:Cx}{Γ Γ1 Γ2 Γ3:Ga}{α β γ δ:Type}{N:Ga->Prop}{T:RT}
variable {tg:Expr}{xs:List α}{iter:Expr}{bf:α->Ga->Ga}{pos:Pos}{elt:Expr}{ifs:List Expr}{scope:Scope}{fr:List Str}{ix:List Nat}{ra:Rep α}{rb:Rep β}{f:α->β}
def IV (X:Cx)(tg iter:Expr)(Γ:Ga){α:Type}(r:Rep α)(xs:List α)(Γ1:Ga):Prop:=
 ∃wi,PI X tg iter wi/\∀(σ:St) (H0 R0 H R:Hp),ao X.K σ H0 R0 H R Γ->∀Rq:It->Hp->Prop,(∀J H1 R1,ao X.K σ H0 R0 H1 R1 Γ1->ak R R1->xs.length<=sizeLine->Src X.K J R1 r xs->Rq J H1)->wi σ H Rq
theorem cM {r:Rep α}(h:EV X iter Γ (ae r) xs Γ1):IV X tg iter Γ r xs Γ1:=by
 refine ⟨_,yM aJ,λσ H0 R0 H R E Rq q=>h σ H0 R0 H R E _ λv H1 R1 E1 s1 e1=>?_⟩
 obtain ⟨a,vs,rfl,ha,pp,z⟩:=e1
 refine ⟨a,rfl,⟨vs,aM.of (E1.sub _ _ ha)⟩,q _ H1 R1 E1 s1 z λH' R' sR sH i=>⟨λx hx=>?_,λhi=>?_⟩⟩
 ·have hq:aM X.K H' a vs:=aM.of (sH _ _ (sR _ _ ha))
  obtain ⟨v,hv,hr⟩:=cT pp hx
  refine ⟨⟨vs,v,hq,hv⟩,λv' H2 hy=>?_⟩
  obtain ⟨rfl,hy⟩:=hy
  have:=hy vs hq
  rw [hv] at this
  cases this
  exact ⟨R',Ext.refl sH,r.mono sR hr⟩
 ·exact ⟨vs,aM.of (sH _ _ (sR _ _ ha)),by rw [pp.length];exact hi⟩
def ups (lo:Int)(n:Nat):List Int:=(List.range n).map λ(k:Nat)=>lo + (k:Int)
theorem bE (lo:Int)(n:Nat):(ups lo n).length=n:=by unfold ups;rw [List.length_map,List.length_range]
theorem fb {lo:Int}{n i:Nat}{x:Int}(h:(ups lo n)[i]?=some x):i < n/\x=lo + (i:Int):=by
 have hi:i < n:=by have:=(List.getElem?_eq_some_iff.mp h).1;rwa [bE] at this
 refine ⟨hi,?_⟩
 unfold ups at h
 rw [List.getElem?_map,List.getElem?_range hi] at h
 exact (Option.some.inj h).symm
theorem qw {K:PySem.W.Frag}{R1:Hp}(lo:Int)(n:Nat):Src K (tL lo n) R1 ab (ups lo n):=λH' R' sR sH i=>⟨λx hx=>by
 obtain ⟨h1,rfl⟩:=fb hx
 refine ⟨h1,λv H2 hy=>?_⟩
 obtain ⟨rfl,rfl⟩:=hy
 exact ⟨R',Ext.refl sH,rfl⟩,λhi=>by rw [bE] at hi;exact hi⟩
theorem dR {a:Expr}{p1 p2:Pos}{n:Int}(hm:X.mg "range"=none)(ha:EV X a Γ ab n Γ1)(hn: -(2 ^ 62)<=n/\n<=1000000)(hs1:starEach [a] X.env=[(false,eval a X.env)]:=by rfl)(hg:Gl X "range":=by rfl):IV X tg (.Call (.Name "range" p1) [a] [] p2) Γ ab (ups 0 n.toNat) Γ1:=by
 refine ⟨_,vc hg hm (aR aJ bt hs1) hs1,λσ H0 R0 H R E Rq q=>ha σ H0 R0 H R E _ λv H1 R1 E1 s1 e1=>?_⟩
 exact ⟨n,by rw [show v=V.int n from e1],hn.1,by omega,q _ H1 R1 E1 s1 (by rw [bE];exact Nat.le_trans (show n.toNat<=1000000 by omega) (by decide)) (qw 0 n.toNat)⟩
theorem uI {a b:Expr}{p1 p2:Pos}{m n:Int}(hm:X.mg "range"=none)(ha:EV X a Γ ab m Γ1)(hb:EV X b Γ1 ab n Γ2)(hn: -1000000<=m/\m<=1000000/\ -1000000<=n/\n<=1000000)
 (hs1:starEach [a,b] X.env=[(false,eval a X.env),(false,eval b X.env)]:=by rfl) (hs2:starEach [b] X.env=[(false,eval b X.env)]:=by rfl) (hg:Gl X "range":=by rfl):IV X tg (.Call (.Name "range" p1) [a,b] [] p2) Γ ab (ups m (n - m).toNat) Γ2:=by
 refine ⟨_,uz hg hm (aR aJ (aR aJ bt hs2) (by rw [hs1,hs2])) hs1 hs2,λσ H0 R0 H R E Rq q=>ha σ H0 R0 H R E _ λv H1 R1 E1 s1 e1=>hb σ H0 R0 H1 R1 E1 _ λu H2 R2 E2 s2 e2=>?_⟩
 exact ⟨m,n,by rw [show v=V.int m from e1,show u=V.int n from e2],⟨by omega,by omega,by omega,by omega⟩,q _ H2 R2 E2 (s1.trans s2) (by rw [bE];exact Nat.le_trans (show (n - m).toNat<=2000000 by omega) (by decide)) (qw m (n - m).toNat)⟩
theorem cj {body:List Stmt}{r:Rep α}(I:Nat->Ga->Prop)(hit:IV X tg iter Γ r xs Γ1)(hb:BG X tg r bf)(h0:I 0 Γ1)
 (hstep:∀(i:Nat) (x:α) (Γ:Ga),xs[i]?=some x->I i Γ->WS X body (bf x Γ) (I (i + 1)) T) (hend:∀Γ:Ga,I xs.length Γ->N Γ)
 (hc:X.calm=true:=by rfl) (hp:PassesOwn (model X.prog X.w) X.A X.env X.xe:=by exact PassesOwn.never) (hs:∀x,foldedSetIterable iter X.env x=pure x:=by intro _;rfl):W1 X (.For tg iter body [] pos) Γ N T:=λσ H0 R0 H R E D dn dr=>by
 obtain ⟨wi,hi,hit⟩:=hit
 refine sS (A9 hp hc hi pgS ie hs) (hit σ H0 R0 H R E _ λJ H1 R1 E1 s1 hz src=>?_)
 refine ⟨λi m σ' H'=>m=xs.length - i/\i<=xs.length/\∃R' Γ',ao X.K σ' H0 R0 H' R' Γ'/\ak R1 R'/\I i Γ',⟨_,rfl,Nat.zero_le _,R1,Γ1,E1,ak.refl _,h0⟩,?_⟩
 rintro i m σ' H' ⟨rfl,hle,R',Γ',E',s',hI⟩
 obtain ⟨sgo,sstop⟩:=src H' R' s' E'.sub i
 by_cases hlt:i < xs.length
 ·obtain ⟨go,yl⟩:=sgo _ (List.getElem?_eq_getElem hlt)
  refine .inr ⟨go,λσ' H'=>i + 1<=xs.length/\∃R' Γ',ao X.K σ' H0 R0 H' R' Γ'/\ak R1 R'/\I (i + 1) Γ',λσ2 H2 h=>⟨xs.length - (i + 1),by omega,rfl,h.1,h.2⟩,λv H2 hy=>?_⟩
  obtain ⟨R2,x2,hr⟩:=yl v H2 hy
  refine hb σ' H0 R0 H2 R2 Γ' v _ (E'.grow x2) hr _ λσ2 E2=>?_
  exact hstep i _ Γ' (List.getElem?_eq_getElem hlt) hI σ2 H0 R0 H2 R2 E2 _ (λσ3 H3 R3 Γ3 E3 s3 h3=>⟨hlt,R3,Γ3,E3,s'.trans (x2.r.trans s3),h3⟩) dr
 ·have e:i=xs.length:=by omega
  subst e
  exact .inl ⟨sstop (Nat.le_refl _),dn σ' H' R' Γ' E' (s1.trans s') (hend Γ' hI)⟩
def sk:Option Ent->Ent
 | some (.im r x)=>.im r x
 | _=>.no
def dJ (own:List Str)(ix:List Nat)(Γ:Ga):Ga:=List.replicate own.length .no++ix.map λi=>sk Γ[i]?
theorem vO {K:PySem.W.Frag}{σ:St}{H0 R0 H R:Hp}(E:ao K σ H0 R0 H R Γ)(own:List Str)(ix:List Nat):ao K (fe own ix σ) H R H R (dJ own ix Γ):=by
 have noown:∀(i:Nat) (e:Ent) (o:Option V),(dJ own ix Γ)[i]?=some e->e.fp o=[]:=λi e o q=>by
  unfold dJ at q
  rcases List.mem_append.mp (List.mem_of_getElem? q) with z | z
  ·obtain ⟨_,rfl⟩:=List.mem_replicate.mp z;rfl
  ·obtain ⟨k,_,rfl⟩:=List.mem_map.mp z
   unfold sk
   split<;>rfl
 refine ⟨Ext.refl E.sub,λi e q=>?_,λi e a q w=>absurd w (by rw [noown i e _ q];exact List.not_mem_nil),λi j e e' a q _ w=>absurd w (by rw [noown i e _ q];exact List.not_mem_nil),by unfold dJ fe;simp⟩
 unfold dJ at q
 unfold fe
 by_cases hi:i < own.length
 ·rw [List.getElem?_append_left (by simpa using hi),List.getElem?_replicate] at q
  rw [if_pos hi] at q
  cases q;trivial
 ·rw [List.getElem?_append_right (by simpa using hi),List.length_replicate,List.getElem?_map] at q
  rw [List.getElem?_append_right (by simpa using hi),List.length_replicate,List.getElem?_map]
  cases ek:ix[i - own.length]? with
  | none=>rw [ek] at q;cases q
  | some k=>
    rw [ek] at q
    have q':sk Γ[k]?=e:=Option.some.inj q
    subst q'
    show (sk Γ[k]?).ok K H R (σ[k]?).join
    cases eg:Γ[k]? with
    | none=>trivial
    | some e=>
      cases e with
      | im r x=>exact E.ent k _ eg
      | no=>trivial
      | mu r x=>trivial
      | di x=>trivial
      | ob x=>trivial
theorem mP {cl:List (Str×Addr)}{own:List Str}{p:α->Bool}{J:It}{σ:St}{H0 R0 H1 R1:Hp}{Q:VK}(E1:ao X.K σ H0 R0 H1 R1 Γ1)(src:Src X.K J R1 ra xs)(hz:xs.length<=sizeLine)
 (hb:∀(C:Addr) (s:Shared) (H:Hp) (ex:List Addr),BG (br X scope cl C (own++fr) s H ex) tg ra bf) (hw:∀x,Wk (bf x (dJ own ix Γ1)) (dJ own ix Γ1))
 (ht:∀(C:Addr) (s:Shared) (H:Hp) (ex:List Addr) x,x∈xs->TF (br X scope cl C (own++fr) s H ex) ifs (bf x (dJ own ix Γ1)) (p x) (bf x (dJ own ix Γ1)))
 (he:∀(C:Addr) (s:Shared) (H:Hp) (ex:List Addr) x,x∈xs->p x=true->EV (br X scope cl C (own++fr) s H ex) elt (bf x (dJ own ix Γ1)) rb (f x) (bf x (dJ own ix Γ1)))
 (q:∀a vs H' R',Ext H1 R1 H' R'->H' a=none->PySem.Paired (rb.R X.K R') vs ((xs.filter p).map f)->Q (.ref a) (upd H' a (.lst vs))):
 ∃W:Nat->Nat->List V->St->Hp->Prop,(∃m,W 0 m [] (fe own ix σ) H1)/\∀i m ys σ' H',W i m ys σ' H'->
  ys.length<=sizeLine/\((J.stop i H'/\∀p,H' p=none->Q (.ref p) (upd H' p (.lst ys)))∨
  (J.go i H'/\∀x H2,J.yld i H' x H2->(λv σ H Q=>∀C s Hh ex,md (br X scope cl C (own++fr) s Hh ex) tg v σ H Q:TG) x σ' H2 λσ2 H3=>(λσ H Q=>∀C s Hh ex,nX (br X scope cl C (own++fr) s Hh ex) ifs σ H Q:TT) σ2 H3 λb H4=>
    if b=true then (λσ H Q=>∀C s Hh ex,eP (br X scope cl C (own++fr) s Hh ex) elt σ H Q:TE) σ2 H4 λv H5=>∃m',m' < m/\W (i + 1) m' (ys++[v]) σ2 H5 else∃m',m' < m/\W (i + 1) m' ys σ2 H4)):=by
 refine ⟨λi m ys σ' H'=>m=xs.length - i/\i<=xs.length/\∃R',ao X.K σ' H1 R1 H' R' (dJ own ix Γ1)/\PySem.Paired (rb.R X.K R') ys (((xs.take i).filter p).map f),⟨_,rfl,Nat.zero_le _,R1,vO E1 own ix,.nil⟩,?_⟩
 rintro i m ys σ' H' ⟨rfl,hle,R',E',pp⟩
 have hys:ys.length<=sizeLine:=by
  rw [pp.length,List.length_map]
  refine Nat.le_trans (List.length_filter_le _ _) (Nat.le_trans ?_ hz)
  rw [List.length_take];omega
 obtain ⟨sgo,sstop⟩:=src H' R' E'.ext.r E'.sub i
 refine ⟨hys,?_⟩
 by_cases hlt:i < xs.length
 ·obtain ⟨go,yl⟩:=sgo _ (List.getElem?_eq_getElem hlt)
  have hmem:xs[i]∈xs:=List.getElem_mem hlt
  have tk:(xs.take (i + 1))=xs.take i++[xs[i]]:=by rw [List.take_succ,List.getElem?_eq_getElem hlt];rfl
  refine .inr ⟨go,λv H2 hy C s Hh ex=>?_⟩
  obtain ⟨R2,x2,hr⟩:=yl v H2 hy
  refine hb C s Hh ex σ' H1 R1 H2 R2 _ v _ (E'.grow x2) hr _ λσ2 E2=>?_
  intro C s Hh ex
  refine ht C s Hh ex _ hmem σ2 H1 R1 H2 R2 E2 _ λH4 R4 E4 s4=>?_
  cases hpx:p xs[i] with
  | false=>
    rw [if_neg Bool.false_ne_true]
    refine ⟨xs.length - (i + 1),by omega,rfl,hlt,R4,E4.weak (hw _),?_⟩
    rw [tk,List.filter_append,List.filter_cons,hpx,if_neg Bool.false_ne_true,List.filter_nil,List.append_nil]
    exact Paired.map (λ_ _=>rb.mono (x2.r.trans s4)) pp
  | true=>
    rw [if_pos rfl]
    intro C s Hh ex
    refine he C s Hh ex _ hmem hpx σ2 H1 R1 H4 R4 E4 _ λw H5 R5 E5 s5 e5=>?_
    refine ⟨xs.length - (i + 1),by omega,rfl,hlt,R5,E5.weak (hw _),?_⟩
    rw [tk,List.filter_append,List.filter_cons,hpx,if_pos rfl,List.filter_nil,List.map_append]
    exact dw (Paired.map (λ_ _=>rb.mono (x2.r.trans (s4.trans s5))) pp) (.cons e5 .nil)
 ·have e:i=xs.length:=by omega
  subst e
  rw [List.take_length] at pp
  exact .inl ⟨sstop (Nat.le_refl _),λa ha=>q a ys H' R' E'.ext ha pp⟩
theorem cE {cl:List (Str×Addr)}{own:List Str}{p:α->Bool}
 (S:dN X scope cl own fr ix) (hit:IV X tg iter Γ ra xs Γ1)
 (hb:∀(C:Addr) (s:Shared) (H:Hp) (ex:List Addr),BG (br X scope cl C (own++fr) s H ex) tg ra bf) (hw:∀x,Wk (bf x (dJ own ix Γ1)) (dJ own ix Γ1))
 (ht:∀(C:Addr) (s:Shared) (H:Hp) (ex:List Addr) x,x∈xs->TF (br X scope cl C (own++fr) s H ex) ifs (bf x (dJ own ix Γ1)) (p x) (bf x (dJ own ix Γ1)))
 (he:∀(C:Addr) (s:Shared) (H:Hp) (ex:List Addr) x,x∈xs->p x=true->EV (br X scope cl C (own++fr) s H ex) elt (bf x (dJ own ix Γ1)) rb (f x) (bf x (dJ own ix Γ1)))
 (hc:X.calm=true:=by rfl) (hs:∀x,foldedSetIterable iter X.env x=pure x:=by intro _;rfl):aV X (.ListComp elt [⟨tg,iter,ifs,0⟩] scope pos) Γ rb ((xs.filter p).map f) Γ1:=by
 intro σ H0 R0 H R E Q q
 obtain ⟨wi,hi,hit⟩:=hit
 refine eS (yB (g:=λv σ H Q=>∀C s Hh ex,md (br X scope cl C (own++fr) s Hh ex) tg v σ H Q) (tc:=λσ H Q=>∀C s Hh ex,nX (br X scope cl C (own++fr) s Hh ex) ifs σ H Q) (te:=λσ H Q=>∀C s Hh ex,eP (br X scope cl C (own++fr) s Hh ex) elt σ H Q) hc S hi
  (λC s H ex=>⟨λpins s1 σ H v u Q I r h=>h C s _ ex pins s1 u I r,λpins s1 σ H Q I h=>h C s _ ex pins s1 I,λpins s1 σ H Q I h=>h C s _ ex pins s1 I⟩) hs) ?_
 refine hit σ H0 R0 H R E _ λJ H1 R1 E1 s1 hz src=>mP E1 src hz hb hw ht he λa vs H' R' xx ha pp=>?_
 have E2:=E1.grow xx
 exact q a vs _ R' (E2.grow (Ext.dy E2.sub ha _)) (s1.trans xx.r) av (E2.sub.free ha) (E2.ext.h.free ha) (E2.off ha) pp (by
  rw [List.length_map];exact Nat.le_trans (List.length_filter_le _ _) hz)
theorem n9 (i:Nat){y:Str}{py spos:Pos}{cl:List (Str×Addr)}{own:List Str}{p:α->Bool}
 (S:dN X scope cl own fr ix) (hit:IV X tg iter Γ ra xs Γ1)
 (hb:∀(C:Addr) (s:Shared) (H:Hp) (ex:List Addr),BG (br X scope cl C (own++fr) s H ex) tg ra bf) (hw:∀x,Wk (bf x (dJ own ix Γ1)) (dJ own ix Γ1))
 (ht:∀(C:Addr) (s:Shared) (H:Hp) (ex:List Addr) x,x∈xs->TF (br X scope cl C (own++fr) s H ex) ifs (bf x (dJ own ix Γ1)) (p x) (bf x (dJ own ix Γ1)))
 (he:∀(C:Addr) (s:Shared) (H:Hp) (ex:List Addr) x,x∈xs->p x=true->EV (br X scope cl C (own++fr) s H ex) elt (bf x (dJ own ix Γ1)) rb (f x) (bf x (dJ own ix Γ1)))
 (h:N (Γ1.set i (.mu rb ((xs.filter p).map f))))
 (hsw:swapsWith (.ListComp elt [⟨tg,iter,ifs,0⟩] scope pos) (some (.Name y py)) spos.line X.env=pure true:=by rfl)
 (hN:X.N.Nodup:=by first | assumption | decide) (hi':X.N[i]?=some y:=by rfl) (hx:Loc X.env.scope y:=by first | exact Or.inl rfl | exact Or.inr rfl)
 (hc:X.calm=true:=by rfl) (hs:∀x,foldedSetIterable iter X.env x=pure x:=by intro _;rfl) (hf:X.fn y=true∨X.env.scope.names.lookup y=some .local:=by first | exact .inl rfl | exact .inr rfl):
 W1 X (.Assign [.Name y py] (.ListComp elt [⟨tg,iter,ifs,0⟩] scope pos) spos) Γ N T:=λσ H0 R0 H R E D dn dr=>by
 obtain ⟨wi,hi,hit⟩:=hit
 refine sS (rP (i:=i) (g:=λv σ H Q=>∀C s Hh ex,md (br X scope cl C (own++fr) s Hh ex) tg v σ H Q) (tc:=λσ H Q=>∀C s Hh ex,nX (br X scope cl C (own++fr) s Hh ex) ifs σ H Q) (te:=λσ H Q=>∀C s Hh ex,eP (br X scope cl C (own++fr) s Hh ex) elt σ H Q) hsw hN hi' hx hc S hi
  (λC s H ex=>⟨λpins s1 σ H v u Q I r h=>h C s _ ex pins s1 u I r,λpins s1 σ H Q I h=>h C s _ ex pins s1 I,λpins s1 σ H Q I h=>h C s _ ex pins s1 I⟩) hs hf) ?_
 refine hit σ H0 R0 H R E _ λJ H1 R1 E1 s1 hz src=>mP (Q:=λv H'=>D.nx (σ.set i (some v)) H') E1 src hz hb hw ht he λa vs H' R' xx ha pp=>?_
 have E2:=E1.grow xx
 exact dn _ _ R' _ ((E2.grow (Ext.dy E2.sub ha _)).sr (u:=.lst vs) (en:=.mu rb ((xs.filter p).map f)) i ⟨a,vs,rfl,av,E2.sub.free ha,pp⟩ (E2.ext.h.free ha) λj e _ q w=>E2.off ha j e q w) (s1.trans xx.r) h
end
section
variable {X:Cx}{Γ Γ1 Γ2 Γ3:Ga}{α β γ δ:Type}{N:Ga->Prop}{T:RT}
variable {es:List Expr}{tp:Pos}
theorem gw {pins:List (Addr×Obj)}{σ:St}{H:Hp}{s:Shared}{h':Heap}{t':Nat}{fp:List Addr}(I:Inv X pins σ H s)(k:∀b o,b∉fp->s.heap.get? b=some o->h'.get? b=some o)(hf:∀b∈fp,gR X pins H b):Inv X pins σ H {s with heap:=h',toks:=t'}:=by
 have nit:∀b u,H b=some u->b∉fp:=λb u e z=>by rw [(hf b z).1] at e;cases e
 refine I.step (g':=s.gens) (d':=s.drawn) (ch:=fp) (λb hb=>⟨(hf b hb).2.2.2.1,(hf b hb).2.1,(hf b hb).2.2.2.2.1,(hf b hb).2.2.2.2.2⟩) (λb o _ _ hc e _=>k b o hc e) (λb o _ _ hc e _=>⟨o.slots,k b o hc e⟩) (λ_ _ _ _ n=>n)
  (λb o hc e=>⟨o,k b o hc e⟩) (λ_ _ e=>e) (λ_ _ _ e=>e) (λb ps e=>⟨#[],by rw [e];simp⟩) (λm hm=>?_) (λb u e=>?_) I.bare
 ·obtain ⟨o,es,ep,ho,r⟩:=hm
  exact ⟨o,es,ep,k _ o (λz=>(hf _ z).2.1 rfl) ho,r⟩
 ·refine (I.hok b u e).stay (λc v hc q=>k c v ?_ q) (λ_ q=>q) λ_ _ q=>q
  rcases hc with z | z
  ·rw [z];exact nit b u e
  ·exact nit c _ z
theorem adopt {pins:List (Addr×Obj)}{σ:St}{H:Hp}{s:Shared}{a:Addr}{o:HO}(I:Inv X pins σ H s)(hf:gR X pins H a)(hy:X.s₀.heap.objs.size<=a)(new:cJ X.prog X.w (upd H a o) s.heap a o):Inv X pins σ (upd H a o) s:=by
 have ne:∀{b:Addr} {u:HO},H b=some u->b≠a:=λe=>bY e hf.1
 have ne0:∀{b:Addr} {u:Obj},X.s₀.heap.get? b=some u->b≠a:=λe z=>absurd (Nat.lt_of_lt_of_le (Heap.lt_size e) hy) (by rw [z];exact Nat.lt_irrefl _)
 refine ⟨I.ok,I.os,I.bare,⟨I.base.keep,I.base.slot,λb u e n hx=>by rw [aw (ne0 e)];exact I.base.free b u e n hx,I.base.there,λb xs e=>?_,λb u v e=>?_,λb ps e=>?_⟩,I.loc,I.cell,?_,λx c e=>?_,λp hp=>?_,λb u e=>?_,I.len⟩
 ·have q:=I.base.tups b xs e;rw [aw (ne q)];exact q
 ·have q:=I.base.frzs b u v e;rw [aw (ne q)];exact q
 ·obtain ⟨m,q⟩:=I.base.tbls b ps e;exact ⟨m,by rw [aw (ne q)];exact q⟩
 ·rw [aw (Ne.symm hf.2.1)];exact I.free
 ·rw [aw (hf.2.2.2.2.1 x c e)];exact I.freeC x c e
 ·obtain ⟨e,n,r⟩:=I.pin p hp
  exact ⟨e,by rw [aw (hf.2.2.2.2.2 p hp)];exact n,r⟩
 ·by_cases hb:b=a
  ·subst hb;rw [av] at e;cases e;exact new
  ·rw [aw hb] at e
   exact (I.hok b u e).stay (λc v _ q=>q) (λc q=>by rw [aw (ne q)];exact q) λc xs q=>by rw [aw (ne q)];exact q
def EC (K:PySem.W.Frag)(a:Addr):It:=
 ⟨λi H=>∃xs x,aM K H a xs/\xs[i]?=some x,λi H v H'=>∃p x,H p=none/\v= .ref p/\H'=upd H p (.tup [.int i,x])/\∀xs,aM K H a xs->xs[i]?=some x,λi H=>∃xs,aM K H a xs/\xs.length<=i⟩
theorem uh {P:Program}{w:World}{K:PySem.W.Frag}{k:Nat}(a e it:Addr)(hei:e≠it):Turn P w K (.Tuple es k tp) (EC K a) [e,it] e (λi h=>(∃old,IsEnum h e it i old)/\h.IsListIter it a i) where
 mem:=by simp
 obj:=λi h st b hb=>by
  obtain ⟨⟨old,he⟩,o,ho,hc,hd⟩:=st
  rcases List.mem_cons.mp hb with rfl | hb
  ·exact ⟨_,he,λv z=>by cases z⟩
  ·have e2:b=it:=by simpa using hb
   subst e2
   exact ⟨o,ho,λv z=>by rw [hd] at z;cases z⟩
 keep:=λi h h' st kk=>⟨st.1.elim λold he=>⟨old,kk e (by simp) _ he⟩,st.2.at λo x=>kk it (by simp) o x⟩
 item:=by
  intro X hP hw hK hc i pins s σ H E I hf st hg
  subst hP hw hK
  obtain ⟨⟨old,he⟩,hit⟩:=st
  obtain ⟨xs,x,hq,hx⟩:=hg
  obtain ⟨its,r,pl,hz⟩:=I.list hq
  obtain ⟨u,hu,rx⟩:=r.get hx
  have hn:H s.heap.objs.size=none:=I.hok.fresh (Nat.le_refl _)
  refine wpAny_pyNext_enum_item he hit pl.isList (x:=u) (by simpa using hu) hei λh' ho hit' hT hsz hk=>?_
  refine ⟨_,rfl,?_⟩
  refine wpAny_letOwnedTupleGo_enum (s:={s with heap:=h',toks:=s.toks + 1}) ho λh2 he2 hs2=>?_
  have hk2:∀b o,b∉[e,it]->s.heap.get? b=some o->h2.get? b=some o:=λb o hb q=>by
   have hbe:b≠e:=λz=>hb (by simp [z])
   exact hs2.extBut b o hbe (hk b o hbe (λz=>hb (by simp [z])) q)
  have I1:Inv X pins σ H {s with heap:=h2,toks:=s.toks + 1}:=gw I hk2 hf
  have hel:e≠s.heap.objs.size:=Nat.ne_of_lt (Heap.lt_size he)
  have hT2:h2.get? s.heap.objs.size=some {cls:=.type "tuple",data:=.seq #[.int i s.toks,u]}:=(hs2.2 _ (Ne.symm hel)).trans hT
  have I2:Inv X pins σ (upd H s.heap.objs.size (.tup [.int i,x])) {s with heap:=h2,toks:=s.toks + 1}:=
   adopt I1 (I.eR (Nat.le_refl _) hn) (I.sz) ⟨by show 2<=sizeLine;decide,[.int i s.toks,u],.cons ⟨_,rfl⟩ (.cons rx .nil),⟨_,hT2,rfl,_,rfl⟩⟩
  refine ⟨.ref s.heap.objs.size,_,I2,rfl,⟨s.heap.objs.size,x,hn,rfl,rfl,λys hy=>?_⟩,⟨⟨u,by simpa using he2⟩,hit'.at λo y=>(hs2.2 it (Ne.symm hei)).trans y⟩,λb hb=>?_⟩
  ·rw [I.fq hy hq];exact hx
  ·have hlt:b < s.heap.objs.size:=by
    rcases List.mem_cons.mp hb with rfl | hb
    ·exact Heap.lt_size he
    ·have e2:b=it:=by simpa using hb
     subst e2
     obtain ⟨o,ho,_⟩:=hit
     exact Heap.lt_size ho
   rw [aw (Nat.ne_of_lt hlt)]
   exact (hf b hb).1
 done:=by
  intro X hP hw hK hc i pins s σ H E I hf st hg
  subst hP hw hK
  obtain ⟨⟨old,he⟩,hit⟩:=st
  obtain ⟨xs,hq,hx⟩:=hg
  obtain ⟨its,r,pl,hz⟩:=I.list hq
  refine wpAny_pyNext_enum_end (I.ok.hd hc) he hit pl.isList (by have:=r.length;simp;omega) λh' hk=>⟨rfl,?_⟩
  exact gw (t':=s.toks) I (λb o hb q=>hk b o (λz=>hb (by simp [z])) q) hf
 self:=λ_ _ _ _ _ st h=>st.1.elim λold he=>wpAny_pyIter_enum he h
def Df (K:PySem.W.Frag)(ta:TA):TI:=λσ H R=>ta σ H λvs H1=>∃a xs,vs=[.ref a]/\aM K H1 a xs/\R (EC K a) H1
theorem y6 {a:Expr}{ta:TA}{p pos:Pos}{k:Nat}(hg:Gl X "enumerate")(hm:X.mg "enumerate"=none)(ha:PA X [a] ta)(hs:starEach [a] X.env=[(false,eval a X.env)]:=by rfl):PI X (.Tuple es k tp) (.Call (.Name "enumerate" p) [a] [] pos) (Df X.K ta):=by
 intro pins s σ H R I h
 refine Call_ (eW I hg hm boot_enumerate (PyProof.Rows.callWith_type1 (aF (ha pos pins s σ H _ I h) λus s1 ⟨vs,H1,I1,r1,q1⟩=>?_) hs rfl))
 obtain ⟨l,xs,e,hq,q⟩:=q1
 subst e
 cases r1 with
 | cons r rr=>
   cases rr
   cases r
   obtain ⟨its,r',pl,hz⟩:=I1.list hq
   refine call_enumerate_list pl.isList λh' he hit hsz hk=>?_
   refine wpAny_pyIter_enum he ?_
   have I2:Inv X pins σ H1 {s1 with heap:=h'}:=I1.kept (t':=s1.toks) hk
   have f0:H1 s1.heap.objs.size=none:=I1.hok.fresh (Nat.le_refl _)
   have f1:H1 (s1.heap.objs.size + 1)=none:=I1.hok.fresh (Nat.le_succ _)
   refine ⟨s1.heap.objs.size + 1,[s1.heap.objs.size + 1,s1.heap.objs.size],_,_,H1,rfl,I2,uh l (s1.heap.objs.size + 1) s1.heap.objs.size (Nat.ne_of_gt (Nat.lt_succ_self _)),⟨⟨.none,he⟩,hit⟩,λb hb=>?_,q⟩
   rcases List.mem_cons.mp hb with rfl | hb
   ·exact I1.eR (Nat.le_succ _) f1
   ·have e2:b=s1.heap.objs.size:=by simpa using hb
    subst e2
    exact I1.eR (Nat.le_refl _) f0
def nums (xs:List α):List (Int×α):=(xs.zipIdx).map λp=>((p.2:Int),p.1)
theorem cI (xs:List α):(nums xs).length=xs.length:=by unfold nums;rw [List.length_map,List.length_zipIdx]
theorem eM {xs:List α}{i:Nat}{y:Int×α}(h:(nums xs)[i]?=some y):y.1=(i:Int)/\xs[i]?=some y.2:=by
 unfold nums at h
 rw [List.getElem?_map,List.getElem?_zipIdx] at h
 cases e:xs[i]? with
 | none=>rw [e] at h;cases h
 | some x=>rw [e] at h;cases h;exact ⟨by simp,rfl⟩
theorem gA {a:Expr}{p pos:Pos}{k:Nat}{r:Rep α}{xs:List α}(hm:X.mg "enumerate"=none)(ha:EV X a Γ (ae r) xs Γ1)(hs:starEach [a] X.env=[(false,eval a X.env)]:=by rfl)(hg:Gl X "enumerate":=by rfl):
 IV X (.Tuple es k tp) (.Call (.Name "enumerate" p) [a] [] pos) Γ (fD ab r) (nums xs) Γ1:=by
 refine ⟨_,y6 hg hm (aR aJ bt hs) hs,λσ H0 R0 H R E Rq q=>ha σ H0 R0 H R E _ λv H1 R1 E1 s1 e1=>?_⟩
 obtain ⟨a,vs,rfl,hp,pp,z⟩:=e1
 refine ⟨a,vs,rfl,aM.of (E1.sub _ _ hp),q _ H1 R1 E1 s1 (by rw [cI];exact z) λH' R' sR sH i=>⟨λy hy=>?_,λhi=>?_⟩⟩
 ·have hq:aM X.K H' a vs:=aM.of (sH _ _ (sR _ _ hp))
  obtain ⟨e1,e2⟩:=eM hy
  obtain ⟨v,hv,hr⟩:=cT pp e2
  refine ⟨⟨vs,v,hq,hv⟩,λv' H2 hyl=>?_⟩
  obtain ⟨p,x,hpn,rfl,rfl,hy⟩:=hyl
  have:=hy vs hq
  rw [hv] at this
  cases this
  have s2:ak R' (upd R' p (.tup [.int i,v])):=ak.fresh (sH.free hpn) _
  exact ⟨upd R' p (.tup [.int i,v]),Ext.fresh sH hpn _,p,_,_,rfl,av,by rw [e1];rfl,r.mono s2 (r.mono sR hr)⟩
 ·exact ⟨vs,aM.of (sH _ _ (sR _ _ hp)),by rw [pp.length,← cI xs];exact hi⟩
theorem lN:dX X (.type "range") (λxs H Q=>∃n:Int,xs=[.int n]/\∀p,H p=none->Q (.ref p) (upd H p (.rng 0 n))):=by
 intro pins s σ H xs us Q I r h
 obtain ⟨n,rfl,q⟩:=h
 obtain ⟨u,rfl,t,rfl⟩:=vals1 r
 refine call_range_1 ?_
 exact ⟨.ref s.heap.objs.size,_,I.laid (o:=.rng 0 n) (λb o e=>Heap.get?_push_of_some _ e) (Nat.le_refl _) ⟨_,_,_,Heap.get?_push_size _ rfl⟩,rfl,q _ (I.hok.fresh (Nat.le_refl _))⟩
theorem lU:dX X (.type "range") (λxs H Q=>∃m n:Int,xs=[.int m,.int n]/\∀p,H p=none->Q (.ref p) (upd H p (.rng m n))):=by
 intro pins s σ H xs us Q I r h
 obtain ⟨m,n,rfl,q⟩:=h
 obtain ⟨u,u2,rfl,⟨t,rfl⟩,⟨t2,rfl⟩⟩:=vals2 r
 refine call_range_2 ?_
 exact ⟨.ref s.heap.objs.size,_,I.laid (o:=.rng m n) (λb o e=>Heap.get?_push_of_some _ e) (Nat.le_refl _) ⟨_,_,_,Heap.get?_push_size _ rfl⟩,rfl,q _ (I.hok.fresh (Nat.le_refl _))⟩
theorem ju (hc:X.calm=true):dX X (.type "list") (λxs H Q=>∃(p:Addr) (m n:Int),xs=[.ref p]/\H p=some (.rng m n)/\ -1000000<=m/\m<=1000000/\ -1000000<=n/\n<=1000000/\∀d,H d=none->Q (.ref d) (upd H d (.lst ((ups m (n - m).toNat).map V.int)))):=by
 intro pins s σ H xs us Q I r h
 obtain ⟨p,m,n,rfl,hp,m1,m2,n1,n2,q⟩:=h
 obtain ⟨u,rfl,rx⟩:=vals1 r
 cases rx
 obtain ⟨t,t2,t3,ho⟩:=I.hok p _ hp
 have hsz:Builtin.Range.rangeSize m n 1=(((n - m).toNat:Nat):Int):=by rw [rangeSize_one];split<;>omega
 refine call_list_range (I.ok.hd hc) ho (small_one (by omega) (by omega) (by omega) (by omega)) hsz (by omega) λh' tk acc c' hk hS hacc=>?_
 have vals:Vals ((ups m (n - m).toNat).map V.int) acc.toList:=by
  have key:∀(k:Nat) (its:List Value) (lo:Int),its.length=k->(∀(j:Nat) v,its[j]?=some v->∃t,v= .int (lo + (j:Int) * 1) t)->Vals ((ups lo k).map V.int) its:=by
   intro k
   induction k with
   | zero=>intro its lo hl _;cases its with
     | nil=>exact .nil
     | cons _ _=>cases hl
   | succ k ih=>
     intro its lo hl hv
     cases its with
     | nil=>cases hl
     | cons v r=>
       have e:ups lo (k + 1)=lo::ups (lo + 1) k:=by
        unfold ups
        rw [List.range_succ_eq_map,List.map_cons,List.map_map]
        congr 1
        ·simp
        ·apply List.map_congr_left;intro a _;simp;omega
       rw [e,List.map_cons]
       obtain ⟨t,e0⟩:=hv 0 v rfl
       refine .cons ⟨t,by rw [e0];simp⟩ (ih r (lo + 1) (by simpa using hl) λj v hj=>?_)
       obtain ⟨t,ej⟩:=hv (j + 1) v (by simpa using hj)
       exact ⟨t,by rw [ej];congr 1;push_cast;omega⟩
  refine key _ _ m (by rw [Array.length_toList];exact hacc.1) λj v hj=>hacc.2 j v (by simpa using hj)
 exact ⟨.ref _,_,I.laid (a:=s.heap.objs.size) (o:=.lst ((ups m (n - m).toNat).map V.int)) hk (Nat.le_refl _) ⟨by rw [List.length_map,bE];exact Nat.le_trans (show (n - m).toNat<=2000000 by omega) (by decide),acc.toList,c',vals,by rw [hS]⟩,rfl,q _ (I.hok.fresh (Nat.le_refl _))⟩
end
def lT (scope:Scope)(env:Env):List (Str×Addr):=(scope.names.filterMap λp=>if p.2== .free then (env.cells.lookup p.1).map (λc=>(p.1,c)) else none).reverse
theorem lH {env:Env}:∀(names:List (Str×NameKind)) (acc:List (Str×Addr)),(∀y∈names,y.2= .free->∃c,env.cells.lookup y.1=some c)->
 (forIn names acc λ(x:Str×NameKind) (r:List (Str×Addr))=>if (x.2==NameKind.free)=true then do let a ← cellOf env x.1;pure (ForInStep.yield ((x.1,a)::r)) else pure (ForInStep.yield r):Sem (List (Str×Addr)))
  =pure ((names.filterMap λp=>if p.2== .free then (env.cells.lookup p.1).map (λc=>(p.1,c)) else none).reverse++acc)
 | [],acc,_=>rfl
 | (n,k)::r,acc,h=>by
   have ih:=lH (env:=env) r
   rw [List.forIn_cons,List.filterMap_cons]
   cases hk:(k==NameKind.free) with
   | false=>
     simp only [hk,Bool.false_eq_true,if_false]
     rw [pure_bind]
     exact ih acc λy hy=>h y (List.mem_cons_of_mem _ hy)
   | true=>
     obtain ⟨c,hc⟩:=h (n,k) List.mem_cons_self (eq_of_beq hk)
     have hcell:cellOf env n=pure c:=by unfold cellOf;rw [hc]
     simp only [hk,if_true,hc,Option.map_some,hcell]
     rw [pure_bind,pure_bind]
     show forIn r ((n,c)::acc) _=_
     rw [ih ((n,c)::acc) λy hy=>h y (List.mem_cons_of_mem _ hy)]
     simp
theorem sj {X:Cx}{scope:Scope}{own fr:List Str}{ix:List Nat}(hk:scope.kind= .function)(hn:∀y∈scope.names,y.2≠ .cell)(hl:∀y∈scope.names,y.2= .local->scope.names.lookup y.1=some .local)
 (hc:∀x,X.env.scope.names.lookup x=some .cell->∃c,X.env.cells.lookup x=some c) (hf:∀y∈scope.names,y.2= .free->X.env.scope.names.lookup y.1=some .cell)
 (hfr:∀x∈fr,scope.names.lookup x=some .free) (hlen:fr.length=ix.length) (hat:∀(k i:Nat) (x:Str),ix[k]?=some i->fr[k]?=some x->X.N[i]?=some x):dN X scope (lT scope X.env) own fr ix:=by
 have free:∀y∈scope.names,y.2= .free->∃c,X.env.cells.lookup y.1=some c:=λy hy e=>hc _ (hf y hy e)
 refine ⟨?_,λx c e=>?_,hk,hn,hl,λx e=>?_,hfr,hlen,λk i x e1 e2=>⟨hat k i x e1 e2,hf (x,.free) (PySem.mem_of_lookup (hfr x (List.mem_of_getElem? e2))) rfl⟩⟩
 ·have:=lH (env:=X.env) scope.names [] free
  rw [List.append_nil] at this
  have e:closureFor scope X.env=((forIn scope.names [] λ(x:Str×NameKind) (r:List (Str×Addr))=>if (x.2==NameKind.free)=true then do let a ← cellOf X.env x.1;pure (ForInStep.yield ((x.1,a)::r)) else pure (ForInStep.yield r):Sem (List (Str×Addr))) >>=λcs=>pure cs):=rfl
  rw [e,this,pure_bind]
  rfl
 ·have m:=PySem.mem_of_lookup e
  unfold lT at m
  obtain ⟨p,_,hp⟩:=List.mem_filterMap.mp (List.mem_reverse.mp m)
  split at hp
  ·cases q:X.env.cells.lookup p.1 with
   | none=>rw [q] at hp;cases hp
   | some c'=>rw [q] at hp;cases hp;exact q
  ·cases hp
 ·have m:=PySem.mem_of_lookup e
  obtain ⟨c,hcc⟩:=free _ m rfl
  have m2:(x,c)∈lT scope X.env:=by
   unfold lT
   refine List.mem_reverse.mpr (List.mem_filterMap.mpr ⟨(x,.free),m,?_⟩)
   simp [hcc]
  cases q:(lT scope X.env).lookup x with
  | some c'=>exact ⟨c',rfl⟩
  | none=>
    rw [List.lookup_eq_none_iff] at q
    exact absurd (q _ m2) (by simp)
def tW (scope so:Scope)(N0 fr:List Str)(ix:List Nat):Bool:=
 decide (scope.kind= .function)&&scope.names.all (λy=>decide (y.2≠ .cell)&&(decide (y.2≠ .local) ||decide (scope.names.lookup y.1=some .local))&&(decide (y.2≠ .free) ||decide (so.names.lookup y.1=some .cell)))
  &&fr.all (λx=>decide (scope.names.lookup x=some .free))&&decide (fr.length=ix.length)&&(List.range ix.length).all λk=>match ix[k]?,fr[k]? with | some i,some x=>decide (N0[i]?=some x) | _,_=>true
theorem cu {X:Cx}{scope so:Scope}{N0 own fr:List Str}{ix:List Nat}(hso:X.env.scope=so)(hN0:X.N=N0)(hc:∀x,X.env.scope.names.lookup x=some .cell->∃c,X.env.cells.lookup x=some c)(h:tW scope so N0 fr ix=true):dN X scope (lT scope X.env) own fr ix:=by
 unfold tW at h
 simp only [Bool.and_eq_true,Bool.or_eq_true,decide_eq_true_eq,List.all_eq_true] at h
 obtain ⟨⟨⟨⟨h1,h2⟩,h3⟩,h4⟩,h5⟩:=h
 refine sj h1 (λy hy=>(h2 y hy).1.1) (λy hy e=>(h2 y hy).1.2.resolve_left λz=>z e) hc (λy hy e=>by rw [hso];exact (h2 y hy).2.resolve_left λz=>z e) h3 h4 λk i x e1 e2=>?_
 have hk:k < ix.length:=(List.getElem?_eq_some_iff.mp e1).1
 have:=h5 k (List.mem_range.mpr hk)
 rw [e1,e2] at this
 rw [hN0]
 simpa using this
section
variable {X:Cx}{Γ Γ1 Γ2 Γ3:Ga}{α β γ δ:Type}{N:Ga->Prop}{T:RT}
theorem qB (i:Nat){S:cX}{x y:Str}{k:Nat}{e:Expr}{es:List Expr}{p p1 p2 pos:Pos}{ps:List Pk}{r:Rep α}{Pd:α->Prop}(C:aG X.prog X.w X.K X.mg X.base x k (aP S X.K))(hr:bA k X.A)(ha:HA X (e::es) Γ ps Γ1)(hS:S X.K ps (cF X.K r Pd))(h:∀z,Pd z->N (Γ1.set i (.im r z)))
 (hg:Gl X x:=by rfl) (hdb:(x==("__debug__":Str))=false:=by decide) (he:starEach (e::es) X.env=(false,eval e X.env)::starEach es X.env:=by rfl) (hpl:(backTo p2 (starEach es X.env)).any (·.1)=false:=by rfl)
 (hN:X.N.Nodup:=by first | assumption | decide) (hi:X.N[i]?=some y:=by rfl) (hx:Loc X.env.scope y:=by first | exact Or.inl rfl | exact Or.inr rfl)
 (hs:swapsWith (.Call (.Name x p) (e::es) [] p2) (some (.Name y p1)) pos.line X.env=pure false:=by rfl) (hf:X.fn y=true∨X.env.scope.names.lookup y=some .local:=by first | exact .inl rfl | exact .inr rfl):
 W1 X (.Assign [.Name y p1] (.Call (.Name x p) (e::es) [] p2) pos) Γ N T:=λσ H0 R0 H R E D dn dr=>
 sS (iL hN hi hx aJ hs hf) (oQ C hr ha hS E (λH1 R1 v H' R' E1 s1 xx t=>by
  obtain ⟨z,e1,hz⟩:=t
  exact dn _ H' R' _ ((E1.grow xx).set i e1) (s1.trans xx.r) (h z hz)) hg hdb he hpl)
end
section
variable {X:Cx}{Γ Γ1 Γ2 Γ3:Ga}{α β γ δ:Type}{N:Ga->Prop}{T:RT}
theorem xW:cS X (binaryOp .Mult) (rI IntMulOk λi j=>.int (i * j)):=qu λ_ _ _ _ _ _ _ hc q=>mul_int q hc
theorem iA {a b:Expr}{pos:Pos}{x y:Int}(ha:EV X a Γ ab x Γ1)(hb:EV X b Γ1 ab y Γ2)(h:IntMulOk x y):EV X (.BinOp a .Mult b pos) Γ ab (x * y) Γ2:=gj xW ha hb λR v u H Q e1 e2 q=>⟨x,y,e1,e2,h,q _ rfl⟩
def bQ (a:Addr)(r:Rep α)(xs:List α):qi where
 fp:=[a]
 R:=λK H R v=>v= .ref a/\∃vs,H a=some (.lst vs)/\PySem.Paired (r.R K R) vs xs
 loc:=λhH hR ⟨e,vs,h,p⟩=>⟨e,vs,(hH a (List.mem_singleton.mpr rfl)).trans h,Paired.map (λ_ _=>r.mono hR) p⟩
 has:=λ⟨e,vs,h,p⟩ b hb=>by rw [List.mem_singleton.mp hb,h];exact Option.some_ne_none _
theorem mh {K:PySem.W.Frag}{H R:Hp}{a:Addr}{r:Rep α}{xs:List α}{vs:List V}(h:H a=some (.lst vs))(hR:R a=none)(p:PySem.Paired (r.R K R) vs xs):(Ent.ob (bQ a r xs)).ok K H R (some (.ref a)):=
 ⟨⟨_,rfl,rfl,vs,h,p⟩,λb hb=>by rw [List.mem_singleton.mp hb];exact hR⟩
theorem fz {K:PySem.W.Frag}{H R:Hp}{a:Addr}{r:Rep α}{xs:List α}{o:Option V}(h:(Ent.ob (bQ a r xs)).ok K H R o):o=some (.ref a)/\(∃vs,H a=some (.lst vs)/\PySem.Paired (r.R K R) vs xs)/\R a=none:=by
 obtain ⟨⟨v,rfl,rfl,q⟩,n⟩:=h
 exact ⟨rfl,q,n a (List.mem_singleton.mpr rfl)⟩
theorem EV.box (i:Nat){e:Expr}{a:Addr}{r:Rep α}{xs xs':List α}{rr:Rep β}{y:β}(h:EV X e (Γ.set i (.mu r xs)) rr y Γ1)(hΓ:Γ[i]?=some (.ob (bQ a r xs)))(hΓ1:Γ1[i]?=some (.mu r xs')):EV X e Γ rr y (Γ1.set i (.ob (bQ a r xs'))):=by
 intro σ H0 R0 H R E Q q
 obtain ⟨ea,⟨vs,ha,pp⟩,hR⟩:=fz (E.ent i _ hΓ)
 refine h σ H0 R0 H R (E.tell hΓ (by rw [ea];exact ⟨a,vs,rfl,ha,hR,pp⟩) λb w=>by rw [bR.mp w] at ea;cases ea;exact List.mem_singleton.mpr rfl) Q λv H' R' E' s' hr=>q v H' R' ?_ s' hr
 obtain ⟨a',vs',ea',ha',hR',pp'⟩:=E'.ent i _ hΓ1
 rw [ea] at ea';cases ea'
 exact E'.tell hΓ1 (by rw [ea];exact mh ha' hR' pp') λb w=>by rw [show b=a from List.mem_singleton.mp w];exact bR.mpr ea
theorem dO (j:Nat){x:Str}{p1:Pos}{b:Expr}{pos:Pos}{a:Addr}{r:Rep α}{xs:List α}{i:Int}{y:α}(hb:EV X b Γ ab i Γ)(hΓ:Γ[j]?=some (.ob (bQ a r xs)))(h:cb xs i=some y)(hN:X.N[j]?=some x:=by rfl)(hv:cy X.env.scope x:=by first | exact Or.inl rfl | exact Or.inr (Or.inl rfl) | exact Or.inr (Or.inr rfl))
 (hs:dY b:=by exact λ_ _=>rfl) (hd:(x==("__debug__":Str))=false:=by decide) (hcd:(x==("__classdict__":Str))=false:=by decide):EV X (.Subscript (.Name x p1) b pos) Γ r y Γ:=by
 intro σ H0 R0 H R E Q q
 obtain ⟨ea,⟨vs,ha,pp⟩,hR⟩:=fz (E.ent j _ hΓ)
 refine eS (hJ gB (bc hN hv hd hcd) aJ hs) ⟨.ref a,at_of ea,hb σ H0 R0 H R E _ λu H2 R2 E2 s2 e2=>?_⟩
 obtain ⟨ea',⟨vs',ha',pp'⟩,hR'⟩:=fz (E2.ent j _ hΓ)
 obtain ⟨w,e3,e4⟩:=eU pp' h
 exact ⟨a,vs',i,w,rfl,e2,aM.of ha',e3,q w H2 R2 E2 s2 e4⟩
theorem fu (i:Nat){x:Str}{b e:Expr}{p1 p2 pos:Pos}{a:Addr}{r:Rep α}{xs:List α}{y:α}{k:Int}{j:Nat}(he:EV X e Γ r y Γ1)(hb:EV X b Γ1 ab k Γ2)(hΓ1:Γ1[i]?=some (.ob (bQ a r xs)))(hΓ2:Γ2[i]?=some (.ob (bQ a r xs)))(hj:eJ xs.length k=some j)(h:N (Γ2.set i (.ob (bQ a r (xs.set j y)))))
 (hN:X.N[i]?=some x:=by rfl) (hv:cy X.env.scope x:=by first | exact Or.inl rfl | exact Or.inr (Or.inl rfl) | exact Or.inr (Or.inr rfl))
 (hd:(x==("__debug__":Str))=false:=by decide) (hcd:(x==("__classdict__":Str))=false:=by decide)
 (ha:∀v,assign (.Subscript (.Name x p1) b p2) X.env v=(do
  let ov ← holding [v] (eval (.Name x p1) X.env)
  let iv ← holding [v,ov] (eval b X.env)
  standAt p2
  holding [v,ov,iv] (setItem ov iv v)
  release [v,ov,iv] []):=by intro _;rfl)
 (hs:swapsWithSole [.Subscript (.Name x p1) b p2] e pos.line X.env=pure false:=by rfl) (hw:swappedStores [.Subscript (.Name x p1) b p2] e X.env=pure none:=by rfl) (h1:(assignEach [.Subscript (.Name x p1) b p2] X.env).map (·.2)=[assign (.Subscript (.Name x p1) b p2) X.env]:=by rfl):
 W1 X (.Assign [.Subscript (.Name x p1) b p2] e pos) Γ N T:=λσ H0 R0 H R E D dn dr=>by
 refine sS (ot aJ (tR (bc hN hv hd hcd) aJ set_list ha) hs hw h1) (he σ H0 R0 H R E _ λv H1 R1 E1 s1 e1=>?_)
 obtain ⟨ea,⟨vs,hp,pp⟩,hR⟩:=fz (E1.ent i _ hΓ1)
 refine ⟨.ref a,at_of ea,hb σ H0 R0 H1 R1 E1 _ λu H2 R2 E2 s2 e2=>?_⟩
 obtain ⟨ea',⟨vs',ha',pp'⟩,hR'⟩:=fz (E2.ent i _ hΓ2)
 refine ⟨a,vs',k,j,rfl,e2,ha',by rw [pp'.length];exact hj,?_⟩
 exact dn σ _ R2 _ (E2.me (en:=.ob (bQ a r (xs.set j y))) hΓ2 (List.mem_singleton.mpr rfl) (by rw [ea'];exact mh av hR' (je (r.mono s2 e1) j pp')) λb w=>.inl w) (s1.trans s2) h
def del (H:Hp)(a:Addr):Hp:=λb=>if b=a then none else H b
theorem oS {H:Hp}{a:Addr}:del H a a=none:=if_pos rfl
theorem jG {H:Hp}{a b:Addr}(h:b≠a):del H a b=H b:=if_neg h
theorem xZ {H:Hp}{a:Addr}:ak (del H a) H:=λb o q=>by
 by_cases h:b=a
 ·subst h;rw [oS] at q;cases q
 ·rwa [jG h] at q
theorem ao.xJ {K:PySem.W.Frag}{σ:St}{H0 R0 H R H' R':Hp}(E:ao K σ H0 R0 H R Γ){a:Addr}(off:Off a σ Γ)(h0:H0 a=none)(x:Ext (del H a) R H' R'):ao K σ H0 R0 H' R' Γ:=by
 have ne:∀{b:Addr},H0 b≠none->b≠a:=λh e=>h (e▸h0)
 refine ⟨⟨λb o q=>?_,E.ext.r.trans x.r,x.s,λb hb=>?_⟩,λi e q=>?_,E.nw,E.ds,E.len⟩
 ·exact x.h b o (by rw [jG (ne (by rw [q];exact Option.some_ne_none _))];exact E.ext.h b o q)
 ·refine (x.old b ?_).trans (E.ext.old b hb)
  rw [jG (ne hb)];exact ak.some E.ext.h hb
 ·have h1:=E.ent i e q
  have na:∀b∈e.fp (σ[i]?).join,b≠a:=λb hb z=>off i e q (z▸hb)
  refine h1.loc (λb hb=>?_) x.r λb hb=>?_
  ·cases e2:H b with
   | none=>exact absurd e2 (Ent.fI h1 hb).1
   | some u=>exact x.h b u (by rw [jG (na b hb)];exact e2)
  ·exact (x.old b (by rw [jG (na b hb)];exact (Ent.fI h1 hb).1)).trans (Ent.fI h1 hb).2
theorem ao.lg {K:PySem.W.Frag}{σ:St}{H0 R0 H R:Hp}(E:ao K σ H0 R0 H R Γ){i:Nat}{e0 en:Ent}(hi:Γ[i]?=some e0)(ho:en.ok K H R (σ[i]?).join)(hsub:∀b∈en.fp (σ[i]?).join,H0 b=none/\∀(j:Nat) (e:Ent),j≠i->Γ[j]?=some e->b∉e.fp (σ[j]?).join):ao K σ H0 R0 H R (Γ.set i en):=by
 refine ⟨E.ext,λj e q=>?_,λj e b q w=>?_,λj k e e' b q q' w w'=>?_,by rw [List.length_set];exact E.len⟩
 ·rcases set_at q with ⟨rfl,rfl,_⟩ | ⟨hj,q1⟩
  ·exact ho
  ·exact E.ent j e q1
 ·rcases set_at q with ⟨rfl,rfl,_⟩ | ⟨hj,q1⟩
  ·exact (hsub b w).1
  ·exact E.nw j e b q1 w
 ·rcases set_at q with ⟨rfl,rfl,_⟩ | ⟨hj,q1⟩
  ·rcases set_at q' with ⟨rfl,rfl,_⟩ | ⟨hk,q1'⟩
   ·rfl
   ·exact absurd w' ((hsub b w).2 k e' hk q1')
  ·rcases set_at q' with ⟨rfl,rfl,_⟩ | ⟨hk,q1'⟩
   ·exact absurd w ((hsub b w').2 j e hj q1)
   ·exact E.ds _ _ _ _ b q1 q1' w w'
abbrev jC (α:Type):=PySem.W.Frag->List α->List Pk->(List α->RT)->Prop
def d6 (r:Rep α)(S:jC α)(K:PySem.W.Frag):Sp:=λvs H Q _=>∃R a ws xs vs' ps T,vs= .ref a::vs'/\ak R H/\R a=none/\H a=some (.lst ws)/\PySem.Paired (r.R K R) ws xs/\hU K R vs' ps/\S K xs ps T/\
 ∀v H' R' ws' xs',Ext (del H a) R H' R'->H' a=some (.lst ws')->R' a=none->PySem.Paired (r.R K R') ws' xs'->T xs' (del H a) v H' R'->Q v H'
theorem tQ {r:Rep α}{S:jC α}{x y:Str}{k:Nat}{es:List Expr}{p p1 pos:Pos}{ps:List Pk}{xs:List α}{TM:List α->RT}{Q:VK}{σ:St}{H0 R0 H R:Hp}(i:Nat)(C:aG X.prog X.w X.K X.mg X.base x k (d6 r S X.K))(hr:bA k X.A)(ha:HA X es Γ ps Γ1)(hΓ:Γ[i]?=some (.mu r xs))(hΓ1:Γ1[i]?=some (.mu r xs))(hS:S X.K xs ps TM)(E:ao X.K σ H0 R0 H R Γ)
 (q:∀H1 v H' R' xs',ao X.K σ H0 R0 H' R' (Γ1.set i (.mu r xs'))->ak R R'->TM xs' H1 v H' R'->Q v H')
 (hg:Gl X x) (hdb:(x==("__debug__":Str))=false) (he:starEach (.Name y p1::es) X.env=(false,eval (.Name y p1) X.env)::starEach es X.env) (hpl:(backTo pos (starEach es X.env)).any (·.1)=false)
 (hN:X.N[i]?=some y) (hv:cy X.env.scope y) (hd:(y==("__debug__":Str))=false) (hcd:(y==("__classdict__":Str))=false):eP X (.Call (.Name x p) (.Name y p1::es) [] pos) σ H Q:=by
 obtain ⟨f,fd,pn,F,hm,hk,hb⟩:=C.ex
 obtain ⟨a,vs,ea,_,_,_⟩:=E.ent i _ hΓ
 refine eS (lM F hr hg hm hk hb .nil nv (aR (bc hN hv hd hcd) jm he) hdb he hpl) ⟨.ref a,at_of ea,ha σ H0 R0 H R E _ λus H1 R1 E1 s1 p1=>?_⟩
 obtain ⟨a',ws,ea',hp,hR,pp⟩:=E1.ent i _ hΓ1
 rw [ea] at ea';cases ea'
 have h0:H0 a=none:=E1.new i _ a hΓ1 rfl ea
 refine ⟨R1,a,ws,xs,us,ps,TM,by rw [List.append_nil],E1.sub,hR,hp,pp,p1,hS,λv H' R' ws' xs' xx h1 h2 pq t=>q _ v H' R' xs' ?_ (s1.trans xx.r) t⟩
 have apart:∀(j:Nat) (e:Ent),j≠i->Γ1[j]?=some e->a∉e.fp (σ[j]?).join:=λj e hj qj w=>hj (E1.ds j i e _ a qj hΓ1 w (bR.mpr ea))
 have E2:ao X.K σ H0 R0 H1 R1 (Γ1.set i .no):=E1.tell hΓ1 trivial λb w=>by cases w
 have E3:=E2.xJ (a:=a) (λj e qj w=>by
  rcases set_at qj with ⟨rfl,rfl,_⟩ | ⟨hj,q1⟩
  ·cases w
  ·exact apart j e hj q1 w) h0 xx
 have hl:i < Γ1.length:=(List.getElem?_eq_some_iff.mp hΓ1).1
 have E4:=E3.lg (i:=i) (e0:=.no) (en:=.mu r xs') (List.getElem?_set_self hl) (by rw [ea];exact ⟨a,ws',rfl,h1,h2,pq⟩) λb w=>by
  have eb:b=a:=by rw [bR.mp w] at ea;cases ea;rfl
  subst eb
  exact ⟨h0,λj e hj qj=>apart j e hj (by rwa [List.getElem?_set_ne (Ne.symm hj)] at qj)⟩
 rw [List.set_set] at E4
 exact E4
theorem gM (i:Nat){r:Rep α}{S:jC α}{x y:Str}{k:Nat}{es:List Expr}{p p1 pos:Pos}{ps:List Pk}{xs st:List α}{rr:Rep β}{z:β}(C:aG X.prog X.w X.K X.mg X.base x k (d6 r S X.K))(hr:bA k X.A)(ha:HA X es Γ ps Γ1)(hΓ:Γ[i]?=some (.mu r xs))(hΓ1:Γ1[i]?=some (.mu r xs))(hS:S X.K xs ps (λxs'=>cF X.K rr λw=>xs'=st/\w=z))
 (hg:Gl X x:=by rfl) (hdb:(x==("__debug__":Str))=false:=by decide) (he:starEach (.Name y p1::es) X.env=(false,eval (.Name y p1) X.env)::starEach es X.env:=by rfl) (hpl:(backTo pos (starEach es X.env)).any (·.1)=false:=by rfl)
 (hN:X.N[i]?=some y:=by rfl) (hv:cy X.env.scope y:=by first | exact Or.inl rfl | exact Or.inr (Or.inl rfl) | exact Or.inr (Or.inr rfl)) (hd:(y==("__debug__":Str))=false:=by decide) (hcd:(y==("__classdict__":Str))=false:=by decide):
 EV X (.Call (.Name x p) (.Name y p1::es) [] pos) Γ rr z (Γ1.set i (.mu r st)):=λσ H0 R0 H R E Q q=>
 tQ i C hr ha hΓ hΓ1 hS E (λH1 v H' R' xs' E' s' t=>by
  obtain ⟨w,e1,rfl,rfl⟩:=t
  exact q v H' R' E' s' e1) hg hdb he hpl hN hv hd hcd
theorem dj (i:Nat){r:Rep α}{S:jC α}{x y:Str}{k:Nat}{a:Addr}{es:List Expr}{p p1 pos:Pos}{ps:List Pk}{xs st:List α}{rr:Rep β}{z:β}(C:aG X.prog X.w X.K X.mg X.base x k (d6 r S X.K))(hr:bA k X.A)(ha:HA X es (Γ.set i (.mu r xs)) ps (Γ.set i (.mu r xs)))(hΓ:Γ[i]?=some (.ob (bQ a r xs)))(hS:S X.K xs ps (λxs'=>cF X.K rr λw=>xs'=st/\w=z))
 (hg:Gl X x:=by rfl) (hdb:(x==("__debug__":Str))=false:=by decide) (he:starEach (.Name y p1::es) X.env=(false,eval (.Name y p1) X.env)::starEach es X.env:=by rfl) (hpl:(backTo pos (starEach es X.env)).any (·.1)=false:=by rfl)
 (hN:X.N[i]?=some y:=by rfl) (hv:cy X.env.scope y:=by first | exact Or.inl rfl | exact Or.inr (Or.inl rfl) | exact Or.inr (Or.inr rfl)) (hd:(y==("__debug__":Str))=false:=by decide) (hcd:(y==("__classdict__":Str))=false:=by decide):
 EV X (.Call (.Name x p) (.Name y p1::es) [] pos) Γ rr z (Γ.set i (.ob (bQ a r st))):=by
 have hl:i < Γ.length:=(List.getElem?_eq_some_iff.mp hΓ).1
 have h:=EV.box i (xs':=st) (gM (p:=p) i C hr ha (List.getElem?_set_self hl) (List.getElem?_set_self hl) hS hg hdb he hpl hN hv hd hcd) hΓ (by rw [List.set_set];exact List.getElem?_set_self hl)
 rwa [List.set_set,List.set_set] at h
def Cd (K:PySem.W.Frag)(a:Addr)(r:Rep α)(T:List α->RT):RT:=λH0 v H' R'=>∃ws' xs',H' a=some (.lst ws')/\R' a=none/\PySem.Paired (r.R K R') ws' xs'/\T xs' H0 v H' R'
theorem fP (i:Nat){e:Expr}{pos:Pos}{a:Addr}{r:Rep α}{xs:List α}{rr:Rep β}{y:β}{P:List α->β->Prop}(he:EV X e Γ rr y Γ1)(hΓ1:Γ1[i]?=some (.ob (bQ a r xs)))(h:P xs y):W1 X (.Return (some e) pos) Γ N (Cd X.K a r λxs'=>cF X.K rr (P xs')):=λσ H0 R0 H R E D dn dr=>
 sS (jM aJ) (he σ H0 R0 H R E _ λv H1 R1 E1 s1 e1=>by
  obtain ⟨ea,⟨vs,ha,pp⟩,hR⟩:=fz (E1.ent i _ hΓ1)
  exact dr v H1 R1 E1.ext ⟨vs,xs,ha,hR,pp,y,e1,h⟩)
theorem r8 {K:PySem.W.Frag}{R H:Hp}{a:Addr}{r:Rep α}{ws:List V}{xs:List α}{vs:List V}{ps:List Pk}{N:List Str}(s:ak R H)(hR:R a=none)(ha:H a=some (.lst ws))(pp:PySem.Paired (r.R K R) ws xs)(p:hU K R vs ps)(hl:ps.length + 1<=N.length):
 ao K (L2.start N (.ref a::vs)) (del H a) R H R (.ob (bQ a r xs)::ee ps (N.length - 1)):=by
 obtain ⟨n0,N',rfl⟩:∃n0 N',N=n0::N':=by cases N with
  | nil=>exact absurd hl (by simp)
  | cons n N'=>exact ⟨n,N',rfl⟩
 have hl':ps.length<=N'.length:=by simpa using hl
 have E0:=fT (N:=N') s p hl'
 have es:L2.start (n0::N') (.ref a::vs)=some (.ref a)::L2.start N' vs:=by unfold L2.start;simp
 rw [es]
 have noown:∀(i:Nat) (e:Ent) (o:Option V),(ee ps N'.length)[i]?=some e->e.fp o=[]:=λi e o q=>by
  unfold ee at q
  rcases List.mem_append.mp (List.mem_of_getElem? q) with z | z
  ·obtain ⟨p,_,rfl⟩:=List.mem_map.mp z;rfl
  ·obtain ⟨_,rfl⟩:=List.mem_replicate.mp z;rfl
 refine ⟨⟨xZ,ak.refl _,s,λ_ _=>rfl⟩,λi e q=>?_,λi e b q w=>?_,λi j e e' b q q' w w'=>?_,?_⟩
 ·cases i with
  | zero=>simp at q;subst q;exact mh ha hR pp
  | succ i=>simp at q;simpa using E0.ent i e q
 ·cases i with
  | zero=>simp at q;subst q;rw [show b=a from List.mem_singleton.mp w];exact oS
  | succ i=>simp at q;rw [noown i e _ q] at w;cases w
 ·cases i with
  | succ i=>simp at q;rw [noown i e _ q] at w;cases w
  | zero=>
    cases j with
    | zero=>rfl
    | succ j=>simp at q';rw [noown j e' _ q'] at w';cases w'
 ·have:=E0.len
  simp [this]
variable {P:Program}{w:World}{K:PySem.W.Frag}{mg:Str->Option Value}{base:Heap}
theorem kQ {r:Rep α}{S:jC α}{x qual:Str}{st:Stmt}{f:Addr}{fd:FuncData}{N ps:List Str}{k:Nat}(F:bw K x qual st f fd)(Sc:aE N ps (ag st))(hm:mg x=some (.ref f))(hb:Binds K fd ps [])(len:∀xs qs T,S K xs qs T->qs.length + 1=ps.length)
 (hbody:∀(cdv:Value) (A:Around) (outer:List Env) (s:Shared) (H:Hp) (E:XK) (a:Addr) (xs:List α) (qs:List Pk) (T:List α->RT),bA k (A.deeper (envOfC qual (ag st) s.heap.objs.size f cdv))->S K xs qs T->
  WS (fc dI P w K mg base N qual (ag st) f cdv A outer s H E).jf (bM st) (.ob (bQ a r xs)::ee qs (N.length - 1)) (λ_=>False) (Cd K a r T)):aG P w K mg base x (k + 1) (d6 r S K):=by
 refine ⟨f,fd,ps,?_,hm,F.kp,hb⟩
 refine F.ok Sc (λvs H Q E h=>?_) (λcdv A outer s H vs Q E hr h=>?_)
 ·obtain ⟨R,a,ws,xs,vs',qs,T,rfl,_,_,_,_,p,hS,_⟩:=h
  rw [List.length_cons,p.length];exact len xs qs T hS
 ·obtain ⟨R,a,ws,xs,vs',qs,T,rfl,sR,hR,ha,pp,p,hS,q⟩:=h
  have hl:qs.length + 1<=N.length:=by
   rw [len xs qs T hS]
   have:=congrArg List.length Sc.pre
   rw [List.length_take] at this
   omega
  refine ⟨_,ie,hbody cdv A outer s H E a xs qs T hr hS (L2.start N (.ref a::vs')) (del H a) R H R (r8 sR hR ha pp p hl) {nx:=λ_ H'=>Q .non H',rt:=Q} (λ_ _ _ _ _ _ f=>f.elim) λv H' R' xx t=>?_⟩
  obtain ⟨ws',xs',h1,h2,h3,h4⟩:=t
  exact q v H' R' ws' xs' xx h1 h2 h3 h4
end
section
variable {α:Type}
def bJ (k:Nat)(y:α)(xs:List α):List α:=xs.take k++y::xs.drop k
theorem oT {k:Nat}{y:α}{xs:List α}:(bJ k y xs).length=xs.length + 1:=by
 unfold bJ;rw [List.length_append,List.length_cons,List.length_take,List.length_drop];omega
theorem tw {β:Type}(f:α->β){k:Nat}{y:α}{xs:List α}:(bJ k y xs).map f=bJ k (f y) (xs.map f):=by
 unfold bJ;rw [List.map_append,List.map_cons,List.map_take,List.map_drop]
end
section
variable {X:Cx}{Γ Γ1 Γ2 Γ3:Ga}{α β γ δ:Type}{N:Ga->Prop}{T:RT}
def xX:V->List V->Hp->VK->Prop:=λx vs H Q=>∃l xs i y,x= .ref l/\vs=[.int i,y]/\H l=some (.lst xs)/\0<=i/\i<=(xs.length:Int)/\xs.length < sizeLine/\Q .non (upd H l (.lst (bJ i.toNat y xs)))
theorem tG:xM X "list.insert" xX:=by
 intro pins s σ H x vs v us Q I rx rv h
 obtain ⟨l,xs,i,y,rfl,rfl,hH,h0,h1,hz,q⟩:=h
 cases rx
 obtain ⟨u1,u2,rfl,⟨t,rfl⟩,r2⟩:=vals2 rv
 obtain ⟨z,its,n,r,hl,e⟩:=I.jD hH
 have hfit:Builtin.List.listFitsIndex i=true:=fitsIndex_both (by omega) (by
  have:sizeLine < 2 ^ 63:=by decide
  omega)
 refine call_meets PySem.F.slot_list_insert ⟨_,e,rfl⟩ PySem.F.entry_list_insert (PySem.F.args_list_insert_3 _ _ _) (PySem.AutoSeq1.list_insert_list_int_val_1 l _ n i t u2 (by simp [hfit]) (by rw [List.size_toArray];omega)) ⟨e,?_⟩
 refine ⟨.non,_,I.su (its':=bJ i.toNat u2 its) hH e ?_ ?_ ?_,rfl,q⟩
 ·have hk:(if i < 0 then (i + ((its.toArray.size:Nat):Int)).toNat else min i.toNat its.toArray.size)=i.toNat:=by
   rw [if_neg (by omega),List.size_toArray];omega
  dsimp only
  rw [hk]
  unfold bJ
  apply Array.ext'
  simp
  exact List.take_of_length_le (by rw [List.length_drop];exact Nat.le_refl _)
 ·unfold bJ;exact (r.take _).append (.cons r2 (r.drop _))
 ·rw [oT];omega
def lX:Rep Addr:=⟨λ_ _ v a=>v= .ref a,λ_ h=>h⟩
def ny:Ent->Ent
 | .im r x=>.im r x
 | _=>.no
theorem ao.frz {K:PySem.W.Frag}{σ:St}{H0 R0 H R:Hp}(E:ao K σ H0 R0 H R Γ):ao K σ H H H H (Γ.map ny):=by
 have noown:∀(i:Nat) (e:Ent) (o:Option V),(Γ.map ny)[i]?=some e->e.fp o=[]:=λi e o q=>by
  rw [List.getElem?_map] at q
  cases h:Γ[i]? with
  | none=>rw [h] at q;cases q
  | some e'=>rw [h] at q;cases q;cases e'<;>rfl
 refine ⟨Ext.refl (ak.refl _),λi e q=>?_,λi e a q w=>absurd w (by rw [noown i e _ q];exact List.not_mem_nil),λi j e e' a q _ w=>absurd w (by rw [noown i e _ q];exact List.not_mem_nil),by rw [List.length_map];exact E.len⟩
 rw [List.getElem?_map] at q
 cases h:Γ[i]? with
 | none=>rw [h] at q;cases q
 | some e'=>
   rw [h] at q;cases q
   have:=E.ent i e' h
   cases e' with
   | im r x=>obtain ⟨v,e,hr⟩:=this;exact ⟨v,e,r.mono E.sub hr⟩
   | no=>trivial
   | mu r x=>trivial
   | di x=>trivial
   | ob x=>trivial
end
variable {P:Program}{w:World}{K:PySem.W.Frag}{mg:Str->Option Value}{base:Heap}
theorem Ag {S:cX}{x qual:Str}{st:Stmt}{f:Addr}{fd:FuncData}{N ps:List Str}{k:Nat}(F:bw K x qual st f fd)(Sc:aE N ps (ag st))(len:∀qs T,S K qs T->qs.length=ps.length)
 (hbody:∀(cdv:Value) (A:Around) (outer:List Env) (s:Shared) (H:Hp) (E:XK) (qs:List Pk) (T:RT),bA k (A.deeper (envOfC qual (ag st) s.heap.objs.size f cdv))->S K qs T->
  WS (fc dI P w K mg base N qual (ag st) f cdv A outer s H E).jf (bM st) (ee qs N.length) (λ_=>False) T):cV P w K mg base dI (k + 1) f fd ps (aP S K):=by
 refine F.ok Sc (λvs H Q E h=>?_) (λcdv A outer s H vs Q E hr h=>?_)
 ·obtain ⟨R,qs,T,_,p,hS,_⟩:=h
  rw [p.length];exact len qs T hS
 ·obtain ⟨R,qs,T,sR,p,hS,q⟩:=h
  have hl:qs.length<=N.length:=by
   rw [len qs T hS]
   have:=congrArg List.length Sc.pre
   rw [List.length_take] at this
   omega
  exact ⟨_,ie,hbody cdv A outer s H E qs T hr hS (L2.start N vs) H R H R (fT sR p hl) {nx:=λ_ H'=>Q .non H',rt:=Q} (λ_ _ _ _ _ _ f=>f.elim) λv H' R' xx t=>q v H' R' xx t⟩
def Def (K:PySem.W.Frag)(mg:Str->Option Value)(x:Str)(st:Stmt)(ps:List Str):Prop:=∃f fd,bw K x x st f fd/\mg x=some (.ref f)/\Binds K fd ps []
theorem a8 {h:Heap}{x:Str}{st:Stmt}{ps:List Str}{f:Addr}{oc:Value}{od an:Option Addr}{osl:Array (Option Value)}{kV doc pm cdv ct:Value}(KX:K.In h)(G:h.Ns mainGlobals mg)
 (a:PySem.W.nsIn K mainGlobals x=some (some (.ref f))) (l:K.lookup f=some ⟨oc,od,.func (PySem.W.fnOf x x (dC st) (bM st) (ag st) .none kV doc pm an cdv ct),osl⟩) (c:PySem.W.codeIn K cdv x=true) (k:PySem.W.keepIn K (.ref f)=true)
 (b:∀(kV doc pm:Value) (an:Option Addr) (cdv ct:Value) (us:List Value),us.length=ps.length->bindArgs (PySem.W.fnOf x x (dC st) (bM st) (ag st) .none kV doc pm an cdv ct) ⟨us,[]⟩=pure (ps.zip us)):Def K mg x st ps:=
 ⟨f,_,gT l c k,PySem.W.mg_of KX G a,(gT l c k).binds b⟩
open PySem.Builtin.Int (intBits)
theorem pT {ns:List Int}(h:PySem.W.WData.layableAll [.list (ns.map .int)]=true):∀n∈ns,intBits n<=2 ^ 20:=λn hn=>by
 have h1:=PySem.W.layableW_arg h _ (List.mem_singleton.mpr rfl)
 have h2:=PySem.W.layableW_item h1 (.int n) (List.mem_map.mpr ⟨n,hn,rfl⟩)
 exact PySem.PyData.bits_of_layable h2
end Fc
namespace Att
open PySem PySem.W PySem.Calls PyProof.Rows
open PySem.Builtin.Int (intBits)
theorem oH {l:OpenLaw}{n:Nat}{q:Program}{loose:List Str}{XP:(Str->Option Value)->Heap->Prop}{YP:World->Heap->Prop}{d:DefRec}
 (hn:l.most=some n) (hdf:d.params.defaults=[])
 (call:∀(w:World) (s₀ s₁:Shared) (mg mb:Str->Option Value) (fa:Addr) (o:Obj) (pm cd doc:Value) (a:Addr) (vs:List Value) (ns:List Int),
  Ground q loose [] XP w s₀ mg mb s₁.heap->YP w s₁.heap->
  s₁.heap.get? fa=some o->o.data= .func (docDef d.name d.params d.body d.scope pm cd doc)->s₁.heap.CodeRec cd d.name->mg d.name=some (.ref fa)->
  s₁.heap.get? a=some {cls:=.type "list",data:=.seq vs.toArray}->IntsAre vs ns->ns.length<=n->(∀m∈ns,intBits m<=2 ^ 20)->s₁.gens= #[]->
  codeAny (model l.prog w) callerA (.call (.ref fa) ⟨[.ref a],[]⟩) (λr s'=>r= .ok (.ret (.bool true))/\OldK s₁.heap s'.heap/\s'.os=s₁.os/\AllBare s'.gens) s₁):
 WalkO q loose XP YP l.row.toRowW d [] (λf vs=>PySem.call f vs):=by
 intro w s₀ s₁ mg mb G Y fa o pm cd doc dV kV ho hd hcd hD hmg hg args vals as hpre hlay hrd hwl hlo
 obtain rfl:dV= .none:=Dflts.none hD hdf
 obtain rfl:kV= .none:=Dflts.noKw hD
 obtain ⟨a,vs,ns,rfl,rfl,hobj,hints,hlen⟩:=tP hn hpre hwl
 refine enter_call (codeAny_mono (call w s₀ s₁ mg mb fa o pm cd doc a vs ns G Y ho (fd_plain hd) hcd hmg hobj hints hlen (Fc.pT hlay) hg) λr s' hq=>?_)
 obtain ⟨rfl,h2,h3,h4⟩:=hq
 exact ⟨.inl ⟨.bool true,.bool true,[],rfl,λ_=>rfl,.bool true,sT l _,λ_=>⟨List.Pairwise.nil,λ_ hm=>(nomatch hm)⟩⟩,h2,h3,h4⟩
end Att
namespace L2
open PySem PySem.Spec PyProof.Rows
open PySem.Builtin.Int (intBits)
theorem wm {l:PySem.W.OpenLaw}{n k:Nat}{q:Program}{loose:List Str}{XP:(Str->Option Value)->Heap->Prop}{YP:World->Heap->Prop}{d:DefRec}{K:Params->PySem.W.Frag}{CX:World->jk}{sp:World->Sp}{x:Str}
 (hn:l.most=some n) (hn2:n<=sizeLine) (hdf:d.params.defaults=[]) (hr:bA k callerA)
 (hY:∀(w:World) (h:Heap),YP w h->(K w.params).In h)
 (F:∀(w:World) (mg:Str->Option Value) (fa:Addr) (h:Heap),(K w.params).In h->h.Ns mainGlobals mg->mg d.name=some (.ref fa)->
  ∃fd:FuncData,(∀(s:Shared) (u:Value),BindsTo s fd ⟨[u],[]⟩ [(x,u)])/\
   ∀base:Heap,(K w.params).In base->base.Ns mainGlobals mg->cV l.prog w (K w.params) mg base (CX w) k fa fd [x] (sp w))
 (hsp:∀(w:World) (H:Hp) (a:Addr) (ns:List Int),ns.length<=n->(∀m∈ns,intBits m<=2 ^ 20)->v7 H->aM (K w.params) H a (ns.map V.int)->sp w [.ref a] H (λv _=>v= .bl true) λ_ _ _=>False)
 (hCX:∀(w:World) (H:Hp) (s:Shared) (e:Value) (s':Shared),CX w [] H s (λ_ _ _=>False) e s'->False):
 PySem.W.WalkO q loose XP YP l.row.toRowW d [] (λf vs=>PySem.call f vs):=by
 refine Att.oH hn hdf λw s₀ s₁ mg mb fa o pm cd doc a vs ns G Y ho hd hcd hmg hobj hints hlen hbits hg=>?_
 have KX:=hY w _ Y
 obtain ⟨fd,hb,hF⟩:=F w mg fa _ KX G.T.g hmg
 exact vJ KX G.T.g G.T.b G.T.builtins G.T.nolimit hg hobj hints (Nat.le_trans hlen hn2) hr hF hb (λH hO hS=>hsp w H a ns hlen hbits hO hS) λH e s'=>hCX w H s₁ e s'
end L2
namespace Fc
open PySem PySem.Spec L2
open PyProof.Rows hiding St
section
variable {X:Cx}{Γ Γ1:Ga}
end
section
variable {P:Program}{w:World}{K:PySem.W.Frag}{mg:Str->Option Value}{base:Heap}
end
section
variable {X:Cx}{pins:List (Addr×Obj)}{σ:St}{H:Hp}{s:Shared}{e:Addr}{o:Obj}
end
end Fc
namespace Fc
open PySem PySem.Spec PySem.W PySem.Calls PySem.Builtin.ObjectAttr PySem.Builtin.Getset_descriptor L2
open PyProof.Rows hiding St
section
variable {K:Frag}{D x:Addr}{prog:Program}{w:World}{A:Around}{E:Value->Shared->Prop}{s:Shared}
end
section
variable {X:Cx}{Γ Γ1:Ga}{ea D:Addr}{oe:Obj}
end
end Fc
namespace Fc
open PySem PySem.Spec L2
open PyProof.Rows hiding St
section
variable {X:Cx}{Γ Γ1:Ga}{H0 R0:Hp}
end
section
variable {P:Program}{w:World}{K:PySem.W.Frag}{mg:Str->Option Value}{base:Heap}{N:List Str}{qual:Str}{scope:Scope}{f:Addr}{cd:Value}{A:Around}{outer:List Env}{s:Shared}{H R:Hp}{E:XK}{Γ Γ1:Ga}
end
end Fc
namespace Fc
open PySem PySem.Spec PySem.W PySem.Calls L2
open PyProof.Rows hiding St
section
variable {X:Cx}{Γ Γ1:Ga}{ea D:Addr}{oe:Obj}{pins:List (Addr×Obj)}{σ:St}{H:Hp}{s:Shared}
end
def af:Rep Str:=⟨λ_ _ v x=>v= .str x,λ_ h=>h⟩
theorem ar {X:Cx}{Γ:Ga}{x:Str}{j:Nat}{pos:Pos}:EV X (.Constant (.str x) j pos) Γ af x Γ:=λ_ _ _ _ _ E _ q=>eS Bf (q _ _ _ E (ak.refl _) rfl)
end Fc
namespace Fc
open PySem PySem.Spec L2
open PyProof.Rows hiding St
inductive PV
 | non
 | bl (b:Bool)
 | int (i:Int)
 | str (x:Str)
 | tup (xs:List PV)
 | lst (xs:List PV)
mutual
inductive fR (H:Hp):V->PV->Prop
 | non:fR H .non .non
 | bl (b:Bool):fR H (.bl b) (.bl b)
 | int (i:Int):fR H (.int i) (.int i)
 | str (x:Str):fR H (.str x) (.str x)
 | tup {a:Addr} {vs:List V} {xs:List PV}:H a=some (.tup vs)->dF H vs xs->fR H (.ref a) (.tup xs)
 | lst {a:Addr} {vs:List V} {xs:List PV}:H a=some (.lst vs)->dF H vs xs->xs.length<=sizeLine->fR H (.ref a) (.lst xs)
inductive dF (H:Hp):List V->List PV->Prop
 | nil:dF H [] []
 | cons {v:V} {x:PV} {vs:List V} {xs:List PV}:fR H v x->dF H vs xs->dF H (v::vs) (x::xs)
end
mutual
theorem fR.mono {H H':Hp}(s:ak H H'):∀{v:V} {x:PV},fR H v x->fR H' v x
 | _,_,.non=>.non
 | _,_,.bl b=>.bl b
 | _,_,.int i=>.int i
 | _,_,.str x=>.str x
 | _,_,.tup h t=>.tup (s _ _ h) (dF.mono s t)
 | _,_,.lst h t z=>.lst (s _ _ h) (dF.mono s t) z
theorem dF.mono {H H':Hp}(s:ak H H'):∀{vs:List V} {xs:List PV},dF H vs xs->dF H' vs xs
 | _,_,.nil=>.nil
 | _,_,.cons h t=>.cons (fR.mono s h) (dF.mono s t)
end
theorem dF.pair {H:Hp}:∀{vs:List V} {xs:List PV},dF H vs xs->PySem.Paired (fR H) vs xs
 | _,_,.nil=>.nil
 | _,_,.cons h t=>.cons h (dF.pair t)
theorem dF.of {H:Hp}:∀{vs:List V} {xs:List PV},PySem.Paired (fR H) vs xs->dF H vs xs
 | _,_,.nil=>.nil
 | _,_,.cons h t=>.cons h (dF.of t)
def au:Rep PV:=⟨λ_ H v x=>fR H v x,λs h=>h.mono s⟩
section
variable {X:Cx}{Γ Γ1 Γ2 Γ3:Ga}{α β γ δ:Type}{N:Ga->Prop}{T:RT}
variable {e:Expr}{xs:List PV}{pos:Pos}
theorem EV.re {r:Rep α}{r':Rep β}{x:α}{y:β}(h:EV X e Γ r x Γ1)(f:∀(K:PySem.W.Frag) (R:Hp) (v:V),r.R K R v x->r'.R K R v y):EV X e Γ r' y Γ1:=λσ H0 R0 H R E Q q=>h σ H0 R0 H R E Q λv H' R' E' s' e'=>q v H' R' E' s' (f _ _ v e')
theorem EV.pI {n:Int}(h:EV X e Γ ab n Γ1):EV X e Γ au (.int n) Γ1:=h.re λK R v e=>by cases e;exact .int n
theorem EV.pS {x:Str}(h:EV X e Γ af x Γ1):EV X e Γ au (.str x) Γ1:=h.re λK R v e=>by cases e;exact .str x
theorem EV.pL (h:EV X e Γ (ae au) xs Γ1):EV X e Γ au (.lst xs) Γ1:=h.re λK R v ⟨a,vs,e,q,p,z⟩=>by subst e;exact .lst q (.of p) z
theorem EV.iP {n:Int}(h:EV X e Γ au (.int n) Γ1):EV X e Γ ab n Γ1:=h.re λK R v e=>by cases e;rfl
theorem EV.sP {x:Str}(h:EV X e Γ au (.str x) Γ1):EV X e Γ af x Γ1:=h.re λK R v e=>by cases e;rfl
theorem EV.lP (h:EV X e Γ au (.lst xs) Γ1):EV X e Γ (ae au) xs Γ1:=h.re λK R v e=>by cases e with | lst q p z=>exact ⟨_,_,rfl,q,p.pair,z⟩
theorem mm {es:List Expr}{k:Nat}(h:EA X es Γ au xs Γ1)(hz:xs.length<=sizeLine:=by show _<=sizeLine;decide):EV X (.Tuple es k pos) Γ au (.tup xs) Γ1:=by
 intro σ H0 R0 H R E Q q
 refine eS (ua jm) (h σ H0 R0 H R E _ λvs H1 R1 E1 s1 p1=>⟨by rw [p1.length];exact hz,λp hp=>?_⟩)
 have x:=Ext.fresh E1.sub hp (.tup vs)
 exact q _ _ _ (E1.grow x) (s1.trans x.r) (.tup av (.of (Paired.map (λ_ _=>au.mono x.r) p1)))
theorem dP {a b:Expr}{i:Int}{y:PV}(ha:EV X a Γ au (.tup xs) Γ1)(hb:EV X b Γ1 ab i Γ2)(h:cb xs i=some y)(hs:dY b:=by exact λ_ _=>rfl):EV X (.Subscript a b pos) Γ au y Γ2:=by
 intro σ H0 R0 H R E Q q
 refine eS (hJ A1 aJ aJ hs) (ha σ H0 R0 H R E _ λv H1 R1 E1 s1 e1=>hb σ H0 R0 H1 R1 E1 _ λu H2 R2 E2 s2 e2=>?_)
 cases au.mono (K:=X.K) s2 e1 with
 | tup ha pp=>
   obtain ⟨w,e3,e4⟩:=eU pp.pair h
   exact ⟨_,_,i,w,rfl,e2,cW.of (E2.sub _ _ ha),e3,q w H2 R2 E2 (s1.trans s2) e4⟩
theorem sZ {H:Hp}{vs:List V}(p:PySem.Paired (fR H) vs xs)(l h:Option Int):PySem.Paired (fR H) (ib vs l h) (cut xs l h):=by
 unfold ib cut
 rw [p.length]
 exact fE _ (ia _ p)
theorem BU {a:Expr}{lo hi:Option Expr}{p2:Pos}{l h:Option Int}(ha:EV X a Γ au (.tup xs) Γ)(hl:OV X lo Γ l)(hh:OV X hi Γ h)(hw:¬(HT.sIx xs.length 0 l=0/\HT.sIx xs.length xs.length h=xs.length)):EV X (.Subscript a (.Slice lo hi none p2) pos) Γ au (.tup (cut xs l h)) Γ:=by
 intro σ H0 R0 H R E Q q
 obtain ⟨tl,pl,kl⟩:=hl
 obtain ⟨th,ph,kh⟩:=hh
 refine eS (i5 Az aJ pl ph) (ha σ H0 R0 H R E _ λv H1 R1 E1 s1 e1=>kl σ H0 R0 H1 R1 E1 _ λH2 R2 E2 s2=>kh σ H0 R0 H2 R2 E2 _ λH3 R3 E3 s3=>?_)
 cases au.mono (K:=X.K) (s2.trans s3) e1 with
 | @tup a' vs' _ hp pp=>
   refine ⟨_,_,rfl,cW.of (E3.sub _ _ hp),by rw [pp.pair.length];exact hw,λd hd=>?_⟩
   have x:=Ext.fresh E3.sub hd (.tup (ib vs' l h))
   exact q _ _ _ (E3.grow x) (s1.trans (s2.trans (s3.trans x.r))) (.tup av (.of (Paired.map (λ_ _=>au.mono (K:=X.K) x.r) (sZ pp.pair l h))))
section
variable {pins:List (Addr×Obj)}{σ:St}{H R:Hp}{s:Shared}
end
end
end Fc
namespace Fc
open PySem PySem.Spec L2
open PyProof.Rows hiding St
section
variable {X:Cx}{Γ Γ1 Γ2 Γ3:Ga}{α β γ δ:Type}{N:Ga->Prop}{T:RT}
theorem EV.rep {e:Expr}{r:Rep α}{x:α}{r':Rep β}{y:β}(h:EV X e Γ r x Γ1)(c:∀(R:Hp) v,r.R X.K R v x->r'.R X.K R v y):EV X e Γ r' y Γ1:=λσ H0 R0 H R E Q q=>h σ H0 R0 H R E Q λv H' R' E' s' e'=>q v H' R' E' s' (c R' v e')
end
section
variable {X:Cx}{Γ Γ1 Γ2 Γ3:Ga}{α β γ δ:Type}{N:Ga->Prop}{T:RT}
theorem paired_ints {K:PySem.W.Frag}{R:Hp}:∀ys:List Int,PySem.Paired (ab.R K R) (ys.map V.int) ys
 | []=>.nil
 | _::r=>.cons rfl (paired_ints r)
theorem m5 {a:Expr}{p1 p2 pos pos2:Pos}{n:Int}(hml:X.mg "list"=none)(hmr:X.mg "range"=none)(ha:EV X a Γ ab n Γ1)(hn: -1000000<=n/\n<=1000000)(hs:starEach [a] X.env=[(false,eval a X.env)]:=by rfl)
 (hs2:starEach [.Call (.Name "range" p2) [a] [] pos2] X.env=[(false,eval (.Call (.Name "range" p2) [a] [] pos2) X.env)]:=by rfl) (hc:X.calm=true:=by rfl) (hg:Gl X "list":=by rfl) (hgr:Gl X "range":=by rfl):aV X (.Call (.Name "list" p1) [.Call (.Name "range" p2) [a] [] pos2] [] pos) Γ ab (ups 0 n.toNat) Γ1:=by
 intro σ H0 R0 H R E Q q
 refine eS (fL (ju hc) hg hml PyProof.Rows.boot_list (aR (fL lN hgr hmr boot_range (aR aJ bt hs) (by decide) (by decide) hs) bt hs2) (by decide) (by decide) hs2) (ha σ H0 R0 H R E _ λv H1 R1 E1 s1 e1=>⟨n,by rw [show v=V.int n from e1],λp hp=>?_⟩)
 refine ⟨p,0,n,rfl,av,by decide,by decide,hn.1,hn.2,λd hd=>?_⟩
 have E2:=E1.grow (Ext.dy E1.sub hp (.rng 0 n))
 rw [Int.sub_zero]
 exact q d _ _ R1 (E2.grow (Ext.dy E2.sub hd _)) s1 av (E2.sub.free hd) (E2.ext.h.free hd) (E2.off hd) (paired_ints _) (by rw [bE];exact Nat.le_trans (show n.toNat<=1000000 by omega) (by decide))
end
end Fc
namespace K1
open PySem L2 Fc
open PySem.Spec hiding Row
open PyProof.Rows hiding St
open PySem.Builtin.Int (intBits)
theorem jQ {x y:Int}(h0:0<=x)(h1:x < 4294967296):IntMulOk x y:=.of_left (intBits_le_64 (by omega) (by omega))
theorem uS {n:Nat}{i:Int}(h0:0<=i)(h1:i < n):eJ n i=some i.toNat:=by unfold eJ;rw [if_pos h0,if_pos h1]
theorem aK {n:Nat}(h:n<=1000000):n<=sizeLine:=Nat.le_trans h (by decide)
theorem aY {α:Type}{xs:List α}{i:Int}(d:α)(h0:0<=i)(h1:i < xs.length):cb xs i=some (xs.getD i.toNat d):=by
 rw [lA h0 h1,List.getElem?_eq_getElem (by omega),List.getD_eq_getElem?_getD,List.getElem?_eq_getElem (by omega)];rfl
end K1
namespace Fc
open PySem PySem.Spec L2
open PyProof.Rows hiding St
section
variable {X:Cx}{Γ Γ1 Γ2 Γ3:Ga}{α β γ δ:Type}{N:Ga->Prop}{T:RT}
variable {pos:Pos}{F:List (Int×Int)}
def bW (F:List (Int×Int)):List (Int×V):=F.map λp=>(p.1,.int p.2)
def bC (F:List (Int×Int))(k:Int):Option Int:=(F.find? λp=>decide (p.1=k)).map (·.2)
def i9 (F:List (Int×Int))(k v:Int):List (Int×Int):=if (bC F k).isSome then F.map (λp=>if p.1=k then (p.1,v) else p) else F++[(k,v)]
theorem iK:∀(F:List (Int×Int)) (k:Int),b0 (bH (bW F)) (Sum.inl k:Key)=(bC F k).map V.int
 | [],_=>rfl
 | p::r,k=>by
   have ih:=iK r k
   by_cases e:p.1=k
   ·have e':(Sum.inl p.1:Key)=Sum.inl k:=by rw [e]
    have h1:b0 (bH (bW (p::r))) (Sum.inl k:Key)=some (.int p.2):=cD (p:=((Sum.inl p.1:Key),V.int p.2)) e'
    rw [h1]
    unfold bC
    rw [List.find?_cons,decide_eq_true e];rfl
   ·have e':¬(Sum.inl p.1:Key)=Sum.inl k:=λz=>e (Sum.inl.inj z)
    have h1:b0 (bH (bW (p::r))) (Sum.inl k:Key)=b0 (bH (bW r)) (Sum.inl k:Key):=ck (p:=((Sum.inl p.1:Key),V.int p.2)) e'
    rw [h1,ih]
    unfold bC
    rw [List.find?_cons,decide_eq_false e]
theorem pD (F:List (Int×Int))(k v:Int):putK (bH (bW F)) (Sum.inl k:Key) (.int v)=bH (bW (i9 F k v)):=by
 unfold putK i9
 rw [eG,iK]
 have e:((bC F k).map V.int).isSome=(bC F k).isSome:=by cases bC F k<;>rfl
 rw [e]
 split
 ·unfold bH bW
  simp only [List.map_map]
  apply List.map_congr_left
  intro p _
  simp only [Function.comp]
  by_cases h:p.1=k
  ·rw [if_pos (by rw [h]),if_pos h]
  ·rw [if_neg (λz=>h (Sum.inl.inj z)),if_neg h]
 ·unfold bH bW
  rw [List.map_append,List.map_append];rfl
def jn:Rep (List (Int×Int)):=⟨λ_ H v F=>∃a,v= .ref a/\H a=some (.dK (bH (bW F))),λs ⟨a,e,q⟩=>⟨a,e,s _ _ q⟩⟩
theorem jA {a b:Expr}{k y:Int}(hu:X.A.units + 1 < cLine)(ha:EV X a Γ jn F Γ1)(hb:EV X b Γ1 ab k Γ2)(h:bC F k=some y)(hs:vD b:=by exact λ_ _=>rfl):EV X (.Subscript a b pos) Γ ab y Γ2:=by
 intro σ H0 R0 H R E Q q
 refine eS (yW hu aJ aJ hs) (ha σ H0 R0 H R E _ λv H1 R1 E1 s1 e1=>hb σ H0 R0 H1 R1 E1 _ λu H2 R2 E2 s2 e2=>?_)
 obtain ⟨p,rfl,hp⟩:=jn.mono s2 e1
 cases e2
 have g:=eY.k (k:=Sum.inl k) (E2.sub _ _ hp)
 rw [iK,h] at g
 exact ⟨p,_,rfl,g,q _ H2 R2 E2 (s1.trans s2) rfl⟩
theorem wg (F:List (Int×Int))(k v:Int):(i9 F k v).length<=F.length + 1:=by
 unfold i9;split
 ·rw [List.length_map];omega
 ·rw [List.length_append];simp
theorem Cb (i:Nat){x:Str}{ke ve:Expr}{p1 p2:Pos}{k v:Int}(hu:X.A.units + 1 < cLine)(hk:EV X ke Γ ab k Γ)(hv':EV X ve Γ ab v Γ)(hΓ:Γ[i]?=some (.di (bW F)))(hz:F.length < sizeLine)(h:N (Γ.set i (.di (bW (i9 F k v)))))
 (hN:X.N[i]?=some x:=by rfl) (hvi:cy X.env.scope x:=by first | exact Or.inl rfl | exact Or.inr (Or.inl rfl) | exact Or.inr (Or.inr rfl))
 (hd:(x==("__debug__":Str))=false:=by decide) (hcd:(x==("__classdict__":Str))=false:=by decide)
 (hs:swapsWith ve (some (.Subscript (.Name x p1) ke p2)) pos.line X.env=pure false:=by rfl):W1 X (.Assign [.Subscript (.Name x p1) ke p2] ve pos) Γ N T:=λσ H0 R0 H R E D dn dr=>by
 refine sS (lS hu (bc hN hvi hd hcd) aJ aJ hs) (hv' σ H0 R0 H R E _ λu0 H0' R0' E0 s0 e0=>?_)
 obtain ⟨a,ea,ha,hR⟩:=E0.ent i _ hΓ
 refine ⟨.ref a,at_of ea,hk σ H0 R0 H0' R0' E0 _ λu H1 R1 E1 s1 e1=>?_⟩
 obtain ⟨a',ea',ha',hR'⟩:=E1.ent i _ hΓ
 rw [ea] at ea';cases ea'
 cases e1
 cases e0
 refine ⟨a,_,rfl,kx.k (k:=Sum.inl k) ha' (by unfold bH bW;rw [List.length_map,List.length_map];exact hz),?_⟩
 rw [pD]
 exact dn σ _ R1 _ (E1.upd (en:=.di (bW (i9 F k v))) hΓ rfl ea hR' ⟨a,rfl,av,hR'⟩) (s0.trans s1) h
theorem pZ (i:Nat){x:Str}{p1:Pos}{P:List (Int×Int)->Prop}(hΓ:Γ[i]?=some (.di (bW F)))(h:P F)(hN:X.N[i]?=some x:=by rfl)(hv:cy X.env.scope x:=by first | exact Or.inl rfl | exact Or.inr (Or.inl rfl) | exact Or.inr (Or.inr rfl))
 (hd:(x==("__debug__":Str))=false:=by decide) (hcd:(x==("__classdict__":Str))=false:=by decide):W1 X (.Return (some (.Name x p1)) pos) Γ N (cF X.K jn P):=λσ H0 R0 H R E D dn dr=>by
 obtain ⟨a,ea,ha,hR⟩:=E.ent i _ hΓ
 have h0:H0 a=none:=E.new i _ a hΓ rfl ea
 refine sS (jM (bc hN hv hd hcd)) ⟨.ref a,at_of ea,dr _ H (upd R a (.dK (bH (bW F)))) ⟨E.ext.h,E.ext.r.trans (ak.fresh hR _),λb o qb=>?_,λb hb=>?_⟩ ⟨F,⟨a,rfl,av⟩,h⟩⟩
 ·by_cases hb:b=a
  ·subst hb;rw [av] at qb;cases qb;exact ha
  ·rw [aw hb] at qb;exact E.ext.s b o qb
 ·rw [aw (show b≠a from λe=>hb (by rw [e];exact h0))];exact E.ext.old b hb
theorem ao.Fe {K:PySem.W.Frag}{σ:St}{H0 R0 H R H' R':Hp}{Γf:Ga}(E:ao K σ H0 R0 H R Γ)(E':ao K σ H H H' R' Γf):ao K σ H0 R0 H' R Γ:=
 E.grow ⟨E'.ext.h,ak.refl _,E.sub.trans E'.ext.h,λ_ _=>rfl⟩
theorem TV.frz {Γf:Ga}(hF:∀(σ:St) (H0 R0 H R:Hp),ao X.K σ H0 R0 H R Γ->ao X.K σ H H H H Γf){e:Expr}{b:Bool}(h:TV X e Γf b Γf):TV X e Γ b Γ:=λσ H0 R0 H R E Q q=>
 h σ H H H H (hF σ H0 R0 H R E) Q λH' R' E' s'=>q H' R (E.Fe E') (ak.refl _)
def si:Rep Unit:=⟨λ_ _ v _=>v= .non,λ_ h=>h⟩
end
section
variable {P:Program}{w:World}{K:PySem.W.Frag}{mg:Str->Option Value}{base:Heap}{α:Type}
theorem AA {S:cX}{x qual:Str}{st:Stmt}{f:Addr}{fd:FuncData}{N ps:List Str}{k:Nat}(F:bw K x qual st f fd)(Sc:aE N ps (ag st))(hm:mg x=some (.ref f))(hb:Binds K fd ps [])(len:∀qs T,S K qs T->qs.length=ps.length)
 (hbody:∀(cdv:Value) (A:Around) (outer:List Env) (s:Shared) (H:Hp) (E:XK) (qs:List Pk) (T:RT),bA k (A.deeper (envOfC qual (ag st) s.heap.objs.size f cdv))->S K qs T->(∀H0 H' R',T H0 .non H' R')/\
  WS (fc dI P w K mg base N qual (ag st) f cdv A outer s H E).jf (bM st) (ee qs N.length) (λ_=>True) T):aG P w K mg base x (k + 1) (aP S K):=by
 refine ⟨f,fd,ps,?_,hm,F.kp,hb⟩
 refine F.ok Sc (λvs H Q E h=>?_) (λcdv A outer s H vs Q E hr h=>?_)
 ·obtain ⟨R,qs,T,_,p,hS,_⟩:=h
  rw [p.length];exact len qs T hS
 ·obtain ⟨R,qs,T,sR,p,hS,q⟩:=h
  have hl:qs.length<=N.length:=by
   rw [len qs T hS]
   have:=congrArg List.length Sc.pre
   rw [List.length_take] at this
   omega
  obtain ⟨h1,h2⟩:=hbody cdv A outer s H E qs T hr hS
  exact ⟨_,ie,h2 (L2.start N vs) H R H R (fT sR p hl) {nx:=λ_ H'=>Q .non H',rt:=Q} (λσ' H' R' Γ' E' _ _=>q .non H' R' E'.ext (h1 _ _ _)) λv H' R' xx t=>q v H' R' xx t⟩
end
section
variable {X:Cx}{Γ Γ1 Γ2 Γ3:Ga}{α β γ δ:Type}{N:Ga->Prop}{T:RT}
theorem uO {i:Nat}{r:Rep α}{xs:List α}(hΓ:Γ[i]?=some (.mu r xs))(hz:xs.length<=sizeLine)(σ:St)(H0 R0 H R:Hp)(E:ao X.K σ H0 R0 H R Γ):ao X.K σ H H H H ((Γ.map ny).set i (.im (ae r) xs)):=by
 obtain ⟨a,vs,ea,ha,hR,pp⟩:=E.ent i _ hΓ
 exact E.frz.lg (i:=i) (e0:=.no) (by rw [List.getElem?_map,hΓ];rfl) ⟨.ref a,ea,a,vs,rfl,ha,Paired.map (λ_ _=>r.mono E.sub) pp,hz⟩ λb w=>by cases w
end
section
variable {X:Cx}{Γ Γ1 Γ2 Γ3:Ga}{α β γ δ:Type}{N:Ga->Prop}{T:RT}
variable {e:Expr}{r:Rep α}{r':Rep β}
def oP (r:Rep α)(r':Rep β):Rep (α ⊕ β):=⟨λK H v o=>match o with | .inl x=>r.R K H v x | .inr y=>r'.R K H v y,λ{K H H' v o} s h=>by cases o with | inl x=>exact r.mono s h | inr y=>exact r'.mono s h⟩
theorem EV.inl {x:α}(h:EV X e Γ r x Γ1):EV X e Γ (oP r r') (.inl x) Γ1:=EV.rep h λ_ _ q=>q
theorem EV.inr {y:β}(h:EV X e Γ r' y Γ1):EV X e Γ (oP r r') (.inr y) Γ1:=EV.rep h λ_ _ q=>q
theorem EV.ofl {x:α}(h:EV X e Γ (oP r r') (.inl x) Γ1):EV X e Γ r x Γ1:=EV.rep h λ_ _ q=>q
theorem EV.j9 {y:β}(h:EV X e Γ (oP r r') (.inr y) Γ1):EV X e Γ r' y Γ1:=EV.rep h λ_ _ q=>q
end
section
variable {X:Cx}{Γ Γ1 Γ2 Γ3:Ga}{α β γ δ:Type}{N:Ga->Prop}{T:RT}
end
section
variable {X:Cx}{Γ Γ1 Γ2 Γ3:Ga}{α β γ δ:Type}{N:Ga->Prop}{T:RT}
def jr (H:Hp)(l:List Addr):Hp:=λb=>if b∈l then none else H b
theorem mj {H:Hp}{l:List Addr}{b:Addr}(h:b∈l):jr H l b=none:=if_pos h
theorem nS {H:Hp}{l:List Addr}{b:Addr}(h:b∉l):jr H l b=H b:=if_neg h
theorem vH {H:Hp}{l:List Addr}:ak (jr H l) H:=λb o q=>by
 by_cases h:b∈l
 ·rw [mj h] at q;cases q
 ·rwa [nS h] at q
variable {P:Program}{w:World}{K:PySem.W.Frag}{mg:Str->Option Value}{base:Heap}
end
section
variable {X:Cx}{Γ Γ1 Γ2 Γ3:Ga}{α β γ δ:Type}{N:Ga->Prop}{T:RT}
structure LK (P:Type):Type 1 where
 bx:List Addr->P->qi
 fp:∀l s,(bx l s).fp=l
 at_:∀{K H R v l s},(bx l s).R K H R v->∃a t,l=a::t/\v= .ref a
abbrev oh (R:Hp)(l:List Addr):Prop:=∀b∈l,R b=none
theorem sD {P:Type}{B:LK P}{K:PySem.W.Frag}{H R:Hp}{a:Addr}{l:List Addr}{s:P}{o:Option V}(h:(Ent.ob (B.bx (a::l) s)).ok K H R o):o=some (.ref a)/\(B.bx (a::l) s).R K H R (.ref a)/\oh R (a::l):=by
 obtain ⟨⟨v,e,hv⟩,hR⟩:=h
 obtain ⟨a',t,el,ev⟩:=B.at_ hv
 cases el
 subst ev
 exact ⟨e,hv,λb hb=>hR b (by rw [B.fp];exact hb)⟩
theorem uu {P:Type}{B:LK P}{K:PySem.W.Frag}{H R:Hp}{a:Addr}{l:List Addr}{s:P}(h:(B.bx (a::l) s).R K H R (.ref a))(hR:oh R (a::l)):(Ent.ob (B.bx (a::l) s)).ok K H R (some (.ref a)):=
 ⟨⟨_,rfl,h⟩,λc hc=>hR c (by rw [B.fp] at hc;exact hc)⟩
theorem rq {P:Type}{B:LK P}{K:PySem.W.Frag}{R H:Hp}{a:Addr}{l:List Addr}{st:P}{vs:List V}{ps:List Pk}{N:List Str}(s:ak R H)(hR:oh R (a::l))(hB:(B.bx (a::l) st).R K H R (.ref a))(p:hU K R vs ps)(hl:ps.length + 1<=N.length):
 ao K (L2.start N (.ref a::vs)) (jr H (a::l)) R H R (.ob (B.bx (a::l) st)::ee ps (N.length - 1)):=by
 obtain ⟨n0,N',rfl⟩:∃n0 N',N=n0::N':=by cases N with
  | nil=>exact absurd hl (by simp)
  | cons n N'=>exact ⟨n,N',rfl⟩
 have hl':ps.length<=N'.length:=by simpa using hl
 have E0:=fT (N:=N') s p hl'
 have es:L2.start (n0::N') (.ref a::vs)=some (.ref a)::L2.start N' vs:=by unfold L2.start;simp
 rw [es]
 have noown:∀(i:Nat) (e:Ent) (o:Option V),(ee ps N'.length)[i]?=some e->e.fp o=[]:=λi e o q=>by
  unfold ee at q
  rcases List.mem_append.mp (List.mem_of_getElem? q) with z | z
  ·obtain ⟨p,_,rfl⟩:=List.mem_map.mp z;rfl
  ·obtain ⟨_,rfl⟩:=List.mem_replicate.mp z;rfl
 refine ⟨⟨vH,ak.refl _,s,λ_ _=>rfl⟩,λi e q=>?_,λi e c q w=>?_,λi j e e' c q q' w w'=>?_,?_⟩
 ·cases i with
  | zero=>simp at q;subst q;exact uu hB hR
  | succ i=>simp at q;simpa using E0.ent i e q
 ·cases i with
  | zero=>
    simp at q;subst q
    have w:c∈(B.bx (a::l) st).fp:=w
    rw [B.fp] at w
    exact mj w
  | succ i=>simp at q;rw [noown i e _ q] at w;cases w
 ·cases i with
  | succ i=>simp at q;rw [noown i e _ q] at w;cases w
  | zero=>
    cases j with
    | zero=>rfl
    | succ j=>simp at q';rw [noown j e' _ q'] at w';cases w'
 ·have:=E0.len
  simp [this]
variable {P:Program}{w:World}{K:PySem.W.Frag}{mg:Str->Option Value}{base:Heap}
end
section
variable {X:Cx}{Γ Γ1 Γ2 Γ3:Ga}{α β γ δ:Type}{N:Ga->Prop}{T:RT}
structure bh (K:PySem.W.Frag) (C:Addr) (ns:List Str):Prop where
 cl:jh K C
 no:∀f∈ns,gK K C f
end
section
variable {X:Cx}{Γ Γ1 Γ2 Γ3:Ga}{α β γ δ:Type}{N:Ga->Prop}{T:RT}
end
section
variable {X:Cx}{Γ Γ1 Γ2 Γ3:Ga}{α β γ δ:Type}{N:Ga->Prop}{T:RT}
end
section
variable {X:Cx}{Γ Γ1 Γ2 Γ3:Ga}{α β γ δ:Type}{N:Ga->Prop}{T:RT}
variable {P:Program}{w:World}{K:PySem.W.Frag}{mg:Str->Option Value}{base:Heap}
end
end Fc
namespace Fc.DP
open PySem PySem.Spec
section
variable {prog:Program}{w:World}{A:Around}{E:Value->Shared->Prop}{h:Heap}{g:Array GenState}{d:Drawn}{t:Nat}{os:OsState}{a:Addr}{o:Obj}
end
section
variable {prog:Program}{w:World}{K:Type} [DecidableEq K]{knd:KeyKind prog w K}{A:Around}{R:Result->Shared->Prop}{I:Addr}{fp wr:List Addr}{G:Array GenState->Array GenState->Prop}{n:Nat}{P:Nat->Value->Prop}{St:Nat->Shared->Prop}
end
section
variable {prog:Program}{w:World}{K:Type} [DecidableEq K]{knd:KeyKind prog w K}{A:Around}{E:Value->Shared->Prop}{s:Shared}
end
end Fc.DP
namespace Fc
open PySem PySem.Spec L2
open PyProof.Rows hiding St
section
variable {X:Cx}{Γ Γ1 Γ2 Γ3:Ga}{α β γ δ:Type}{N:Ga->Prop}{T:RT}
end
section
variable {X:Cx}{Γ Γ1 Γ2 Γ3:Ga}{α β γ δ:Type}{N:Ga->Prop}{T:RT}
variable {x y:Str}
theorem iD:decide (V.str x=V.str y)=decide (x=y):=by
 by_cases h:x=y
 ·subst h;simp
 ·rw [decide_eq_false h,decide_eq_false λz=>h (by injection z)]
theorem bS:fm X .Eq af af x y (decide (x=y)):=⟨_,xu,λR H v u Q _ e1 e2 q=>by
 cases e1;cases e2
 exact ⟨rfl,by rw [iD];exact q⟩⟩
theorem xj:fm X .NotEq af af x y (!decide (x=y)):=⟨_,DT,λR H v u Q _ e1 e2 q=>by
 cases e1;cases e2
 exact ⟨rfl,by rw [iD];exact q⟩⟩
def oU:Rep (List Str):=⟨λK R v xs=>∃a,v= .ref a/\cW K R a (xs.map V.str),λs ⟨a,e,h⟩=>⟨a,e,by
 rcases h with h | h
 ·exact .inl (h.imp (λq=>s _ _ q) λ⟨o,q⟩=>⟨o,s _ _ q⟩)
 ·exact .inr h⟩⟩
theorem i8 (x:Str):∀xs:List Str,xP (.str x) (xs.map V.str)=decide (x∈xs)
 | []=>rfl
 | y::r=>by
   have h:=i8 x r
   unfold xP at h ⊢
   rw [List.map_cons,List.any_cons,h]
   have e:kX (V.str y) (V.str x)=decide (x=y):=by
    show (y==x)=_
    by_cases h:x=y
    ·subst h;simp
    ·rw [decide_eq_false h];exact beq_eq_false_iff_ne.mpr (Ne.symm h)
   rw [e]
   by_cases h1:x=y<;>simp [h1]
theorem hX:∀xs:List Str,(xs.map V.str).all gm=true
 | []=>rfl
 | _::r=>by rw [List.map_cons,List.all_cons,hX r];rfl
theorem hW {xs:List Str}:fm X .In af oU x xs (decide (x∈xs)):=⟨_,mF,λR H v u Q s e1 e2 q=>by
 cases e1
 obtain ⟨a,rfl,h⟩:=e2
 exact ⟨a,_,rfl,.inr (h.imp (λh=>h.imp (λq=>s _ _ q) λ⟨o,q⟩=>⟨o,s _ _ q⟩) id),rfl,hX xs,by rw [if_neg Bool.false_ne_true,i8];exact q⟩⟩
def mq (K:PySem.W.Frag)(mg:Str->Option Value)(x:Str)(xs:List Str):Prop:=∃a o its n,mg x=some (.ref a)/\K.lookup a=some o/\o.cls= .type "tuple"/\o.data= .seq its n/\its.size<=sizeLine/\Vals (xs.map V.str) its.toList
theorem eB {pos:Pos}{xs:List Str}(hm:mq X.K X.mg x xs)(hg:Gl X x:=by rfl)(hd:(x==("__debug__":Str))=false:=by decide):EV X (.Name x pos) Γ oU xs Γ:=by
 obtain ⟨a,o,its,n,h1,h2⟩:=hm
 exact λ_ _ _ _ _ E _ q=>eS (gC (v:=.ref a) hg h1 rfl hd) (q (.ref a) _ _ E (ak.refl _) ⟨a,rfl,.inr ⟨o,its,n,h2⟩⟩)
end
def jd (P:Program)(w:World)(K:PySem.W.Frag)(mg:Str->Option Value)(x:Str)(D:List (Str×List Str)):Prop:=
 ∃a o vs,mg x=some (.ref a)/\K.lookup a=some o/\o.IsDictOf (bB P w) vs/\(a==sysModules)=false/\
  PySem.Paired (λ(d:Str×List Str) (p:Key×Value)=>p.1=Sum.inr d.1/\∃b o its n,p.2= .ref b/\K.lookup b=some o/\o.cls= .type "tuple"/\o.data= .seq its n/\its.size<=sizeLine/\Vals (d.2.map V.str) its.toList) D vs
def de:List (Str×List Str)->Str->Option (List Str)
 | [],_=>none
 | (k,v)::r,x=>if k=x then some v else de r x
theorem nr {K:PySem.W.Frag}{x:Str}:∀{D:List (Str×List Str)} {vs:List (Key×Value)},PySem.Paired (λ(d:Str×List Str) (p:Key×Value)=>p.1=Sum.inr d.1/\∃b o its n,p.2= .ref b/\K.lookup b=some o/\o.cls= .type "tuple"/\o.data= .seq its n/\its.size<=sizeLine/\Vals (d.2.map V.str) its.toList) D vs->
 (de D x=none/\valueAt vs (Sum.inr x:Key)=none)∨∃ys b,de D x=some ys/\valueAt vs (Sum.inr x:Key)=some (.ref b)/\∃o its n,K.lookup b=some o/\o.cls= .type "tuple"/\o.data= .seq its n/\its.size<=sizeLine/\Vals (ys.map V.str) its.toList
 | _,_,.nil=>.inl ⟨rfl,rfl⟩
 | _,_,.cons (a:=d) (b:=p) h t=>by
   obtain ⟨k,v⟩:=d
   obtain ⟨q,u⟩:=p
   obtain ⟨e1,b,o,its,n,e2,h3⟩:=h
   have e1:q=Sum.inr k:=e1
   have e2:u=Value.ref b:=e2
   subst e1;subst e2
   rw [de]
   unfold valueAt
   rw [List.find?_cons]
   by_cases e:k=x
   ·subst e
    rw [if_pos rfl]
    exact .inr ⟨v,b,rfl,by simp,o,its,n,h3⟩
   ·rw [if_neg e]
    have:decide ((Sum.inr k:Key)=Sum.inr x)=false:=decide_eq_false λz=>e (Sum.inr.inj z)
    simp only [this]
    exact nr t
section
variable {X:Cx}{Γ Γ1 Γ2 Γ3:Ga}{α β γ δ:Type}{N:Ga->Prop}{T:RT}
theorem uG {e:Expr}{x:Str}{p1 pos:Pos}{D:List (Str×List Str)}{k:Str}(hD:jd X.prog X.w X.K X.mg x D)(he:EV X e Γ af k Γ1)(hg:Gl X x:=by rfl)(hd:(x==("__debug__":Str))=false:=by decide):TV X (.Compare e [.NotIn] [.Name x p1] pos) Γ (!(de D k).isSome) Γ1:=by
 intro σ H0 R0 H R E Q q
 obtain ⟨a,o,vs,hm,hk,hdo,hs,hp⟩:=hD
 have pc:PC X .NotIn e (.Name x p1) (λσ H Q=>eP X e σ H λy H1=>y= .str k/\Q (.bl (!(de D k).isSome)) H1):=by
  intro pins s σ H Q I h
  refine aF (h pins s I) λiv s1 ⟨y,H1,I1,ry,ey,q1⟩=>aF (gC (v:=.ref a) hg hm rfl hd pins s1 σ H1 (λv H2=>v= .ref a/\H2=H1) I1 ⟨rfl,rfl⟩) λu s2 ⟨y2,H2,I2,ry2,e3,e4⟩=>?_
  subst ey;subst e3;subst e4
  obtain rfl:u=Value.ref a:=ry2
  have dd:s2.heap.DictOf (bB X.prog X.w) a vs:=Heap.dictOf_iff.mpr ⟨o,I2.g7 a o hk,hdo⟩
  refine wpAny_notIn_of (gk (k:=Sum.inr k) ry) hs dd.mapOf ?_
  rcases nr (x:=k) hp with ⟨h1,h2⟩ | ⟨ys,b,h1,h2,_⟩
  ·rw [h2];rw [h1] at q1;exact ⟨.bl _,_,I2.tok _,rfl,q1⟩
  ·rw [h2];rw [h1] at q1;exact ⟨.bl _,_,I2.tok _,rfl,q1⟩
 refine tS (jJ pc (by with_unfolding_all rfl)) (he σ H0 R0 H R E _ λv H1 R1 E1 s1 e1=>⟨e1,_,rfl,q H1 R1 E1 s1⟩)
end
end Fc
namespace Fc.ZT
open PySem PySem.Spec PyProof.Rows
section
variable {prog:Program}{w:World}{A:Around}{E:Value->Shared->Prop}{s:Shared}
structure Dr (prog:Program) (w:World) (A:Around) (i l:Addr) (its:Array Value) (St:Nat->Heap->Prop):Prop where
 up:∀{k:Nat} {h h':Heap},St k h->(∀b,b=i∨b=l->∀o,h.get? b=some o->h'.get? b=some o)->St k h'
 there:∀{k:Nat} {h:Heap},St k h->i < h.objs.size
 item:∀{k:Nat} {x:Value} {s:Shared} {Q:Value->Shared->Prop} {E:Value->Shared->Prop},St k s.heap->its[k]?=some x->(∀h',St (k + 1) h'->Heap.SameBut i s.heap h'->Q x {s with heap:=h'})->wpAny (model prog w) A (Builtin.SmallTypes.nextOf (.ref i)) Q E s
 done:∀{k:Nat} {s:Shared} {Q:Value->Shared->Prop} {E:Value->Shared->Prop},St k s.heap->its[k]?=none->(∀h' e,Heap.ExtBut i s.heap h'->(∃o,h'.get? e=some o/\o.cls= .type "StopIteration")->E (.ref e) {s with heap:=h'})->wpAny (model prog w) A (Builtin.SmallTypes.nextOf (.ref i)) Q E s
theorem nH {i l:Addr}{its:Array Value}(hh:A.handled=none)(hne:i≠l):Dr prog w A i l its (λk h=>h.IsTupleIter i l k/\h.IsTuple l its) where
 up:=λ⟨⟨o,ho,r⟩,⟨o',ho',r'⟩⟩ hk=>⟨⟨o,hk _ (.inl rfl) o ho,r⟩,⟨o',hk _ (.inr rfl) o' ho',r'⟩⟩
 there:=λ⟨⟨o,ho,_⟩,_⟩=>Heap.lt_size ho
 item:=λ{k x s Q E} ⟨hit,ht⟩ hx hQ=>by
  obtain ⟨o,ho,hc,hd⟩:=id hit
  obtain ⟨ol,hol,_,nl,hdl⟩:=id ht
  unfold Builtin.SmallTypes.nextOf
  refine wpAny_bind (wpAny_callSpecial?_slot (name:=Str.ofString "__next__") hit.typeIs F.slot_tuple_iterator_next
   (wpAny_call_entry F.slot_tuple_iterator_next hit.typeIs F.entry_tuple_iterator_next ?_ (F.args_tuple_iterator_next_1 _)))
  show wpAny _ _ (field (.ref i) 0 >>=_) _ _ s
  refine wpAny_bind (wpAny_field ho hd (x:=.ref l) rfl ?_)
  refine wpAny_ite ?_
  rw [if_neg (show¬((Value.ref l==Value.none)=true) from Bool.false_ne_true)]
  show wpAny _ _ (field (.ref i) 1 >>=_) _ _ s
  refine wpAny_bind (wpAny_field ho hd (x:=.int k 0) rfl ?_)
  show wpAny _ _ (seqItems? (.ref l) >>=_) _ _ s
  refine wpAny_bind (wpAny_seqItems hol hdl ?_)
  simp only [Int.toNat_natCast,hx]
  have hs:=Heap.SameBut.update s.heap i (λo=>o.mapFields λa=>a.setIfInBounds 1 (rawInt (k + 1)))
  refine wpAny_bind (wpAny_setField ho hd (by simp) (wpAny_pure ⟨x,rfl,wpAny_pure (hQ _ ⟨?_,ht.extBut (Heap.SameBut.update ..).extBut (Ne.symm hne)⟩ (Heap.SameBut.update ..))⟩))
  exact ⟨_,Heap.get?_update_self _ ho (Obj.isFreed_of_fields (Obj.data_mapFields hd _)),(Obj.cls_mapFields ..).trans hc,by rw [Obj.data_mapFields hd];simp [rawInt]⟩
 done:=λ{k s Q E} ⟨hit,ht⟩ hx hE=>by
  obtain ⟨o,ho,hc,hd⟩:=id hit
  obtain ⟨ol,hol,_,nl,hdl⟩:=id ht
  unfold Builtin.SmallTypes.nextOf
  refine wpAny_bind (wpAny_callSpecial?_slot (name:=Str.ofString "__next__") hit.typeIs F.slot_tuple_iterator_next
   (wpAny_call_entry F.slot_tuple_iterator_next hit.typeIs F.entry_tuple_iterator_next ?_ (F.args_tuple_iterator_next_1 _)))
  show wpAny _ _ (field (.ref i) 0 >>=_) _ _ s
  refine wpAny_bind (wpAny_field ho hd (x:=.ref l) rfl ?_)
  refine wpAny_ite ?_
  rw [if_neg (show¬((Value.ref l==Value.none)=true) from Bool.false_ne_true)]
  show wpAny _ _ (field (.ref i) 1 >>=_) _ _ s
  refine wpAny_bind (wpAny_field ho hd (x:=.int k 0) rfl ?_)
  show wpAny _ _ (seqItems? (.ref l) >>=_) _ _ s
  refine wpAny_bind (wpAny_seqItems hol hdl ?_)
  simp only [Int.toNat_natCast,hx]
  refine wpAny_bind (wpAny_rule (wpAny_bind (wpAny_setField ho hd (by simp) ?_)))
  show wpAny _ _ (newExc (.type "StopIteration") [] >>=_) _ _ _
  refine wpAny_bind ?_
  simp only [newExc,newTuple]
  refine wpAny_bind (wpAny_newObj_type ?_ (by size_fits))
  refine wpAny_bind (m:=firstArgMember _ _) (wpAny_of_eq (a:=Value.none) (by first | rfl | (simp only [firstArgMember];rfl)) ?_)
  refine wpAny_newObj_type ?_ (by size_fits)
  simp only [raiseNew]
  refine wpAny_bind (wpAny_handled ?_)
  first | rw [show A.in1.handled=none from hh] | rw [hh]
  refine wpAny_bind (wpAny_pure (wpAny_throw ?_))
  exact hE _ _ (((Heap.SameBut.update ..).extBut.push _).push _) ⟨_,Heap.get?_push_size _ rfl,rfl⟩
section
variable {z TI TO i1 i2 l1 l2:Addr}{k1 k2:Nat}{xs ys:Array Value}{x y a b:Value}{S1 S2:Nat->Heap->Prop}
theorem up1 {i l c:Addr}{its:Array Value}{St:Nat->Heap->Prop}(d:Dr prog w A i l its St){k:Nat}{h h':Heap}(hs:St k h)(e:Heap.ExtBut c h h')(h1:i≠c)(h2:l≠c):St k h':=d.up hs λb hb o q=>e b o (by rcases hb with rfl | rfl<;>assumption) q
theorem zu {Q:Value->Shared->Prop}(D:ZipApart z TI TO i1 i2 l1 l2)(d1:Dr prog w A i1 l1 xs S1)(d2:Dr prog w A i2 l2 ys S2)
 (hz:IsZip s.heap z TI TO .none) (hTI:IsPair s.heap TI (.ref i1) (.ref i2)) (hTO:IsPair s.heap TO a b) (h1:S1 k1 s.heap) (h2:S2 k2 s.heap) (hx:xs[k1]?=some x) (hy:ys[k2]?=some y)
 (hQ:∀h',IsZip h' z TI TO (rawInt s.heap.objs.size)->IsPair h' TO x y->S1 (k1 + 1) h'->S2 (k2 + 1) h'->IsPair h' s.heap.objs.size x y->(∀c o,c≠z->c≠TO->c≠i1->c≠i2->s.heap.get? c=some o->h'.get? c=some o)->Q (.ref s.heap.objs.size) {s with heap:=h'}):
 wpAny (model prog w) A (Builtin.«zip.__next__» ⟨[.ref z],[]⟩) (λfin s'=>∃v,fin= .done (.ret v)/\Q v s') E s:=by
 show wpAny _ _ (field (.ref z) 2 >>=_) _ _ _
 refine wpAny_bind (wpAny_field hz rfl (x:=.bool false) rfl ?_)
 show wpAny _ _ (field (.ref z) 3 >>=_) _ _ _
 refine wpAny_bind (wpAny_field hz rfl (x:=.ref TI) rfl (wpAny_bind (wpAny_seqItems hTI rfl ?_)))
 show wpAny _ _ (Builtin.SmallTypes.ownedTupleIsFree (.ref z) >>=_) _ _ _
 refine wpAny_bind ?_
 unfold Builtin.SmallTypes.ownedTupleIsFree
 refine wpAny_bind (wpAny_field hz rfl (x:=.none) rfl (wpAny_pure ?_))
 simp only [if_true]
 refine wpAny_bind (wpAny_rule (wpAny_bind (wpAny_field hz rfl (x:=.ref TO) rfl (wpAny_bind (wpAny_setField_rec hz (by simp) λha hza hsa=>?_)))))
 replace hza:IsZip ha z TI TO .ellipsis:=hza
 refine wpAny_bind ?_
 simp only [List.zipIdx_cons,List.zipIdx_nil,List.forIn_cons,List.forIn_nil]
 refine wpAny_bind (wpAny_bind (wpAny_onRaise ?_))
 show wpAny _ _ (Builtin.SmallTypes.nextOf (.ref i1) >>=_) _ _ _
 have g1:S1 k1 ha:=up1 d1 h1 hsa.extBut D.i1z D.l1z
 have g2:S2 k2 ha:=up1 d2 h2 hsa.extBut D.i2z D.l2z
 refine wpAny_bind (d1.item g1 hx λhb n1 hsb=>wpAny_pure ?_)
 have tb:IsPair hb TO a b:=hsb.extBut _ _ D.TOi1 (hsa.extBut _ _ D.TOz hTO)
 refine wpAny_bind (wpAny_seqItems tb rfl (wpAny_bind (wpAny_updateSeq_pair tb λhc tc hsc=>?_)))
 replace tc:IsPair hc TO x b:=tc
 refine wpAny_bind (wpAny_letGo (wpAny_pure ?_))
 refine wpAny_bind (wpAny_bind (wpAny_onRaise ?_))
 show wpAny _ _ (Builtin.SmallTypes.nextOf (.ref i2) >>=_) _ _ _
 have g2c:S2 k2 hc:=up1 d2 (up1 d2 g2 hsb.extBut D.i12.symm D.l2i1) hsc.extBut D.TOi2.symm D.l2TO
 refine wpAny_bind (d2.item g2c hy λhd n2 hsd=>wpAny_pure ?_)
 have td:IsPair hd TO x b:=hsd.extBut _ _ D.TOi2 tc
 refine wpAny_bind (wpAny_seqItems td rfl (wpAny_bind (wpAny_updateSeq_pair td λhe te hse=>?_)))
 replace te:IsPair he TO x y:=te
 refine wpAny_bind (wpAny_letGo (wpAny_pure (wpAny_pure ?_)))
 refine wpAny_bind (wpAny_seqItems te rfl (wpAny_bind (wpAny_newTuple ?_)))
 have hsz:he.objs.size=s.heap.objs.size:=by rw [hse.1,hsd.1,hsc.1,hsb.1,hsa.1]
 have ze:IsZip he z TI TO .ellipsis:=hse.extBut _ _ D.TOz.symm (hsd.extBut _ _ D.i2z.symm (hsc.extBut _ _ D.TOz.symm (hsb.extBut _ _ D.i1z.symm hza)))
 have ke:∀c o,c≠z->c≠TO->c≠i1->c≠i2->s.heap.get? c=some o->he.get? c=some o:=λc o c1 c2 c3 c4 e=>
  hse.extBut _ _ c2 (hsd.extBut _ _ c4 (hsc.extBut _ _ c2 (hsb.extBut _ _ c3 (hsa.extBut _ _ c1 e))))
 have m1:S1 (k1 + 1) he:=up1 d1 (up1 d1 (up1 d1 n1 hsc.extBut D.TOi1.symm D.l1TO) hsd.extBut D.i12 D.l1i2) hse.extBut D.TOi1.symm D.l1TO
 have m2:S2 (k2 + 1) he:=up1 d2 n2 hse.extBut D.TOi2.symm D.l2TO
 have hzlt:z < he.objs.size:=Heap.lt_size ze
 show wpAny _ _ (Builtin.SmallTypes.ownedTupleHandOut (.ref z) (.ref he.objs.size) >>=_) _ _ _
 refine wpAny_bind ?_
 unfold Builtin.SmallTypes.ownedTupleHandOut
 have zf:IsZip (he.push {cls:=.type "tuple",data:=.seq #[x,y]}) z TI TO .ellipsis:=Heap.get?_push_of_some _ ze
 refine wpAny_bind (wpAny_setField_rec zf (by simp) λhg zg hsg=>?_)
 replace zg:IsZip hg z TI TO (rawInt he.objs.size):=zg
 refine wpAny_setField_rec zg (by simp) λhj zj hsj=>?_
 replace zj:IsZip hj z TI TO (rawInt he.objs.size):=zj
 have up:∀c o,c≠z->he.get? c=some o->hj.get? c=some o:=λc o c1 e=>hsj.extBut _ _ c1 (hsg.extBut _ _ c1 (Heap.get?_push_of_some _ e))
 have tj:IsPair hj he.objs.size x y:=hsj.extBut _ _ (Nat.ne_of_gt hzlt) (hsg.extBut _ _ (Nat.ne_of_gt hzlt) (Heap.get?_push_size _ rfl))
 rw [hsz] at zj tj
 refine wpAny_pure ⟨_,rfl,?_⟩
 show Q (.ref he.objs.size) _
 rw [hsz]
 exact hQ hj zj (up _ _ D.TOz te) (d1.up m1 λc hc o e=>up c o (hc.elim (λq=>by rw [q];exact D.i1z) λq=>by rw [q];exact D.l1z) e) (d2.up m2 λc hc o e=>up c o (hc.elim (λq=>by rw [q];exact D.i2z) λq=>by rw [q];exact D.l2z) e) tj λc o c1 c2 c3 c4 e=>up c o c1 (ke c o c1 c2 c3 c4 e)
theorem jL {Q:PySem.Fin->Shared->Prop}(D:ZipApart z TI TO i1 i2 l1 l2)(d1:Dr prog w A i1 l1 xs S1)(d2:Dr prog w A i2 l2 ys S2)
 (hz:IsZip s.heap z TI TO .none) (hTI:IsPair s.heap TI (.ref i1) (.ref i2)) (hTO:IsPair s.heap TO a b) (h1:S1 k1 s.heap) (h2:S2 k2 s.heap) (hend:xs[k1]?=none∨ys[k2]?=none)
 (hE:∀h' e,(∀c o,c≠z->c≠TO->c≠i1->c≠i2->s.heap.get? c=some o->h'.get? c=some o)->(∃o,h'.get? e=some o/\o.cls= .type "StopIteration")->E (.ref e) {s with heap:=h'}):
 wpAny (model prog w) A (Builtin.«zip.__next__» ⟨[.ref z],[]⟩) Q E s:=by
 show wpAny _ _ (field (.ref z) 2 >>=_) _ _ _
 refine wpAny_bind (wpAny_field hz rfl (x:=.bool false) rfl ?_)
 show wpAny _ _ (field (.ref z) 3 >>=_) _ _ _
 refine wpAny_bind (wpAny_field hz rfl (x:=.ref TI) rfl (wpAny_bind (wpAny_seqItems hTI rfl ?_)))
 show wpAny _ _ (Builtin.SmallTypes.ownedTupleIsFree (.ref z) >>=_) _ _ _
 refine wpAny_bind ?_
 unfold Builtin.SmallTypes.ownedTupleIsFree
 refine wpAny_bind (wpAny_field hz rfl (x:=.none) rfl (wpAny_pure ?_))
 simp only [if_true]
 refine wpAny_bind (wpAny_rule (wpAny_bind (wpAny_field hz rfl (x:=.ref TO) rfl (wpAny_bind (wpAny_setField_rec hz (by simp) λha hza hsa=>?_)))))
 replace hza:IsZip ha z TI TO .ellipsis:=hza
 refine wpAny_bind ?_
 simp only [List.zipIdx_cons,List.zipIdx_nil,List.forIn_cons,List.forIn_nil]
 refine wpAny_bind (wpAny_bind (wpAny_onRaise ?_))
 show wpAny _ _ (Builtin.SmallTypes.nextOf (.ref i1) >>=_) _ _ _
 have g1:S1 k1 ha:=up1 d1 h1 hsa.extBut D.i1z D.l1z
 have g2:S2 k2 ha:=up1 d2 h2 hsa.extBut D.i2z D.l2z
 cases hx:xs[k1]? with
 | none=>
   refine wpAny_bind (d1.done g1 hx λhb e hsb he=>?_)
   obtain ⟨oe,hoe,hce⟩:=he
   have zb:IsZip hb z TI TO .ellipsis:=hsb _ _ D.i1z.symm hza
   have hez:e≠z:=λq=>by subst q;rw [zb] at hoe;cases hoe;simp at hce
   exact wpAny_setField_rec zb (by simp) λhc _ hsc=>hE hc e (λc o c1 _ c3 _ q=>hsc.extBut _ _ c1 (hsb _ _ c3 (hsa.extBut _ _ c1 q))) ⟨oe,hsc.extBut _ _ hez hoe,hce⟩
 | some x=>
   have hy:ys[k2]?=none:=by rcases hend with q | q;rw [hx] at q;cases q;exact q
   refine wpAny_bind (d1.item g1 hx λhb n1 hsb=>wpAny_pure ?_)
   have tb:IsPair hb TO a b:=hsb.extBut _ _ D.TOi1 (hsa.extBut _ _ D.TOz hTO)
   refine wpAny_bind (wpAny_seqItems tb rfl (wpAny_bind (wpAny_updateSeq_pair tb λhc tc hsc=>?_)))
   refine wpAny_bind (wpAny_letGo (wpAny_pure ?_))
   refine wpAny_bind (wpAny_bind (wpAny_onRaise ?_))
   show wpAny _ _ (Builtin.SmallTypes.nextOf (.ref i2) >>=_) _ _ _
   have g2c:S2 k2 hc:=up1 d2 (up1 d2 g2 hsb.extBut D.i12.symm D.l2i1) hsc.extBut D.TOi2.symm D.l2TO
   refine wpAny_bind (d2.done g2c hy λhd e hsd he=>?_)
   obtain ⟨oe,hoe,hce⟩:=he
   have zd:IsZip hd z TI TO .ellipsis:=hsd _ _ D.i2z.symm (hsc.extBut _ _ D.TOz.symm (hsb.extBut _ _ D.i1z.symm hza))
   have hez:e≠z:=λq=>by subst q;rw [zd] at hoe;cases hoe;simp at hce
   exact wpAny_setField_rec zd (by simp) λhe _ hse=>hE he e (λc o c1 c2 c3 c4 q=>hse.extBut _ _ c1 (hsd _ _ c4 (hsc.extBut _ _ c2 (hsb.extBut _ _ c3 (hsa.extBut _ _ c1 q))))) ⟨oe,hse.extBut _ _ hez hoe,hce⟩
theorem yn {Q:Option Value->Shared->Prop}(D:ZipApart z TI TO i1 i2 l1 l2)(d1:Dr prog w A.in1 i1 l1 xs S1)(d2:Dr prog w A.in1 i2 l2 ys S2)
 (hz:IsZip s.heap z TI TO .none) (hTI:IsPair s.heap TI (.ref i1) (.ref i2)) (hTO:IsPair s.heap TO a b) (h1:S1 k1 s.heap) (h2:S2 k2 s.heap) (hx:xs[k1]?=some x) (hy:ys[k2]?=some y)
 (hQ:∀h',IsZip h' z TI TO (rawInt s.heap.objs.size)->IsPair h' TO x y->S1 (k1 + 1) h'->S2 (k2 + 1) h'->IsPair h' s.heap.objs.size x y->(∀c o,c≠z->c≠TO->c≠i1->c≠i2->s.heap.get? c=some o->h'.get? c=some o)->Q (some (.ref s.heap.objs.size)) {s with heap:=h'}):
 wpAny (model prog w) A (pyNext (.ref z)) Q E s:=by
 have hT:s.TypeIs (.ref z) "zip":=⟨_,hz,rfl⟩
 unfold pyNext
 exact wpAny_bind (wpAny_attempt (wpAny_callSpecial?_slot (name:=Str.ofString "__next__") hT F.slot_zip_next (wpAny_call_entry F.slot_zip_next hT F.entry_zip_next (zu D d1 d2 hz hTI hTO h1 h2 hx hy λh' a1 a2 a3 a4 a5 a6=>wpAny_pure (hQ h' a1 a2 a3 a4 a5 a6)) (F.args_zip_next_1 _))))
theorem zR {Q:Option Value->Shared->Prop}(D:ZipApart z TI TO i1 i2 l1 l2)(d1:Dr prog w A.in1 i1 l1 xs S1)(d2:Dr prog w A.in1 i2 l2 ys S2)
 (hz:IsZip s.heap z TI TO .none) (hTI:IsPair s.heap TI (.ref i1) (.ref i2)) (hTO:IsPair s.heap TO a b) (h1:S1 k1 s.heap) (h2:S2 k2 s.heap) (hend:xs[k1]?=none∨ys[k2]?=none)
 (hQ:∀h',(∀c o,c≠z->c≠TO->c≠i1->c≠i2->s.heap.get? c=some o->h'.get? c=some o)->Q none {s with heap:=h'}):wpAny (model prog w) A (pyNext (.ref z)) Q E s:=by
 have hT:s.TypeIs (.ref z) "zip":=⟨_,hz,rfl⟩
 unfold pyNext
 refine wpAny_bind (wpAny_attempt (wpAny_callSpecial?_slot (name:=Str.ofString "__next__") hT F.slot_zip_next (wpAny_call_entry F.slot_zip_next hT F.entry_zip_next (jL D d1 d2 hz hTI hTO h1 h2 hend λh' e hk he=>?_) (F.args_zip_next_1 _))))
 obtain ⟨o,ho,hc⟩:=he
 exact wpAny_bind (wpAny_isInstance (T:="StopIteration") (b:=true) ⟨o,ho,hc⟩ isSubtype_stop (wpAny_pure (hQ _ hk)))
end
end
end Fc.ZT
namespace Fc
open PySem PySem.Spec L2
open PyProof.Rows hiding St
section
variable {X:Cx}{Γ Γ1 Γ2 Γ3:Ga}{α β γ δ:Type}{N:Ga->Prop}{T:RT}
variable {es:List Expr}{tp:Pos}
def Ex (K:PySem.W.Frag)(a b:Addr):It:=
 ⟨λi H=>∃xs ys x y,aM K H a xs/\aM K H b ys/\xs[i]?=some x/\ys[i]?=some y,
  λi H v H'=>∃p x y,H p=none/\v= .ref p/\H'=upd H p (.tup [x,y])/\(∀xs,aM K H a xs->xs[i]?=some x)/\∀ys,aM K H b ys->ys[i]?=some y,
  λi H=>∃xs ys,aM K H a xs/\aM K H b ys/\(xs.length<=i∨ys.length<=i)⟩
def Em (z TI TO i1 i2 a b:Addr)(i:Nat)(h:Heap):Prop:=
 IsZip h z TI TO .none/\IsPair h TI (.ref i1) (.ref i2)/\(∃u v,IsPair h TO u v)/\h.IsListIter i1 a i/\h.IsListIter i2 b i
structure oI (z TI TO i1 i2:Addr):Prop where
 TIz:TI≠z
 TOz:TO≠z
 i1z:i1≠z
 i2z:i2≠z
 TITO:TI≠TO
 TIi1:TI≠i1
 TIi2:TI≠i2
 TOi1:TO≠i1
 TOi2:TO≠i2
 i12:i1≠i2
theorem kf {a b:Nat}(h:a < b∨b < a): @Ne Addr a b:=h.elim Nat.ne_of_lt Nat.ne_of_gt
theorem Bv (n:Nat):oI (n + 4) (n + 2) (n + 3) n (n + 1):=⟨kf (by omega),kf (by omega),kf (by omega),kf (by omega),kf (by omega),kf (by omega),kf (by omega),kf (by omega),kf (by omega),kf (by omega)⟩
theorem cO {h:Heap}{l b:Addr}{its:Array Value}{o:Obj}(p:PlainL h l its)(e:h.get? b=some o)(hc:o.cls≠ .type "list"):l≠b:=λz=>by
 obtain ⟨u,n,e',c,_⟩:=p
 rw [z,e] at e'
 cases e'
 exact hc c
theorem ZipApart.of {h:Heap}{z TI TO i1 i2 a b:Addr}{i:Nat}{xs ys:Array Value}(F:oI z TI TO i1 i2)(st:Em z TI TO i1 i2 a b i h)(pa:PlainL h a xs)(pb:PlainL h b ys):ZipApart z TI TO i1 i2 a b:=by
 obtain ⟨hz,_,⟨u,v,hTO⟩,⟨o1,e1,c1,_⟩,⟨o2,e2,c2,_⟩⟩:=st
 exact ⟨F.TIz,F.TOz,F.i1z,F.i2z,F.TITO,F.TIi1,F.TIi2,F.TOi1,F.TOi2,F.i12,
  cO pa hz (by simp),cO pa hTO (by simp),cO pa e1 (by rw [c1];simp),cO pa e2 (by rw [c2];simp),
  cO pb hz (by simp),cO pb hTO (by simp),cO pb e1 (by rw [c1];simp),cO pb e2 (by rw [c2];simp)⟩
theorem we {P:Program}{w:World}{K:PySem.W.Frag}{k:Nat}(a b z TI TO i1 i2:Addr)(F:oI z TI TO i1 i2):Turn P w K (.Tuple es k tp) (Ex K a b) [z,TI,TO,i1,i2] z (Em z TI TO i1 i2 a b) where
 mem:=by simp
 obj:=λi h st c hc=>by
  obtain ⟨hz,hTI,⟨u,v,hTO⟩,⟨o1,e1,c1,d1⟩,⟨o2,e2,c2,d2⟩⟩:=st
  simp only [List.mem_cons,List.not_mem_nil,or_false] at hc
  rcases hc with rfl | rfl | rfl | rfl | rfl
  ·exact ⟨_,hz,λv q=>by cases q⟩
  ·exact ⟨_,hTI,λv q=>by cases q⟩
  ·exact ⟨_,hTO,λv q=>by cases q⟩
  ·exact ⟨o1,e1,λv q=>by rw [d1] at q;cases q⟩
  ·exact ⟨o2,e2,λv q=>by rw [d2] at q;cases q⟩
 keep:=λi h h' st kk=>by
  obtain ⟨hz,hTI,⟨u,v,hTO⟩,h1,h2⟩:=st
  exact ⟨kk z (by simp) _ hz,kk TI (by simp) _ hTI,⟨u,v,kk TO (by simp) _ hTO⟩,h1.at λo e=>kk i1 (by simp) o e,h2.at λo e=>kk i2 (by simp) o e⟩
 item:=by
  intro X hP hw hK hc i pins s σ H E I hf st hg
  subst hP hw hK
  obtain ⟨xs,ys,x,y,hq,hq',hx,hy⟩:=hg
  obtain ⟨its,r,pl,hz⟩:=I.list hq
  obtain ⟨its',r',pl',hz'⟩:=I.list hq'
  obtain ⟨u,hu,rx⟩:=r.get hx
  obtain ⟨u',hu',ry⟩:=r'.get hy
  have D:=ZipApart.of F st pl pl'
  obtain ⟨hz0,hTI,⟨c,d,hTO⟩,h1,h2⟩:=st
  have hn:H s.heap.objs.size=none:=I.hok.fresh (Nat.le_refl _)
  refine wpAny_pyNext_zip_item D hz0 hTI hTO h1 h2 pl.isList pl'.isList (x:=u) (y:=u') (by simpa using hu) (by simpa using hu') λh' a1 a2 a3 a4 a5 a6 hk=>?_
  refine ⟨_,rfl,?_⟩
  refine wpAny_letOwnedTupleGo_zip (s:={s with heap:=h'}) a1 λh3 hz3 hs3=>?_
  have lt:∀{c o},s.heap.get? c=some o->c≠s.heap.objs.size:=λe=>Nat.ne_of_lt (Heap.lt_size e)
  have hk2:∀b o,b∉[z,TI,TO,i1,i2]->s.heap.get? b=some o->h3.get? b=some o:=λb o hb q=>by
   simp only [List.mem_cons,List.not_mem_nil,or_false,not_or] at hb
   exact hs3.extBut b o hb.1 (hk b o hb.1 hb.2.2.1 hb.2.2.2.1 hb.2.2.2.2 q)
  have I1:Inv X pins σ H {s with heap:=h3,toks:=s.toks}:=gw I hk2 hf
  have hT2:h3.get? s.heap.objs.size=some {cls:=.type "tuple",data:=.seq #[u,u']}:=hs3.extBut _ _ (Ne.symm (lt hz0)) a5
  have I2:Inv X pins σ (upd H s.heap.objs.size (.tup [x,y])) {s with heap:=h3,toks:=s.toks}:=
   adopt I1 (I.eR (Nat.le_refl _) hn) (I.sz) ⟨by show 2<=sizeLine;decide,[u,u'],.cons rx (.cons ry .nil),⟨_,hT2,rfl,_,rfl⟩⟩
  refine ⟨.ref s.heap.objs.size,_,I2,rfl,⟨s.heap.objs.size,x,y,hn,rfl,rfl,λzs hzs=>?_,λzs hzs=>?_⟩,⟨hz3,?_,⟨_,_,hs3.extBut _ _ F.TOz a2⟩,a3.extBut hs3.extBut F.i1z,a4.extBut hs3.extBut F.i2z⟩,λb hb=>?_⟩
  ·rw [I.fq hzs hq];exact hx
  ·rw [I.fq hzs hq'];exact hy
  ·exact hs3.extBut _ _ F.TIz (hk _ _ F.TIz F.TITO F.TIi1 F.TIi2 hTI)
  ·have hlt:b≠s.heap.objs.size:=by
    simp only [List.mem_cons,List.not_mem_nil,or_false] at hb
    rcases hb with rfl | rfl | rfl | rfl | rfl
    ·exact lt hz0
    ·exact lt hTI
    ·exact lt hTO
    ·obtain ⟨_,e,_⟩:=h1;exact lt e
    ·obtain ⟨_,e,_⟩:=h2;exact lt e
   rw [aw hlt]
   exact (hf b hb).1
 done:=by
  intro X hP hw hK hc i pins s σ H E I hf st hg
  subst hP hw hK
  obtain ⟨xs,ys,hq,hq',hx⟩:=hg
  obtain ⟨its,r,pl,hz⟩:=I.list hq
  obtain ⟨its',r',pl',hz'⟩:=I.list hq'
  have D:=ZipApart.of F st pl pl'
  obtain ⟨hz0,hTI,⟨c,d,hTO⟩,h1,h2⟩:=st
  have l1:=r.length
  have l2:=r'.length
  refine wpAny_pyNext_zip_end (I.ok.hd hc) D hz0 hTI hTO h1 h2 pl.isList pl'.isList (hx.imp (λq=>by simp;omega) λq=>by simp;omega) λh' hk=>⟨rfl,?_⟩
  refine gw (t':=s.toks) I (λb o hb q=>?_) hf
  simp only [List.mem_cons,List.not_mem_nil,or_false,not_or] at hb
  exact hk b o hb.1 hb.2.2.1 hb.2.2.2.1 hb.2.2.2.2 q
 self:=λ_ _ _ _ _ st h=>wpAny_pyIter_zip st.1 h
def FW (K:PySem.W.Frag)(ta:TA):TI:=λσ H R=>ta σ H λvs H1=>∃a b xs ys,vs=[.ref a,.ref b]/\aM K H1 a xs/\aM K H1 b ys/\R (Ex K a b) H1
theorem Bk {a b:Expr}{ta:TA}{p pos:Pos}{k:Nat}(hg:Gl X "zip")(hm:X.mg "zip"=none)(ha:PA X [a,b] ta)(hs:starEach [a,b] X.env=[(false,eval a X.env),(false,eval b X.env)]:=by rfl)(hs2:starEach [b] X.env=[(false,eval b X.env)]:=by rfl):PI X (.Tuple es k tp) (.Call (.Name "zip" p) [a,b] [] pos) (FW X.K ta):=by
 intro pins s σ H R I h
 refine Call_ (eW I hg hm boot_zip (PyProof.Rows.callWith_type1 (aF (ha pos pins s σ H _ I h) λus s1 ⟨vs,H1,I1,r1,q1⟩=>?_) (by rw [hs,hs2]) (by rw [hs2];rfl)))
 obtain ⟨l,l',xs,ys,e,hq,hq',q⟩:=q1
 subst e
 cases r1 with
 | cons r rr=>
   cases rr with
   | cons r' rr=>
     cases rr
     cases r
     cases r'
     obtain ⟨its,_,pl,_⟩:=I1.list hq
     obtain ⟨its',_,pl',_⟩:=I1.list hq'
     refine call_zip_2 pl.isList pl'.isList λh' a1 a2 a3 a4 a5 a6 hk=>?_
     refine wpAny_pyIter_zip a1 ?_
     have I2:Inv X pins σ H1 {s1 with heap:=h'}:=I1.kept (t':=s1.toks) hk
     have ff:∀b,s1.heap.objs.size<=b->gR X pins H1 b:=λb hb=>I1.eR hb (I1.hok.fresh hb)
     refine ⟨s1.heap.objs.size + 4,[s1.heap.objs.size + 4,s1.heap.objs.size + 2,s1.heap.objs.size + 3,s1.heap.objs.size,s1.heap.objs.size + 1],_,_,H1,rfl,I2,we l l' _ _ _ _ _ (Bv _),⟨a1,a2,⟨_,_,a3⟩,a4,a5⟩,λb hb=>?_,q⟩
     simp only [List.mem_cons,List.not_mem_nil,or_false] at hb
     rcases hb with rfl | rfl | rfl | rfl | rfl
     ·exact ff _ (Nat.le_add_right _ 4)
     ·exact ff _ (Nat.le_add_right _ 2)
     ·exact ff _ (Nat.le_add_right _ 3)
     ·exact ff _ (Nat.le_refl _)
     ·exact ff _ (Nat.le_add_right _ 1)
theorem gH {xs:List α}{ys:List β}{i:Nat}{q:α×β}(h:(xs.zip ys)[i]?=some q):xs[i]?=some q.1/\ys[i]?=some q.2:=by
 rw [List.getElem?_zip_eq_some] at h
 exact h
theorem zy {a b:Expr}{p pos:Pos}{k:Nat}{r:Rep α}{r':Rep β}{xs:List α}{ys:List β}(hm:X.mg "zip"=none)(ha:EV X a Γ (ae r) xs Γ1)(hb:EV X b Γ1 (ae r') ys Γ2)(hs:starEach [a,b] X.env=[(false,eval a X.env),(false,eval b X.env)]:=by rfl)(hs2:starEach [b] X.env=[(false,eval b X.env)]:=by rfl)(hg:Gl X "zip":=by rfl):
 IV X (.Tuple es k tp) (.Call (.Name "zip" p) [a,b] [] pos) Γ (fD r r') (xs.zip ys) Γ2:=by
 refine ⟨_,Bk hg hm (aR aJ (aR aJ bt hs2) (by rw [hs,hs2])) hs hs2,λσ H0 R0 H R E Rq q=>ha σ H0 R0 H R E _ λv H1 R1 E1 s1 e1=>hb σ H0 R0 H1 R1 E1 _ λv' H2 R2 E2 s2 e2=>?_⟩
 obtain ⟨a,vs,rfl,hp,pp,z⟩:=e1
 obtain ⟨b,vs',rfl,hp',pp',z'⟩:=e2
 have hp2:R2 a=_:=s2 _ _ hp
 refine ⟨a,b,vs,vs',rfl,aM.of (E2.sub _ _ hp2),aM.of (E2.sub _ _ hp'),q _ H2 R2 E2 (s1.trans s2) (by rw [List.length_zip];exact Nat.le_trans (Nat.min_le_left _ _) z) λH' R' sR sH i=>⟨λy hy=>?_,λhi=>?_⟩⟩
 ·have hq:aM X.K H' a vs:=aM.of (sH _ _ (sR _ _ hp2))
  have hq':aM X.K H' b vs':=aM.of (sH _ _ (sR _ _ hp'))
  obtain ⟨e1,e2⟩:=gH hy
  obtain ⟨v,hv,hr⟩:=cT pp e1
  obtain ⟨v',hv',hr'⟩:=cT pp' e2
  refine ⟨⟨vs,vs',v,v',hq,hq',hv,hv'⟩,λv2 H3 hyl=>?_⟩
  obtain ⟨p,x,x',hpn,rfl,rfl,hy,hy'⟩:=hyl
  have t1:=hy vs hq
  have t2:=hy' vs' hq'
  rw [hv] at t1
  rw [hv'] at t2
  cases t1
  cases t2
  have s3:ak R' (upd R' p (.tup [v,v'])):=ak.fresh (sH.free hpn) _
  exact ⟨upd R' p (.tup [v,v']),Ext.fresh sH hpn _,p,_,_,rfl,av,r.mono s3 (r.mono sR (r.mono s2 hr)),r'.mono s3 (r'.mono sR hr')⟩
 ·refine ⟨vs,vs',aM.of (sH _ _ (sR _ _ hp2)),aM.of (sH _ _ (sR _ _ hp')),?_⟩
  rw [List.length_zip] at hi
  rw [pp.length,pp'.length]
  omega
end
end Fc
namespace Fc.ZT
open PySem PySem.Spec PyProof.Rows
section
variable {prog:Program}{w:World}{A:Around}{E:Value->Shared->Prop}{s:Shared}
end
end Fc.ZT
namespace Fc
open PySem PySem.Spec L2
open PyProof.Rows hiding St
section
variable {X:Cx}{Γ Γ1 Γ2 Γ3:Ga}{α β γ δ:Type}{N:Ga->Prop}{T:RT}
theorem tup_ne {h:Heap}{l b:Addr}{its:Array Value}{o:Obj}(p:IsTup h l its)(e:h.get? b=some o)(hc:o.cls≠ .type "tuple"):l≠b:=λz=>by
 obtain ⟨u,e',c,_⟩:=p
 rw [z,e] at e'
 cases e'
 exact hc c
end
end Fc
set_option maxHeartbeats 1000000
namespace Fc.ZT
open PySem PySem.Spec PyProof.Rows
section
variable {prog:Program}{w:World}{A:Around}{E:Value->Shared->Prop}{s:Shared}
section
variable {z TI TO i1 i2 l1:Addr}{k1 k2:Nat}{xs:Array Value}{x a b:Value}{S1:Nat->Heap->Prop}{x2:Str}{t2:Tok}{y:Nat}
end
end
section
variable {prog:Program}{w:World}{A:Around}{E:Value->Shared->Prop}{s:Shared}
end
end Fc.ZT
namespace Fc
open PySem PySem.Spec L2
open PyProof.Rows hiding St
section
variable {X:Cx}{Γ Γ1 Γ2 Γ3:Ga}{α β γ δ:Type}{N:Ga->Prop}{T:RT}
end
end Fc
namespace HT
open PySem PySem.Spec PyProof.Rows
section
variable {prog:Program}{w:World}{A:Around}{E:Value->Shared->Prop}{s:Shared}
theorem j7 {t sl:Addr}{items:Array Value}{vl vu:Value}{lo hi:Option Int}{Q:Value->Shared->Prop}(ht:IsTup s.heap t items)(hs:s.heap.IsSliceOf sl vl vu .none)(pl:IsPart vl lo)(pu:IsPart vu hi)
 (hw:sIx items.size 0 lo=0/\sIx items.size items.size hi=items.size)
 (h:Q (.ref t) s):wpAny (model prog w) A (getItem (.ref t) (.ref sl)) Q E s:=by
 obtain ⟨os,hos,hcs,hds⟩:=id hs
 have hTs:s.TypeIs (.ref sl) "slice":=⟨os,hos,hcs⟩
 unfold getItem
 try with_reducible refine wpAny_holding ?_
 first | refine wpAny_bind (wpAny_pure ?_) | skip
 refine wpAny_bind (wpAny_sequenceKey ht.typeIs (by decide) ?_)
 refine wpAny_bind (wpAny_callSpecial?_slot (name:=Str.ofString "__getitem__") ht.typeIs PyProof.Rows.slot_tuple_getitem
  (wpAny_call_entry PyProof.Rows.slot_tuple_getitem ht.typeIs entry_tuple_getitem ?_ (args_tuple_getitem _ _)))
 show wpAny _ _ (Builtin.Tuple.tupleItemsOf (.ref t) >>=_) _ _ s
 refine wpAny_bind (tupleItemsOf_ ht ?_)
 refine wpAny_bind (wpAny_typeOf hTs ?_)
 rw [if_pos (by decide)]
 refine wpAny_bind (gQ hs pl pu ?_)
 have hyes:(((sIx items.size 0 lo:Nat):Int)==0&&(1:Int)==1&&(sIx items.size items.size hi - sIx items.size 0 lo)==items.size)=true:=by
  rw [hw.1,hw.2];simp
 show wpAny _ _ (if (((sIx items.size 0 lo:Nat):Int)==0&&(1:Int)==1&&(sIx items.size items.size hi - sIx items.size 0 lo)==items.size)=true then _ else _) _ _ s
 rw [if_pos hyes]
 refine wpAny_bind ?_
 unfold Builtin.Tuple.tupleIsExact
 refine wpAny_bind (wpAny_typeOf ht.typeIs (wpAny_pure ?_))
 rw [if_pos (by decide)]
 exact wpAny_bind (wpAny_rule (wpAny_pure ⟨_,rfl,wpAny_pure h⟩))
end
end HT
namespace Fc
open PySem PySem.Spec L2
open PyProof.Rows hiding St
section
variable {X:Cx}{Γ Γ1 Γ2 Γ3:Ga}{α β γ δ:Type}{N:Ga->Prop}{T:RT}
variable {a:Expr}{pos:Pos}
def Fm (K:PySem.W.Frag):V->Option Int->Option Int->Hp->VK->Prop:=λx lo hi H Q=>∃a xs,x= .ref a/\cW K H a xs/\
 (HT.sIx xs.length 0 lo=0/\HT.sIx xs.length xs.length hi=xs.length)/\Q x H
theorem Cg:uT X (Fm X.K):=by
 intro pins s σ H x v vl vu lo hi sl Q I rx hs pl pu h
 obtain ⟨a,xs,rfl,hx,hw,q⟩:=h
 cases rx
 obtain ⟨its,r,ht,hz⟩:=I.tuple hx
 have hlen:its.toArray.size=xs.length:=by rw [List.size_toArray];exact r.length.symm
 refine ⟨"tuple",_,PyProof.Rows.slot_tuple_getitem.lookup,ht.typeIs,?_⟩
 exact HT.j7 ht hs pl pu (by rw [hlen];exact hw) ⟨.ref a,H,I,rfl,q⟩
theorem AJ {lo hi:Option Expr}{p2:Pos}{xs:List PV}{l h:Option Int}(ha:EV X a Γ au (.tup xs) Γ)(hl:OV X lo Γ l)(hh:OV X hi Γ h)(hw:HT.sIx xs.length 0 l=0/\HT.sIx xs.length xs.length h=xs.length):EV X (.Subscript a (.Slice lo hi none p2) pos) Γ au (.tup xs) Γ:=by
 intro σ H0 R0 H R E Q q
 obtain ⟨tl,pl,kl⟩:=hl
 obtain ⟨th,ph,kh⟩:=hh
 refine eS (i5 Cg aJ pl ph) (ha σ H0 R0 H R E _ λv H1 R1 E1 s1 e1=>kl σ H0 R0 H1 R1 E1 _ λH2 R2 E2 s2=>kh σ H0 R0 H2 R2 E2 _ λH3 R3 E3 s3=>?_)
 cases au.mono (K:=X.K) (s2.trans s3) e1 with
 | @tup a' vs' _ hp pp=>
   exact ⟨_,_,rfl,cW.of (E3.sub _ _ hp),by rw [pp.pair.length];exact hw,q _ _ _ E3 (s1.trans (s2.trans s3)) (.tup hp pp)⟩
theorem z4 {lo hi:Option Expr}{p2:Pos}{xs:List PV}{l h:Option Int}(ha:EV X a Γ au (.tup xs) Γ)(hl:OV X lo Γ l)(hh:OV X hi Γ h):EV X (.Subscript a (.Slice lo hi none p2) pos) Γ au (.tup (cut xs l h)) Γ:=by
 by_cases hw:HT.sIx xs.length 0 l=0/\HT.sIx xs.length xs.length h=xs.length
 ·have e:cut xs l h=xs:=by
   unfold cut
   rw [hw.1,hw.2]
   simp
  rw [e]
  exact AJ ha hl hh hw
 ·exact BU ha hl hh hw
theorem mx {b:Expr}{x y:Str}(ha:EV X a Γ af x Γ1)(hb:EV X b Γ1 af y Γ2)(hz:x.length + y.length<=sizeLine):EV X (.BinOp a .Add b pos) Γ af (x++y) Γ2:=gj rK ha hb λR v u H Q e1 e2 q=>⟨x,y,e1,e2,hz,q _ rfl⟩
theorem x6 {p:Pos}{x:Str}(hm:X.mg "len"=none)(ha:EV X a Γ af x Γ1)(hz:x.length<=sizeLine)(hs:starEach [a] X.env=[(false,eval a X.env)]:=by rfl)(hg:Gl X "len":=by rfl):EV X (.Call (.Name "len" p) [a] [] pos) Γ ab (x.length:Int) Γ1:=by
 intro σ H0 R0 H R E Q q
 refine eS (dk oB hg hm PySem.boot_len (aR aJ bt hs) (by decide) (by decide) hs) (ha σ H0 R0 H R E _ λv H1 R1 E1 s1 e1=>?_)
 cases e1
 exact ⟨x,rfl,hz,q _ H1 R1 E1 s1 rfl⟩
theorem xY {H:Hp}{p:Addr}{a b:HO}:upd (upd H p a) p b=upd H p b:=by
 funext c
 by_cases h:c=p
 ·subst h;rw [av,av]
 ·rw [aw h,aw h,aw h]
end
end Fc
namespace K1
open PySem
abbrev top (i:Nat):Stmt:=PySem.Challenge.pw_fewcounters_k60_programs_let_by.main.body.getD i (.Pass ⟨0,0,0,0⟩)
abbrev y8:Nat:=16
abbrev wG:Nat:=17
abbrev yy:Nat:=18
abbrev oE:Nat:=19
abbrev lQ:Nat:=20
abbrev rS:Nat:=21
abbrev kG:Nat:=22
abbrev pP:Nat:=23
abbrev pO:Nat:=24
abbrev mZ:Nat:=25
abbrev tq:Nat:=26
abbrev n8:Nat:=27
abbrev rF:Nat:=28
abbrev pz:Nat:=29
abbrev tU:Nat:=32
abbrev lJ:Nat:=33
abbrev m3:Nat:=34
abbrev nh:Nat:=35
abbrev l6:Nat:=36
abbrev ky:Nat:=37
abbrev r9:Nat:=38
abbrev mz:Nat:=39
abbrev ng:Nat:=40
abbrev j5:Nat:=41
abbrev mv:Nat:=42
abbrev kn:Nat:=43
abbrev kU:Nat:=44
abbrev m7:Nat:=46
abbrev oo:Nat:=47
abbrev oJ:Nat:=48
abbrev lO:Nat:=49
abbrev ni:Nat:=50
abbrev nY:Nat:=51
abbrev nj:Nat:=52
abbrev m8:Nat:=53
abbrev nN:Nat:=54
abbrev zZ:Nat:=55
end K1
set_option maxHeartbeats 4000000
namespace Fc
open PySem PySem.Spec L2
open PyProof.Rows hiding St
section
variable {X:Cx}
def xv (i j:Int):Prop:=0 < j/\j<=1000000000000000000
theorem wR:cS X (binaryOp .FloorDiv) (rI xv λi j=>.int (i / j)):=qu λi j _ _ _ _ _ hc q=>by
 have h1:(0:Int) < j:=hc.1
 have h2:j<=1000000000000000000:=hc.2
 exact floordiv_int (by omega) (by rw [Int.fdiv_eq_ediv_of_nonneg i (by omega)];exact q) (.inl (PyProof.noPylong_of_log2 (Nat.lt_of_lt_of_le ((Nat.log2_lt (by omega)).mpr (show j.natAbs < 2 ^ 60 by omega)) (by decide))))
theorem bL {Γ:Ga}{N N1:Ga->Prop}{T:RT}{st:Stmt}{rest:List Stmt}(h1:W1 X st Γ N1 T)(h2:∀Γ',N1 Γ'->WS X rest Γ' N T):WS X (st::rest) Γ N T:=aj λσ H0 R0 H R E D dn dr=>h1 σ H0 R0 H R E D (λσ' H' R' Γ' E' s' n=>dn σ' H' R' Γ' E' s' (h2 Γ' n)) dr
theorem pk {Γ Γ1 Γ2:Ga}{a b:Expr}{pos:Pos}{x y:Int}(ha:EV X a Γ ab x Γ1)(hb:EV X b Γ1 ab y Γ2)(h:xv x y):EV X (.BinOp a .FloorDiv b pos) Γ ab (x / y) Γ2:=gj wR ha hb λR v u H Q e1 e2 q=>⟨x,y,e1,e2,h,q _ rfl⟩
theorem xl {x y:Int}(h0:0<=x)(h1:x < 2 ^ 63):IntMulOk x y:=.of_left (intBits_le_64 (by omega) (by omega))
end
end Fc
namespace K1
open PySem L2 Fc
open PySem.Spec hiding Row
open PyProof.Rows hiding St
open PySem.Builtin.Int (intBits)
structure cv (K:PySem.W.Frag) (mg:Str->Option Value):Prop where
 len:mg "len"=none
 min:mg "min"=none
 range:mg "range"=none
 int:mg "int"=none
 list:mg "list"=none
 zip:mg "zip"=none
 enumerate:mg "enumerate"=none
 reversed:mg "reversed"=none
 any:mg "any"=none
 all:mg "all"=none
def nk (c:Int):Nat->Int
 | 0=>c
 | n + 1=>nk c n / 2147483587
def ef (d k:Int):Int:=d % 10 ^ 18 + 48271 * (k + 1)
def jw (u k:Int):Int:=u * u % 2147483629 + 69621 * k
def nO (d k:Int):Int:=jw (ef d k) k * jw (ef d k) k % 2147483587
def oK (ns:List Int)(k:Int):Int:=nk (ns.getD (k / 8 % 63).toNat 0 / 10 ^ 18) (k % 8).toNat
def nq (ns:List Int)(k:Int):Bool:=decide (k / 8 % 63 < (ns.length:Int))&&decide (10 ^ 18<=ns.getD (k / 8 % 63).toNat 0)
def aB (ns:List Int)(k:Int):Int:=
 if nq ns k=true/\0 < oK ns k then oK ns k % 2147483587
 else nO (if 0 < ns.length then ns.getD (k % (ns.length:Int)).toNat 0 else 0) k
theorem qY (ns:List Int)(k:Int):0<=aB ns k/\aB ns k < 2147483587:=by
 unfold aB
 split
 ·exact ⟨Int.emod_nonneg _ (by decide),Int.emod_lt_of_pos _ (by decide)⟩
 ·unfold nO
  exact ⟨Int.emod_nonneg _ (by decide),Int.emod_lt_of_pos _ (by decide)⟩
section
variable {P:Program}{w:World}{K:PySem.W.Frag}{mg:Str->Option Value}{base:Heap}{f:Addr}{fd:FuncData}
abbrev qJ:Stmt:=top m7
abbrev EW:List Str:=["_law_script","_law_k","_law_at","_law_cell","_law_j","_law_number"]
theorem Bw:aE EW ["_law_script","_law_k"] (ag qJ):=⟨rfl,rfl,rfl,by decide +kernel,rfl,by decide +kernel,by decide +kernel⟩
structure sO (ns:List Int):Prop where
 l:ns.length<=63
 b:∀n∈ns,intBits n<=2 ^ 20
def EI:cX:=λK ps T=>∃(ns:List Int) (k:Int),ps=[⟨bp,ns⟩,⟨ab,k⟩]/\sO ns/\0<=k/\k<=1000000/\T=cF K ab (· =aB ns k)
theorem D5 (M:cv K mg)(F:bw K "_law_mixed" "_law_mixed" qJ f fd)(hm:mg "_law_mixed"=some (.ref f))(hb:Binds K fd ["_law_script","_law_k"] []):aG P w K mg base "_law_mixed" 1 (aP EI K):=by
 have nd:=Bw.nd
 refine bu F Bw hm hb (λqs T ⟨_,_,e,_⟩=>by rw [e];rfl) (λcdv A outer s H E qs T hr hS=>?_)
 obtain ⟨ns,k,rfl,hs,k0,k1,rfl⟩:=hS
 have h63:=hs.l
 change WS _ _ [.im bp ns,.im ab k,.no,.no,.no,.no] _ _
 have a0:=Int.emod_nonneg (k / 8) (show (63:Int)≠0 by decide)
 refine aj (aZ 2 (cn (ip (aa 1 rfl) ev_int ⟨by decide,by decide⟩) ev_int (by decide)) ?_)
 change WS _ _ [.im bp ns,.im ab k,.im ab (k / 8 % 63),.no,.no,.no] _ _
 have rest:∀e3 e4:Ent,¬(nq ns k=true/\0 < oK ns k)->WS (fc dI P w K mg base EW "_law_mixed" (ag qJ) f cdv A outer s H E).jf ((bM qJ).drop 2) [.im bp ns,.im ab k,.im ab (k / 8 % 63),e3,e4,.no] (λ_=>False) (cF K ab (· =aB ns k)):=by
  intro e3 e4 hn
  refine aj (aZ 3 ev_int ?_)
  change WS _ _ [.im bp ns,.im ab k,.im ab (k / 8 % 63),.im ab 0,e4,.no] _ _
  refine bL (N1:=λΓ=>Γ=[.im bp ns,.im ab k,.im ab (k / 8 % 63),.im ab (if 0 < ns.length then ns.getD (k % (ns.length:Int)).toNat 0 else 0),e4,.no]) (bq (aA gP (lK M.len (aa 0 rfl)) ev_int) (λh=>?_) (λh=>aT ?_)) ?_
  ·have hl:(0:Int) < ns.length:=of_decide_eq_true h
   have hmin:(if (ns.length:Int) < 63 then (ns.length:Int) else 63)=ns.length:=by
    by_cases q:(ns.length:Int) < 63
    ·rw [if_pos q]
    ·rw [if_neg q];omega
   have q0:=Int.emod_nonneg k (show (ns.length:Int)≠0 by omega)
   have q1:=Int.emod_lt_of_pos k hl
   refine ai (aZ 3 (nK (aa 0 rfl) (cn (aa 1 rfl) (EV.cast (yj M.min (ah ev_int (ah (lK M.len (aa 0 rfl)) ax))) hmin) hl) (aY 0 q0 q1)) ?_)
   rw [if_pos (by omega:0 < ns.length)];rfl
  ·have hl:¬(0:Int) < ns.length:=of_decide_eq_false h
   rw [if_neg (by omega)]
  rintro _ rfl
  have e:aB ns k=nO (if 0 < ns.length then ns.getD (k % (ns.length:Int)).toNat 0 else 0) k:=by unfold aB;rw [if_neg hn]
  rw [e]
  generalize (if 0 < ns.length then ns.getD (k % (ns.length:Int)).toNat 0 else 0)=d
  have u0:=Int.emod_nonneg d (show (10:Int) ^ 18≠0 by decide)
  have u1:=Int.emod_lt_of_pos d (show (0:Int) < 10 ^ 18 by decide)
  refine aj (aZ 5 (y:=ef d k) (bX (cn (aa 3 rfl) (oZ ev_int ev_int ⟨by decide,by decide,by decide⟩) (by decide)) (iA ev_int (bX (aa 1 rfl) ev_int) (jQ (by decide) (by decide)))) ?_)
  change WS _ _ [.im bp ns,.im ab k,.im ab (k / 8 % 63),.im ab d,e4,.im ab (ef d k)] _ _
  have n0:0<=ef d k:=by unfold ef;omega
  have n1:ef d k < 2 ^ 63:=by unfold ef;omega
  have m0:=Int.emod_nonneg (ef d k * ef d k) (show (2147483629:Int)≠0 by decide)
  have m1:=Int.emod_lt_of_pos (ef d k * ef d k) (show (0:Int) < 2147483629 by decide)
  refine aj (aZ 5 (y:=jw (ef d k) k) (bX (cn (iA (aa 5 rfl) (aa 5 rfl) (xl n0 n1)) ev_int (by decide)) (iA ev_int (aa 1 rfl) (jQ (by decide) (by decide)))) ?_)
  change WS _ _ [.im bp ns,.im ab k,.im ab (k / 8 % 63),.im ab d,e4,.im ab (jw (ef d k) k)] _ _
  have v0:0<=jw (ef d k) k:=by unfold jw;omega
  have v1:jw (ef d k) k < 2 ^ 63:=by unfold jw;omega
  exact ai (aW (cn (iA (aa 5 rfl) (aa 5 rfl) (xl v0 v1)) ev_int (by decide)) rfl)
 refine aj (bq (TW.tv (cC (aA jK (aa 2 rfl) (lK M.len (aa 0 rfl))) (λh=>c9 (aA FO (nK (aa 0 rfl) (aa 2 rfl) (aY 0 a0 (of_decide_eq_true h))) (oZ ev_int ev_int ⟨by decide,by decide,by decide⟩))))) (λh=>?_) (λh=>aT (rest _ _ (λ⟨q,_⟩=>by rw [show nq ns k=false from h] at q;cases q))))
 have hbig:nq ns k=true:=h
 obtain ⟨hl,_⟩:=Bool.and_eq_true_iff.mp hbig
 have hl:=of_decide_eq_true hl
 refine aj (aZ 3 (pk (nK (aa 0 rfl) (aa 2 rfl) (aY 0 a0 hl)) (oZ ev_int ev_int ⟨by decide,by decide,by decide⟩) ⟨by decide,by decide⟩) ?_)
 change WS _ _ [.im bp ns,.im ab k,.im ab (k / 8 % 63),.im ab (ns.getD (k / 8 % 63).toNat 0 / 10 ^ 18),.no,.no] _ _
 have j0:=Int.emod_nonneg k (show (8:Int)≠0 by decide)
 have j1:=Int.emod_lt_of_pos k (show (0:Int) < 8 by decide)
 refine bL (N1:=λΓ=>∃e4,Γ=[.im bp ns,.im ab k,.im ab (k / 8 % 63),.im ab (oK ns k),e4,.no]) (cj (λi Γ=>∃e4,Γ=[.im bp ns,.im ab k,.im ab (k / 8 % 63),.im ab (nk (ns.getD (k / 8 % 63).toNat 0 / 10 ^ 18) i),e4,.no]) (dR M.range (cn (aa 1 rfl) ev_int (by decide)) ⟨by omega,by omega⟩) (bg 4) ⟨_,rfl⟩ (λi j Γ _ hΓ=>?_) (λΓ hΓ=>?_)) ?_
 ·obtain ⟨e4,rfl⟩:=hΓ
  change WS _ _ [.im bp ns,.im ab k,.im ab (k / 8 % 63),.im ab (nk (ns.getD (k / 8 % 63).toNat 0 / 10 ^ 18) i),.im ab j,.no] _ _
  exact ai (aZ 3 (pk (aa 3 rfl) ev_int ⟨by decide,by decide⟩) ⟨_,rfl⟩)
 ·obtain ⟨e4,rfl⟩:=hΓ
  rw [bE]
  exact ⟨e4,rfl⟩
 rintro _ ⟨e4,rfl⟩
 refine ai (bq (aA gP (aa 3 rfl) ev_int) (λh=>?_) (λh=>aT (rest _ _ (λ⟨_,q⟩=>absurd q (of_decide_eq_false h)))))
 have h:0 < oK ns k:=of_decide_eq_true h
 exact ai (aW (cn (aa 3 rfl) ev_int (by decide)) (by unfold aB;rw [if_pos ⟨hbig,h⟩]))
abbrev aX:Rep (List Int ⊕ Int):=oP bp ab
abbrev aQ (ns:List Int)(k c:Int):List (List Int ⊕ Int):=[.inl ns,.inr k,.inr c]
abbrev xk:Stmt:=top oo
theorem Bo:aE ["_law_pen"] ["_law_pen"] (ag xk):=⟨rfl,rfl,rfl,by decide +kernel,rfl,by decide +kernel,by decide +kernel⟩
def pA:jC (List Int ⊕ Int):=λK xs ps T=>∃(ns:List Int) (k c:Int),xs=aQ ns k c/\ps=[]/\sO ns/\0<=k/\k < 1000000/\T=λxs'=>cF K ab λz=>xs'=aQ ns (k + 1) c/\z=aB ns (k + 1)
theorem Dw (CM:aG P w K mg base "_law_mixed" 1 (aP EI K))(F:bw K "_law_pull" "_law_pull" xk f fd)(hm:mg "_law_pull"=some (.ref f))(hb:Binds K fd ["_law_pen"] []):aG P w K mg base "_law_pull" 2 (d6 aX pA K):=by
 have nd:=Bo.nd
 refine kQ F Bo hm hb (λxs qs T ⟨_,_,_,_,e,_⟩=>by rw [e];rfl) (λcdv A outer s H E a xs qs T hr hS=>?_)
 obtain ⟨ns,k,c,rfl,rfl,hs,k0,k1,rfl⟩:=hS
 change WS _ _ [.ob (bQ a aX (aQ ns k c))] _ _
 refine aj (fu 0 (j:=1) (EV.inr (bX (EV.j9 (dO 0 ev_int rfl (y:=(Sum.inr k:List Int ⊕ Int)) rfl)) ev_int)) ev_int rfl rfl rfl ?_)
 change WS _ _ [.ob (bQ a aX (aQ ns (k + 1) c))] _ _
 exact ai (fP 0 (aI CM hr (ah (EV.ofl (dO 0 ev_int rfl (y:=(Sum.inl ns:List Int ⊕ Int)) rfl)) (ah (EV.j9 (dO 0 ev_int rfl (y:=(Sum.inr (k + 1):List Int ⊕ Int)) rfl)) ax)) ⟨ns,k + 1,rfl,hs,by omega,by omega,rfl⟩) rfl ⟨rfl,rfl⟩)
end
end K1
namespace Fc
open PySem PySem.Spec L2
open PyProof.Rows hiding St
def h9 (x:Str)(i:Nat):Str:=⟨#[x.cps.getD i 0]⟩
theorem sG {X:Cx}{Γ Γ1 Γ2:Ga}{a b:Expr}{pos:Pos}{x:Str}{i:Int}(ha:EV X a Γ af x Γ1)(hb:EV X b Γ1 ab i Γ2)(h0:0<=i)(h1:i < (x.length:Int))(hz:x.length<=sizeLine)(hs:dY b:=by exact λ_ _=>rfl):EV X (.Subscript a b pos) Γ af (h9 x i.toNat) Γ2:=by
 intro σ H0 R0 H R E Q q
 refine eS (hJ zX aJ aJ hs) (ha σ H0 R0 H R E _ λv H1 R1 E1 s1 e1=>hb σ H0 R0 H1 R1 E1 _ λu H2 R2 E2 s2 e2=>?_)
 cases e1
 cases e2
 refine ⟨x,i,x.cps.getD i.toNat 0,rfl,rfl,hz,?_,q _ H2 R2 E2 (s1.trans s2) rfl⟩
 have hl:x.cps.toList.length=x.length:=by simp [Str.length]
 rw [lA h0 (by omega),List.getElem?_eq_getElem (by omega)]
 have:i.toNat < x.cps.size:=by have:x.length=x.cps.size:=rfl;omega
 simp [Array.getD,this]
end Fc
namespace K1
open PySem L2 Fc
open PySem.Spec hiding Row
open PyProof.Rows hiding St
abbrev d7:Str:="abcdefghijklmnopqrstuvwxyz"
abbrev eh:List Str:=["part","end","do","call","if","else","while","leave","back"]
def jg (m:Int):Nat->Str
 | 0=>""
 | n + 1=>jg m n++h9 d7 ((m / 8 + (n:Int) * (m / 88)) % 26).toNat
def nameF (n:Int):Str:=
 if n % 4=0 then eh.getD (n / 4 % 9).toNat ""
 else if n % 4=1 then eh.getD (n / 4 % 9).toNat ""++h9 d7 (n / 4 / 9 % 26).toNat
 else jg (n / 4) (1 + n / 4 % 8).toNat
structure bK (x:Str):Prop where
 l1:1<=x.length
 l8:x.length<=8
 az:∀c∈x.cps.toList,97<=c/\c<=122
theorem len_app (x y:Str):(x++y).length=x.length + y.length:=by
 show (x.cps++y.cps).size=_
 rw [Array.size_append];rfl
theorem lY {x y:Str}{c:Nat}(h:c∈(x++y).cps.toList):c∈x.cps.toList∨c∈y.cps.toList:=by
 have e:(x++y).cps.toList=x.cps.toList++y.cps.toList:=by show (x.cps++y.cps).toList=_;simp
 rw [e] at h
 exact List.mem_append.mp h
theorem zT (i:Nat)(h:i < 26):97<=d7.cps.getD i 0/\d7.cps.getD i 0<=122:=by
 have:∀j:Fin 26,97<=d7.cps.getD j.val 0/\d7.cps.getD j.val 0<=122:=by decide +kernel
 exact this ⟨i,h⟩
theorem uq {i:Nat}(h:i < 26):∀c∈(h9 d7 i).cps.toList,97<=c/\c<=122:=by
 intro c hc
 have:c=d7.cps.getD i 0:=by simpa [h9] using hc
 rw [this];exact zT i h
theorem EH (x:Int):(x % 26).toNat < 26:=by
 have:=Int.emod_nonneg x (show (26:Int)≠0 by decide)
 have:=Int.emod_lt_of_pos x (show (0:Int) < 26 by decide)
 omega
theorem j3 (m:Int):∀n,(jg m n).length=n
 | 0=>rfl
 | n + 1=>by rw [jg,len_app,j3 m n];rfl
theorem sA (m:Int):∀n,∀c∈(jg m n).cps.toList,97<=c/\c<=122
 | 0,c,h=>by
   have e:(jg m 0).cps.toList=[]:=rfl
   rw [e] at h;cases h
 | n + 1,c,h=>by
   rcases lY h with z | z
   ·exact sA m n c z
   ·exact uq (EH _) c z
theorem uY (i:Nat)(h:i < 9):bK (eh.getD i "")/\(eh.getD i "").length<=5:=by
 have:∀j:Fin 9,(1<=(eh.getD j.val "").length/\(eh.getD j.val "").length<=5)/\∀c∈(eh.getD j.val "").cps.toList,97<=c/\c<=122:=by decide +kernel
 obtain ⟨⟨a,b⟩,c⟩:=this ⟨i,h⟩
 exact ⟨⟨a,Nat.le_trans b (by decide),c⟩,b⟩
theorem fw (n:Int):bK (nameF n):=by
 have q0:=Int.emod_nonneg (n / 4) (show (9:Int)≠0 by decide)
 have q1:=Int.emod_lt_of_pos (n / 4) (show (0:Int) < 9 by decide)
 have r0:=Int.emod_nonneg (n / 4) (show (8:Int)≠0 by decide)
 have r1:=Int.emod_lt_of_pos (n / 4) (show (0:Int) < 8 by decide)
 obtain ⟨w1,w2⟩:=uY (n / 4 % 9).toNat (by omega)
 unfold nameF
 split
 ·exact w1
 split
 ·refine ⟨?_,?_,λc hc=>?_⟩
  ·rw [len_app];have:=w1.l1;omega
  ·rw [len_app];show _ + 1<=8;omega
  ·rcases lY hc with z | z
   ·exact w1.az c z
   ·exact uq (EH _) c z
 ·exact ⟨by rw [j3];omega,by rw [j3];omega,sA _ _⟩
section
variable {P:Program}{w:World}{K:PySem.W.Frag}{mg:Str->Option Value}{base:Heap}{f:Addr}{fd:FuncData}
abbrev xa:Stmt:=top oJ
abbrev nNM:List Str:=["_law_number","_law_letters","_law_words_here","_law_way","_law_name_here","_law_k"]
theorem A5:aE nNM ["_law_number"] (ag xa):=⟨rfl,rfl,rfl,by decide +kernel,rfl,by decide +kernel,by decide +kernel⟩
def wZ:cX:=λK ps T=>∃n:Int,ps=[⟨ab,n⟩]/\0<=n/\n < 2147483587/\T=cF K af (· =nameF n)
theorem DX (M:cv K mg)(F:bw K "_law_name" "_law_name" xa f fd)(hm:mg "_law_name"=some (.ref f))(hb:Binds K fd ["_law_number"] []):aG P w K mg base "_law_name" 1 (aP wZ K):=by
 have nd:=A5.nd
 refine bu F A5 hm hb (λqs T ⟨_,e,_⟩=>by rw [e];rfl) (λcdv A outer s H E qs T hr hS=>?_)
 obtain ⟨n,rfl,n0,n1,rfl⟩:=hS
 have q0:=Int.emod_nonneg (n / 4) (show (9:Int)≠0 by decide)
 have q1:=Int.emod_lt_of_pos (n / 4) (show (0:Int) < 9 by decide)
 have r0:=Int.emod_nonneg (n / 4) (show (8:Int)≠0 by decide)
 have r1:=Int.emod_lt_of_pos (n / 4) (show (0:Int) < 8 by decide)
 have ll:d7.length=26:=by decide +kernel
 have lz:d7.length<=sizeLine:=by rw [ll];decide
 change WS _ _ [.im ab n,.no,.no,.no,.no,.no] _ _
 refine aj (aZ 1 (y:=d7) ar ?_)
 refine aj (aZ 2 (y:=eh) (aV.im (aL (r:=af) (aq ar (aq ar (aq ar (aq ar (aq ar (aq ar (aq ar (aq ar (aq ar aN))))))))) (by show 9<=sizeLine;decide))) ?_)
 refine aj (aZ 3 (cn (aa 0 rfl) ev_int (by decide)) ?_)
 refine aj (aZ 0 (ip (aa 0 rfl) ev_int ⟨by decide,by decide⟩) ?_)
 change WS _ _ [.im ab (n / 4),.im af d7,.im (ae af) eh,.im ab (n % 4),.no,.no] _ _
 have hw:cb eh (n / 4 % 9)=some (eh.getD (n / 4 % 9).toNat ""):=aY (xs:=eh) "" q0 (by show _ < ((9:Nat):Int);omega)
 refine aj (bq (aA iY (aa 3 rfl) ev_int) (λh=>?_) (λh=>aT ?_))
 ·have h:n % 4=0:=of_decide_eq_true h
  exact ai (aW (ba (aa 2 rfl) (cn (aa 0 rfl) ev_int (by decide)) hw) (by unfold nameF;rw [if_pos h]))
 have h0:¬n % 4=0:=of_decide_eq_false h
 have wl:=(uY (n / 4 % 9).toNat (by omega)).2
 have s0:=Int.emod_nonneg (n / 4 / 9) (show (26:Int)≠0 by decide)
 have s1:=Int.emod_lt_of_pos (n / 4 / 9) (show (0:Int) < 26 by decide)
 refine aj (bq (aA iY (aa 3 rfl) ev_int) (λh=>?_) (λh=>aT ?_))
 ·have h:n % 4=1:=of_decide_eq_true h
  exact ai (aW (mx (ba (aa 2 rfl) (cn (aa 0 rfl) ev_int (by decide)) hw) (sG (aa 1 rfl) (cn (ip (aa 0 rfl) ev_int ⟨by decide,by decide⟩) ev_int (by decide)) s0 (by rw [ll];exact s1) lz) (Nat.le_trans (show _<=6 by show _ + 1<=6;omega) (by decide))) (by unfold nameF;rw [if_neg h0,if_pos h]))
 have h1:¬n % 4=1:=of_decide_eq_false h
 refine aj (aZ 4 (y:=jg (n / 4) 0) ar ?_)
 change WS _ _ [.im ab (n / 4),.im af d7,.im (ae af) eh,.im ab (n % 4),.im af (jg (n / 4) 0),.no] _ _
 refine bL (N1:=λΓ=>∃e5,Γ=[.im ab (n / 4),.im af d7,.im (ae af) eh,.im ab (n % 4),.im af (nameF n),e5]) (cj (λi Γ=>∃e5,Γ=[.im ab (n / 4),.im af d7,.im (ae af) eh,.im ab (n % 4),.im af (jg (n / 4) i),e5]) (dR M.range (bX ev_int (cn (aa 0 rfl) ev_int (by decide))) ⟨by omega,by omega⟩) (bg 5) ⟨_,rfl⟩ (λi j Γ hj hΓ=>?_) (λΓ hΓ=>?_)) ?_
 ·obtain ⟨e5,rfl⟩:=hΓ
  obtain ⟨jl,ej⟩:=fb hj
  obtain rfl:j=(i:Int):=by omega
  have t0:=Int.emod_nonneg (n / 4 / 8 + (i:Int) * (n / 4 / 88)) (show (26:Int)≠0 by decide)
  have t1:=Int.emod_lt_of_pos (n / 4 / 8 + (i:Int) * (n / 4 / 88)) (show (0:Int) < 26 by decide)
  change WS _ _ [.im ab (n / 4),.im af d7,.im (ae af) eh,.im ab (n % 4),.im af (jg (n / 4) i),.im ab (i:Int)] _ _
  exact ai (aZ 4 (y:=jg (n / 4) (i + 1)) (mx (aa 4 rfl) (sG (aa 1 rfl) (cn (bX (ip (aa 0 rfl) ev_int ⟨by decide,by decide⟩) (iA (aa 5 rfl) (ip (aa 0 rfl) ev_int ⟨by decide,by decide⟩) (jQ (by omega) (by omega)))) ev_int (by decide)) t0 (by rw [ll];exact t1) lz) (by rw [j3];exact Nat.le_trans (show _<=20 by show _ + 1<=20;omega) (by decide))) ⟨_,rfl⟩)
 ·obtain ⟨e5,rfl⟩:=hΓ
  rw [bE]
  refine ⟨e5,?_⟩
  have e:nameF n=jg (n / 4) (1 + n / 4 % 8).toNat:=by unfold nameF;rw [if_neg h0,if_neg h1]
  rw [e]
 rintro _ ⟨e5,rfl⟩
 exact ai (aW (aa 4 rfl) rfl)
end
inductive Th
 | doo (x:Str)
 | call (j:Int)
 | ifs (x:Str) (a b:List Th)
 | whil (x:Str) (a:List Th)
 | leave
 | back
mutual
def du:Th->PV
 | .doo x=>.lst [.str "do",.str x]
 | .call j=>.lst [.str "call",.int j]
 | .ifs x a b=>.lst [.str "if",.str x,.lst (a9 a),.lst (a9 b)]
 | .whil x a=>.lst [.str "while",.str x,.lst (a9 a)]
 | .leave=>.lst [.str "leave"]
 | .back=>.lst [.str "back"]
def a9:List Th->List PV
 | []=>[]
 | t::ts=>du t::a9 ts
end
theorem dA:∀ts:List Th,a9 ts=ts.map du
 | []=>by rw [a9];rfl
 | t::ts=>by rw [a9,dA ts];rfl
mutual
def cZ:Th->Bool
 | .leave=>false
 | .back=>false
 | .ifs _ a b=>cq a ||cq b
 | _=>true
def cq:List Th->Bool
 | []=>true
 | t::ts=>cZ t&&cq ts
end
mutual
def eZ:Th->Nat
 | .ifs _ a b=>1 + max (dh a) (dh b)
 | .whil _ a=>1 + dh a
 | _=>0
def dh:List Th->Nat
 | []=>0
 | t::ts=>max (eZ t) (dh ts)
end
mutual
def cG:Th->Nat
 | .doo _=>1
 | .call _=>1
 | .ifs _ a b=>2 + bO a + bO b
 | .whil _ a=>2 + bO a
 | _=>0
def bO:List Th->Nat
 | []=>0
 | t::ts=>cG t + bO ts
end
section
variable {ns calls:List Int}{n b:Nat}
theorem gE:∀a b:List Th,bO (a++b)=bO a + bO b
 | [],b=>by rw [bO];simp
 | t::a,b=>by rw [List.cons_append,bO,bO,gE a b];omega
theorem iN:∀a b:List Th,dh (a++b)=max (dh a) (dh b)
 | [],b=>by rw [dh];simp
 | t::a,b=>by rw [List.cons_append,dh,dh,iN a b];omega
abbrev Pn:=Int×Int
def thG (ns calls:List Int)(sub:Option (Int->Pn->List Th×Pn))(loops:Int)(s:Pn):Th×Pn:=
 if aB ns (s.1 + 1) % 12=0/\0 < loops then (.leave,(s.1 + 2,s.2))
 else if aB ns (s.1 + 1) % 12=1 then (.back,(s.1 + 2,s.2))
 else if 9 < aB ns (s.1 + 1) % 12/\0 < calls.length then (.call (calls.getD (aB ns (s.1 + 3) % (calls.length:Int)).toNat 0),(s.1 + 3,s.2 - 1))
 else match sub with
  | some L=>
    if (3 < aB ns (s.1 + 1) % 12/\aB ns (s.1 + 1) % 12 < 7)/\1 < s.2 then (.ifs (nameF (aB ns (s.1 + 2))) (L loops (s.1 + 2,s.2 - 2)).1 (L loops (L loops (s.1 + 2,s.2 - 2)).2).1,(L loops (L loops (s.1 + 2,s.2 - 2)).2).2)
    else if (6 < aB ns (s.1 + 1) % 12/\aB ns (s.1 + 1) % 12 < 10)/\1 < s.2 then (.whil (nameF (aB ns (s.1 + 2))) (L (loops + 1) (s.1 + 2,s.2 - 2)).1,(L (loops + 1) (s.1 + 2,s.2 - 2)).2)
    else (.doo (nameF (aB ns (s.1 + 2))),(s.1 + 2,s.2 - 1))
  | none=>(.doo (nameF (aB ns (s.1 + 2))),(s.1 + 2,s.2 - 1))
def kK:Th->Bool
 | .back=>true
 | _=>false
def e8 (ns calls:List Int)(sub:Option (Int->Pn->List Th×Pn))(tp:Bool)(loops:Int)(x:List Th×Pn):List Th×Pn:=
 if 0 < x.2.2/\cq x.1=true then
  if tp=true/\x.1.length=0/\kK (thG ns calls sub loops x.2).1=true then (x.1++[.doo "back"],((thG ns calls sub loops x.2).2.1,(thG ns calls sub loops x.2).2.2 - 1))
  else (x.1++[(thG ns calls sub loops x.2).1],(thG ns calls sub loops x.2).2)
 else x
def itG {α:Type}(f:α->α):Nat->α->α
 | 0,x=>x
 | n + 1,x=>f (itG f n x)
def dm (ns:List Int)(tp:Bool)(k:Int):Nat:=(aB ns (k + 1) % 4 + 2 * (if tp then 1 else 0)).toNat
def genL (ns calls:List Int):Nat->Bool->Int->Pn->List Th×Pn
 | 0,tp,loops,s=>itG (e8 ns calls none tp loops) (dm ns tp s.1) ([],(s.1 + 1,s.2))
 | n + 1,tp,loops,s=>itG (e8 ns calls (some (genL ns calls n false)) tp loops) (dm ns tp s.1) ([],(s.1 + 1,s.2))
structure xt (n b:Nat) (s:Pn) (r:List Th×Pn):Prop where
 dp:dh r.1<=n
 c:(bO r.1:Int) + r.2.2=s.2/\0<=r.2.2
 k:s.1<=r.2.1/\r.2.1<=s.1 + b
 l:r.1.length<=5
def xb (n b:Nat)(L:Int->Pn->List Th×Pn):Prop:=∀lp s,0<=s.2->xt n b s (L lp s)
theorem qS (ns:List Int)(tp:Bool)(k:Int):dm ns tp k<=5:=by
 unfold dm
 have a:=Int.emod_nonneg (aB ns (k + 1)) (show (4:Int)≠0 by decide)
 have b:=Int.emod_lt_of_pos (aB ns (k + 1)) (show (0:Int) < 4 by decide)
 cases tp<;>simp<;>omega
structure mC (n:Nat) (b:Nat) (s:Pn) (r:Th×Pn):Prop where
 dp:eZ r.1<=n
 c:(cG r.1:Int) + r.2.2=s.2/\0<=r.2.2
 k:s.1<=r.2.1/\r.2.1<=s.1 + b
theorem pj (ns calls:List Int)(loops:Int)(s:Pn)(h:0 < s.2):mC 0 3 s (thG ns calls none loops s):=by
 unfold thG
 split
 ·exact ⟨by simp [eZ],⟨by simp [cG],by show 0<=s.2;omega⟩,by constructor<;>simp<;>omega⟩
 split
 ·exact ⟨by simp [eZ],⟨by simp [cG],by show 0<=s.2;omega⟩,by constructor<;>simp<;>omega⟩
 split
 ·exact ⟨by simp [eZ],⟨by simp [cG];omega,by show 0<=s.2 - 1;omega⟩,by constructor<;>simp<;>omega⟩
 ·exact ⟨by simp [eZ],⟨by simp [cG];omega,by show 0<=s.2 - 1;omega⟩,by constructor<;>simp<;>omega⟩
theorem ou {L:Int->Pn->List Th×Pn}(hL:xb n b L)(loops:Int)(s:Pn)(h:0 < s.2):mC (n + 1) (3 + 2 * b) s (thG ns calls (some L) loops s):=by
 unfold thG
 split
 ·exact ⟨by simp [eZ],⟨by simp [cG],by show 0<=s.2;omega⟩,by constructor<;>simp<;>omega⟩
 split
 ·exact ⟨by simp [eZ],⟨by simp [cG],by show 0<=s.2;omega⟩,by constructor<;>simp<;>omega⟩
 split
 ·exact ⟨by simp [eZ],⟨by simp [cG];omega,by show 0<=s.2 - 1;omega⟩,by constructor<;>simp<;>omega⟩
 dsimp only
 split
 ·rename_i hh
  have c2:1 < s.2:=hh.2
  obtain ⟨d1,⟨a1,a2⟩,k1,_⟩:=hL loops (s.1 + 2,s.2 - 2) (by show 0<=s.2 - 2;omega)
  obtain ⟨d2,⟨a3,a4⟩,k2,_⟩:=hL loops (L loops (s.1 + 2,s.2 - 2)).2 a2
  dsimp only at a1 k1
  refine ⟨by simp only [eZ];omega,⟨by simp only [cG];push_cast;omega,a4⟩,?_⟩
  constructor
  ·exact Int.le_trans (by omega) (Int.le_trans k1.1 k2.1)
  ·show (L loops (L loops (s.1 + 2,s.2 - 2)).2).2.1<=s.1 + ((3 + 2 * b:Nat):Int)
   have:=k2.2
   have:=k1.2
   push_cast
   omega
 split
 ·rename_i _ hh
  have c2:1 < s.2:=hh.2
  obtain ⟨d1,⟨a1,a2⟩,k1,_⟩:=hL (loops + 1) (s.1 + 2,s.2 - 2) (by show 0<=s.2 - 2;omega)
  dsimp only at a1 k1
  refine ⟨by simp only [eZ];omega,⟨by simp only [cG];push_cast;omega,a2⟩,?_⟩
  constructor
  ·exact Int.le_trans (by omega) k1.1
  ·show (L (loops + 1) (s.1 + 2,s.2 - 2)).2.1<=s.1 + ((3 + 2 * b:Nat):Int)
   have:=k1.2
   push_cast
   omega
 ·exact ⟨by simp [eZ],⟨by simp [cG];omega,by show 0<=s.2 - 1;omega⟩,by constructor<;>simp<;>omega⟩
structure lu (n b i:Nat) (k0 c0:Int) (x:List Th×Pn):Prop where
 dp:dh x.1<=n
 c:(bO x.1:Int) + x.2.2=c0/\0<=x.2.2
 k:k0<=x.2.1/\x.2.1<=k0 + b * i
 l:x.1.length<=i
theorem lu.step {i:Nat}{k0 c0:Int}{x:List Th×Pn}{sub:Option (Int->Pn->List Th×Pn)}{tp:Bool}{loops:Int}(h:lu n b i k0 c0 x)(ht:0 < x.2.2->mC n b x.2 (thG ns calls sub loops x.2))(hb:1<=b):lu n b (i + 1) k0 c0 (e8 ns calls sub tp loops x):=by
 have hm:((b * (i + 1):Nat):Int)=(b * i:Nat) + b:=by push_cast;rw [Int.mul_add];omega
 have hk:=h.k
 have hc:=h.c
 have hl:=h.l
 have hd:=h.dp
 unfold e8
 split
 ·rename_i hh
  have t:=ht hh.1
  have tk:=t.k
  have tc:=t.c
  split
  ·rename_i h2
   have hbk:(thG ns calls sub loops x.2).1= .back:=by
    have:=h2.2.2
    cases e:(thG ns calls sub loops x.2).1<;>rw [e] at this<;>first | rfl | cases this
   rw [hbk] at tc
   have hrw:(cG .back:Int)=0:=by simp [cG]
   rw [hrw] at tc
   refine ⟨?_,⟨?_,?_⟩,⟨?_,?_⟩,?_⟩
   ·rw [iN];simp [dh,eZ];exact hd
   ·rw [gE];simp [bO,cG];omega
   ·show 0<=(thG ns calls sub loops x.2).2.2 - 1
    have:=hh.1
    omega
   ·exact Int.le_trans hk.1 tk.1
   ·show (thG ns calls sub loops x.2).2.1<=k0 + ((b * (i + 1):Nat):Int)
    have:=tk.2;have:=hk.2
    rw [hm];push_cast at *;omega
   ·simp;omega
  ·refine ⟨?_,⟨?_,tc.2⟩,⟨?_,?_⟩,?_⟩
   ·rw [iN];have:=t.dp;simp [dh];omega
   ·rw [gE];simp [bO];omega
   ·exact Int.le_trans hk.1 tk.1
   ·show (thG ns calls sub loops x.2).2.1<=k0 + ((b * (i + 1):Nat):Int)
    have:=tk.2;have:=hk.2
    rw [hm];push_cast at *;omega
   ·simp;omega
 ·refine ⟨hd,hc,⟨hk.1,?_⟩,by omega⟩
  have:=hk.2
  show x.2.1<=k0 + ((b * (i + 1):Nat):Int)
  rw [hm];push_cast at *;omega
def g8:Nat->Nat
 | 0=>16
 | n + 1=>1 + 5 * (3 + 2 * g8 n)
theorem om {ns calls:List Int}{sub:Option (Int->Pn->List Th×Pn)}{n b:Nat}(hb:1<=b)(hT:∀(lp:Int) (s:Pn),0 < s.2->mC n b s (thG ns calls sub lp s))(tp:Bool)(lp:Int)(s:Pn)(hs:0<=s.2):∀m,lu n b m (s.1 + 1) s.2 (itG (e8 ns calls sub tp lp) m ([],(s.1 + 1,s.2)))
 | 0=>⟨by simp [itG,dh],⟨by simp [itG,bO],hs⟩,⟨Int.le_refl _,by simp [itG]⟩,by simp [itG]⟩
 | m + 1=>lu.step (om hb hT tp lp s hs m) (λh=>hT lp _ h) hb
theorem t7 {sub:Option (Int->Pn->List Th×Pn)}(hb:1<=b)(hT:∀(lp:Int) (s:Pn),0 < s.2->mC n b s (thG ns calls sub lp s))(tp:Bool)(lp:Int)(s:Pn)(hs:0<=s.2):xt n (1 + 5 * b) s (itG (e8 ns calls sub tp lp) (dm ns tp s.1) ([],(s.1 + 1,s.2))):=by
 have h:=om hb hT tp lp s hs (dm ns tp s.1)
 have hm:=qS ns tp s.1
 have hmul:b * dm ns tp s.1<=b * 5:=Nat.mul_le_mul_left b hm
 refine ⟨h.dp,h.c,⟨by have:=h.k.1;omega,?_⟩,Nat.le_trans h.l hm⟩
 have:=h.k.2
 omega
theorem fU (ns calls:List Int):∀(n:Nat) (tp:Bool),xb n (g8 n) (genL ns calls n tp)
 | 0,tp=>λlp s hs=>t7 (b:=3) (by decide) (λlp s h=>pj ns calls lp s h) tp lp s hs
 | n + 1,tp=>λlp s hs=>t7 (b:=3 + 2 * g8 n) (by omega) (λlp s h=>ou (fU ns calls n false) lp s h) tp lp s hs
def bZ:Th->Str
 | .doo _=>"do"
 | .call _=>"call"
 | .ifs _ _ _=>"if"
 | .whil _ _=>"while"
 | .leave=>"leave"
 | .back=>"back"
def fW:Th->List PV
 | .doo x=>[.str "do",.str x]
 | .call j=>[.str "call",.int j]
 | .ifs x a b=>[.str "if",.str x,.lst (a9 a),.lst (a9 b)]
 | .whil x a=>[.str "while",.str x,.lst (a9 a)]
 | .leave=>[.str "leave"]
 | .back=>[.str "back"]
theorem fN (t:Th):du t= .lst (fW t):=by cases t<;>rw [du]<;>rfl
theorem B8 (t:Th):cb (fW t) 0=some (.str (bZ t)):=by cases t<;>rfl
end
section
variable {X:Cx}{Γ Γ1:Ga}
theorem fF {a:Expr}{j:Nat}{p1 pos:Pos}{t:Th}(h:EV X a Γ au (du t) Γ1):EV X (.Subscript a (.Constant (.int 0) j p1) pos) Γ af (bZ t) Γ1:=EV.sP (ba (EV.lP (by rw [fN] at h;exact h)) ev_int (B8 t))
theorem jI {a:Expr}{j:Nat}{p1 pos:Pos}{t:Th}{i:Int}{xs:List PV}(h:EV X a Γ au (du t) Γ1)(hx:cb (fW t) i=some (.lst xs)):EV X (.Subscript a (.Constant (.int i) j p1) pos) Γ (ae au) xs Γ1:=EV.lP (ba (EV.lP (by rw [fN] at h;exact h)) ev_int hx)
end
section
variable {P:Program}{w:World}{K:PySem.W.Frag}{mg:Str->Option Value}{base:Heap}{f:Addr}{fd:FuncData}
abbrev xn:Stmt:=top lO
abbrev nPA:List Str:=["_law_items","_law_one"]
theorem wM:aE nPA ["_law_items"] (ag xn):=⟨rfl,rfl,rfl,by decide +kernel,rfl,by decide +kernel,by decide +kernel⟩
def vb (n:Nat):cX:=λK ps T=>∃ts:List Th,ps=[⟨ae au,a9 ts⟩]/\dh ts < n/\T=cF K cx (· =cq ts)
theorem vz (t:Th):(bZ t="leave"∨bZ t="back")->cZ t=false:=by
 intro h
 cases t<;>simp [bZ] at h<;>first | (exfalso;revert h;decide) | simp [cZ]
theorem nA {t:Th}:∀{ts:List Th},t∈ts->eZ t<=dh ts
 | s::ts,h=>by
   rw [dh]
   rcases List.mem_cons.mp h with rfl | h
   ·omega
   ·have:=nA h;omega
theorem C6 (F:bw K "_law_passes" "_law_passes" xn f fd)(hm:mg "_law_passes"=some (.ref f))(hb:Binds K fd ["_law_items"] []):∀n:Nat,aG P w K mg base "_law_passes" (n + 1) (aP (vb n) K):=by
 intro n
 have nd:=wM.nd
 induction n with
 | zero=>
   refine bu F wM hm hb (λqs T ⟨_,e,_⟩=>by rw [e];rfl) (λcdv A outer s H E qs T hr hS=>?_)
   obtain ⟨ts,_,h,_⟩:=hS
   exact absurd h (Nat.not_lt_zero _)
 | succ n ih=>
   refine bu F wM hm hb (λqs T ⟨_,e,_⟩=>by rw [e];rfl) (λcdv A outer s H E qs T hr hS=>?_)
   obtain ⟨ts,rfl,hd,rfl⟩:=hS
   change WS _ _ [.im (ae au) (a9 ts),.no] _ _
   refine aj (cj (r:=au) (λi Γ=>∃e1,Γ=[.im (ae au) (a9 ts),e1]/\cq ts=cq (ts.drop i)) (cM (aa 0 rfl)) (bg 1) ⟨_,rfl,rfl⟩ (λi x Γ hx hΓ=>?_) (λΓ hΓ=>?_))
   ·obtain ⟨e1,rfl,hp⟩:=hΓ
    rw [dA,List.getElem?_map] at hx
    obtain ⟨t,ht,rfl⟩:=Option.map_eq_some_iff.mp hx
    have hdr:ts.drop i=t::ts.drop (i + 1):=by
     obtain ⟨h1,h2⟩:=List.getElem?_eq_some_iff.mp ht
     rw [List.drop_eq_getElem_cons h1,h2]
    rw [hdr,cq] at hp
    have hdt:=nA (List.mem_of_getElem? ht)
    change WS _ _ [.im (ae au) (a9 ts),.im au (du t)] _ _
    refine aj (bq (TW.tv (wX (aA bS (fF (aa 1 rfl)) ar) (λ_=>tX (aA bS (fF (aa 1 rfl)) ar)))) (λh=>?_) (λh=>aT ?_))
    ·have h:bZ t="leave"∨bZ t="back":=by simpa using h
     exact ai (aW jW (by rw [hp,vz t h];rfl))
    ·have h:¬(bZ t="leave"∨bZ t="back"):=by simpa using h
     by_cases hif:∃x a b,t= .ifs x a b
     ·obtain ⟨x,a,b,rfl⟩:=hif
      have hab:dh a < n/\dh b < n:=by rw [eZ] at hdt;omega
      refine ai (bq (TW.tv (cC (aA bS (fF (aa 1 rfl)) ar) (λ_=>cC (jz (gz (aI ih hr (ah (jI (aa 1 rfl) (xs:=a9 a) rfl) ax) ⟨a,rfl,hab.1,rfl⟩))) (λ_=>c9 (jz (gz (aI ih hr (ah (jI (aa 1 rfl) (xs:=a9 b) rfl) ax) ⟨b,rfl,hab.2,rfl⟩))))))) (λh=>?_) (λh=>aT ⟨_,rfl,?_⟩))
      ·have h:cq a=false/\cq b=false:=by simpa [bZ] using h
       exact ai (aW jW (by rw [hp,cZ,h.1,h.2];rfl))
      ·have h:cq a=false->cq b=true:=by simpa [bZ] using h
       rw [hp,cZ]
       cases ea:cq a with
       | true=>simp
       | false=>rw [h ea];simp
     ·have hk:decide (bZ t="if")=false:=by cases t<;>first | rfl | exact absurd ⟨_,_,_,rfl⟩ hif
      have hpt:cZ t=true:=by cases t<;>first | (simp [cZ];done) | exact absurd ⟨_,_,_,rfl⟩ hif | exact absurd (.inl rfl) h | exact absurd (.inr rfl) h
      refine ai (bq (TW.tv (cC (y:=true) (aA bS (fF (aa 1 rfl)) ar) (λh=>absurd (hk.symm.trans h) (by decide)))) (λh=>?_) (λh=>aT ⟨_,rfl,?_⟩))
      ·rw [hk] at h;cases h
      ·rw [hp,hpt];rfl
   ·obtain ⟨e1,rfl,hp⟩:=hΓ
    rw [show (a9 ts).length=ts.length by rw [dA,List.length_map],List.drop_length,cq] at hp
    exact ai (aW jW hp.symm)
end
def cL (ns calls:List Int):Nat->Option (Int->Pn->List Th×Pn)
 | 0=>none
 | n + 1=>some (genL ns calls n false)
theorem iC (ns calls:List Int)(n:Nat)(tp:Bool)(loops:Int)(s:Pn):genL ns calls n tp loops s=itG (e8 ns calls (cL ns calls n) tp loops) (dm ns tp s.1) ([],(s.1 + 1,s.2)):=by cases n<;>rfl
def bT:Nat->Nat
 | 0=>3
 | n + 1=>3 + 2 * g8 n
theorem xw (n:Nat):3<=bT n:=by cases n<;>simp [bT]
structure iZ (ns calls:List Int) (n b:Nat) (k c:Int):Prop where
 s:sO ns
 k0:0<=k
 k1:k + (b:Int)<=900000
 c0:0<=c
 c1:c<=100
 l:calls.length<=100
 n4:n<=4
abbrev BZ (n:Nat)(loops:Int)(calls:List Int):List Pk:=[⟨ab,4 - (n:Int)⟩,⟨ab,loops⟩,⟨ae ab,calls⟩]
def w6 (n:Nat):jC (List Int ⊕ Int):=λK xs ps T=>∃(ns calls:List Int) (k c loops:Int),xs=aQ ns k c/\ps=BZ n loops calls/\iZ ns calls n (bT n) k c/\0 < c/\T=λxs'=>cF K au λy=>xs'=aQ ns (thG ns calls (cL ns calls n) loops (k,c)).2.1 (thG ns calls (cL ns calls n) loops (k,c)).2.2/\y=du (thG ns calls (cL ns calls n) loops (k,c)).1
def AI (n:Nat):jC (List Int ⊕ Int):=λK xs ps T=>∃(ns calls:List Int) (k c loops:Int),xs=aQ ns k c/\ps=BZ n loops calls/\iZ ns calls n (g8 n) k c/\T=λxs'=>cF K (ae au) λy=>xs'=aQ ns (genL ns calls n (decide (n=4)) loops (k,c)).2.1 (genL ns calls n (decide (n=4)) loops (k,c)).2.2/\y=a9 (genL ns calls n (decide (n=4)) loops (k,c)).1
section
variable {ns calls:List Int}{sub:Option (Int->Pn->List Th×Pn)}{L:Int->Pn->List Th×Pn}{loops k c:Int}
abbrev dS (ns:List Int)(k:Int):Int:=aB ns (k + 1) % 12
abbrev C0 (ns:List Int)(k loops:Int):Prop:=dS ns k=0/\0 < loops
abbrev C2 (ns calls:List Int)(k:Int):Prop:=9 < dS ns k/\0 < calls.length
abbrev C3 (ns:List Int)(k c:Int):Prop:=(3 < dS ns k/\dS ns k < 7)/\1 < c
abbrev C4 (ns:List Int)(k c:Int):Prop:=(6 < dS ns k/\dS ns k < 10)/\1 < c
theorem sN (h:C0 ns k loops):thG ns calls sub loops (k,c)=(.leave,(k + 2,c)):=if_pos h
theorem vU (h0:¬C0 ns k loops)(h:dS ns k=1):thG ns calls sub loops (k,c)=(.back,(k + 2,c)):=by
 unfold thG;rw [if_neg h0,if_pos h]
theorem vv (h0:¬C0 ns k loops)(h1:¬dS ns k=1)(h:C2 ns calls k):thG ns calls sub loops (k,c)=(.call (calls.getD (aB ns (k + 3) % (calls.length:Int)).toNat 0),(k + 3,c - 1)):=by
 unfold thG;rw [if_neg h0,if_neg h1,if_pos h]
theorem Bd (h0:¬C0 ns k loops)(h1:¬dS ns k=1)(h2:¬C2 ns calls k)(h:C3 ns k c):thG ns calls (some L) loops (k,c)=(.ifs (nameF (aB ns (k + 2))) (L loops (k + 2,c - 2)).1 (L loops (L loops (k + 2,c - 2)).2).1,(L loops (L loops (k + 2,c - 2)).2).2):=by
 unfold thG;rw [if_neg h0,if_neg h1,if_neg h2];dsimp only;rw [if_pos h]
theorem BV (h0:¬C0 ns k loops)(h1:¬dS ns k=1)(h2:¬C2 ns calls k)(h3:¬C3 ns k c)(h:C4 ns k c):thG ns calls (some L) loops (k,c)=(.whil (nameF (aB ns (k + 2))) (L (loops + 1) (k + 2,c - 2)).1,(L (loops + 1) (k + 2,c - 2)).2):=by
 unfold thG;rw [if_neg h0,if_neg h1,if_neg h2];dsimp only;rw [if_neg h3,if_pos h]
theorem BI (h0:¬C0 ns k loops)(h1:¬dS ns k=1)(h2:¬C2 ns calls k)(h:∀L,sub=some L->¬C3 ns k c/\¬C4 ns k c):thG ns calls sub loops (k,c)=(.doo (nameF (aB ns (k + 2))),(k + 2,c - 1)):=by
 unfold thG;rw [if_neg h0,if_neg h1,if_neg h2]
 cases sub with
 | none=>rfl
 | some L=>dsimp only;rw [if_neg (h L rfl).1,if_neg (h L rfl).2]
end
section
variable {P:Program}{w:World}{K:PySem.W.Frag}{mg:Str->Option Value}{base:Heap}{f:Addr}{fd:FuncData}
abbrev uZ:Stmt:=top ni
abbrev nTH:List Str:=["_law_pen","_law_depth","_law_loops","_law_calls","_law_way","_law_name_here","_law_first"]
abbrev ow:List Str:=["_law_pen","_law_depth","_law_loops","_law_calls"]
theorem zV:aE nTH ow (ag uZ):=⟨rfl,rfl,rfl,by decide +kernel,rfl,by decide +kernel,by decide +kernel⟩
theorem rY (M:cv K mg)(CP:aG P w K mg base "_law_pull" 2 (d6 aX pA K))(CN:aG P w K mg base "_law_name" 1 (aP wZ K))(n:Nat)(CL:∀m,n=m + 1->aG P w K mg base "_law_list" (2 * m + 8) (d6 aX (AI m) K))(F:bw K "_law_thing" "_law_thing" uZ f fd)(hm:mg "_law_thing"=some (.ref f))(hb:Binds K fd ow []):aG P w K mg base "_law_thing" (2 * n + 7) (d6 aX (w6 n) K):=by
 have nd:=zV.nd
 have CP:=CP.mono (show 2<=2 * n + 6 by omega)
 have CN:=CN.mono (show 1<=2 * n + 6 by omega)
 refine kQ (k:=2 * n + 6) F zV hm hb (λxs qs T ⟨_,_,_,_,_,_,e,_⟩=>by rw [e];rfl) (λcdv A outer s H E a xs qs T hr hS=>?_)
 obtain ⟨ns,calls,k,c,loops,rfl,rfl,hp,c0,rfl⟩:=hS
 have hb16:=xw n
 have k0:=hp.k0
 have k1:=hp.k1
 have cl:=hp.l
 have c1:=hp.c1
 change WS _ _ [.ob (bQ a aX (aQ ns k c)),.im ab (4 - (n:Int)),.im ab loops,.im (ae ab) calls,.no,.no,.no] _ _
 refine aj (aZ 4 (cn (dj 0 (st:=aQ ns (k + 1) c) (z:=aB ns (k + 1)) CP hr ax rfl ⟨ns,k,c,rfl,rfl,hp.s,k0,by omega,rfl⟩) ev_int (by decide)) ?_)
 change WS _ _ [.ob (bQ a aX (aQ ns (k + 1) c)),.im ab (4 - (n:Int)),.im ab loops,.im (ae ab) calls,.im ab (aB ns (k + 1) % 12),.no,.no] _ _
 have m2:=qY ns (k + 2)
 have e2:k + 1 + 1=k + 2:=by omega
 refine aj (aZ 5 (y:=nameF (aB ns (k + 2))) (aI CN hr (ah (dj 0 (st:=aQ ns (k + 2) c) (z:=aB ns (k + 2)) CP hr ax rfl ⟨ns,k + 1,c,rfl,rfl,hp.s,by omega,by omega,by rw [e2]⟩) ax) ⟨_,rfl,m2.1,m2.2,rfl⟩) ?_)
 change WS _ _ [.ob (bQ a aX (aQ ns (k + 2) c)),.im ab (4 - (n:Int)),.im ab loops,.im (ae ab) calls,.im ab (aB ns (k + 1) % 12),.im af (nameF (aB ns (k + 2))),.no] _ _
 have fin:∀(k' c':Int) (t:Th) (r:Th×Pn),thG ns calls (cL ns calls n) loops (k,c)=(t,(k',c'))->(λxs' (y:PV)=>xs'=aQ ns (thG ns calls (cL ns calls n) loops (k,c)).2.1 (thG ns calls (cL ns calls n) loops (k,c)).2.2/\y=du (thG ns calls (cL ns calls n) loops (k,c)).1) (aQ ns k' c') (.lst (fW t)):=λk' c' t r h=>by rw [h];exact ⟨rfl,(fN t).symm⟩
 refine aj (bq (TW.tv (cC (aA iY (aa 4 rfl) ev_int) (λ_=>c9 (aA gP (aa 2 rfl) ev_int)))) (λh=>?_) (λh=>aT ?_))
 ·have h:C0 ns k loops:=by simpa using h
  exact ai (fP 0 (EV.pL (aV.im (aL (r:=au) (aq (EV.pS ar) aN) (by show 1<=sizeLine;decide)))) rfl (fin _ _ .leave (.leave,(k,c)) (sN h)))
 have h0:¬C0 ns k loops:=by simpa using h
 refine aj (bq (aA iY (aa 4 rfl) ev_int) (λh=>?_) (λh=>aT ?_))
 ·have h:dS ns k=1:=of_decide_eq_true h
  exact ai (fP 0 (EV.pL (aV.im (aL (r:=au) (aq (EV.pS ar) aN) (by show 1<=sizeLine;decide)))) rfl (fin _ _ .back (.leave,(k,c)) (vU h0 h)))
 have h1:¬dS ns k=1:=of_decide_eq_false h
 refine aj (bq (TW.tv (cC (aA gP (aa 4 rfl) ev_int) (λ_=>c9 (aA gP (gX M.len (aa 3 rfl)) ev_int)))) (λh=>?_) (λh=>aT ?_))
 ·have h:C2 ns calls k:=by
   have h:9 < dS ns k/\(0:Int) < (calls.length:Int):=by simpa using h
   exact ⟨h.1,by omega⟩
  have hl:(0:Int) < (calls.length:Int):=by have:=h.2;omega
  refine aj (fu 0 (j:=2) (EV.inr (fY (EV.j9 (dO 0 ev_int rfl (y:=(Sum.inr c:List Int ⊕ Int)) rfl)) ev_int)) ev_int rfl rfl rfl ?_)
  change WS _ _ [.ob (bQ a aX (aQ ns (k + 2) (c - 1))),.im ab (4 - (n:Int)),.im ab loops,.im (ae ab) calls,.im ab (aB ns (k + 1) % 12),.im af (nameF (aB ns (k + 2))),.no] _ _
  have e3:k + 2 + 1=k + 3:=by omega
  have q0:=Int.emod_nonneg (aB ns (k + 3)) (show (calls.length:Int)≠0 by omega)
  have q1:=Int.emod_lt_of_pos (aB ns (k + 3)) hl
  exact ai (fP 0 (EV.pL (aV.im (aL (r:=au) (aq (EV.pS ar) (aq (EV.pI (ba (aa 3 rfl) (cn (dj 0 (st:=aQ ns (k + 3) (c - 1)) (z:=aB ns (k + 3)) CP hr ax rfl ⟨ns,k + 2,c - 1,rfl,rfl,hp.s,by omega,by omega,by rw [e3]⟩) (gX M.len (aa 3 rfl)) hl) (aY 0 q0 q1))) aN)) (by show 2<=sizeLine;decide)))) rfl (fin _ _ (.call _) (.leave,(k,c)) (vv h0 h1 h)))
 have h2:¬C2 ns calls k:=by
  have h:9 < dS ns k->¬(0:Int) < (calls.length:Int):=by simpa using h
  exact λ⟨x,y⟩=>h x (by omega)
 refine aj (bq (TW.tv (cC (aA gP (aa 4 rfl) ev_int) (λ_=>cC (aA jK (aa 4 rfl) ev_int) (λ_=>cC (aA jK (aa 1 rfl) ev_int) (λ_=>c9 (aA gP (EV.j9 (dO 0 ev_int rfl (y:=(Sum.inr c:List Int ⊕ Int)) rfl)) ev_int)))))) (λh=>?_) (λh=>aT ?_))
 ·have h:3 < dS ns k/\dS ns k < 7/\4 - (n:Int) < 4/\1 < c:=by simpa using h
  have h3:C3 ns k c:=⟨⟨h.1,h.2.1⟩,h.2.2.2⟩
  have hc:=h.2.2.2
  have hn:=h.2.2.1
  obtain ⟨m,rfl⟩:∃m,n=m + 1:=⟨n - 1,by omega⟩
  have CL:=(CL m rfl).mono (show 2 * m + 8<=2 * (m + 1) + 6 by omega)
  have n4:=hp.n4
  have hf:decide (m=4)=false:=decide_eq_false (by omega)
  have hbd:bT (m + 1)=3 + 2 * g8 m:=rfl
  refine aj (fu 0 (j:=2) (EV.inr (fY (EV.j9 (dO 0 ev_int rfl (y:=(Sum.inr c:List Int ⊕ Int)) rfl)) ev_int)) ev_int rfl rfl rfl ?_)
  change WS _ _ [.ob (bQ a aX (aQ ns (k + 2) (c - 2))),.im ab (4 - ((m + 1:Nat):Int)),.im ab loops,.im (ae ab) calls,.im ab (aB ns (k + 1) % 12),.im af (nameF (aB ns (k + 2))),.no] _ _
  have p1:iZ ns calls m (g8 m) (k + 2) (c - 2):=⟨hp.s,by omega,by omega,by omega,by omega,hp.l,by omega⟩
  obtain ⟨g1,g2,g3,g4⟩:=fU ns calls m false loops (k + 2,c - 2) (by show 0<=c - 2;omega)
  have e1:=Bd (L:=genL ns calls m false) h0 h1 h2 h3
  generalize hr1:genL ns calls m false loops (k + 2,c - 2)=r1 at g1 g2 g3 g4 e1
  dsimp only at g2 g3
  refine aj (aZ 6 (dj 0 (st:=aQ ns (genL ns calls m false loops (k + 2,c - 2)).2.1 (genL ns calls m false loops (k + 2,c - 2)).2.2) (z:=a9 (genL ns calls m false loops (k + 2,c - 2)).1) CL hr (ah (EV.cast (y':=4 - (m:Int)) (bX (aa 1 rfl) ev_int) (by omega)) (ah (aa 2 rfl) (ah (aa 3 rfl) ax))) rfl ⟨ns,calls,_,_,loops,rfl,rfl,p1,by rw [hf]⟩) ?_)
  rw [hr1]
  change WS _ _ [.ob (bQ a aX (aQ ns r1.2.1 r1.2.2)),.im ab (4 - ((m + 1:Nat):Int)),.im ab loops,.im (ae ab) calls,.im ab (aB ns (k + 1) % 12),.im af (nameF (aB ns (k + 2))),.im (ae au) (a9 r1.1)] _ _
  have p2:iZ ns calls m (g8 m) r1.2.1 r1.2.2:=⟨hp.s,by omega,by omega,by omega,by omega,hp.l,by omega⟩
  exact ai (fP 0 (EV.pL (aV.im (aL (r:=au) (aq (EV.pS ar) (aq (EV.pS (aa 5 rfl)) (aq (EV.pL (aa 6 rfl)) (aq (EV.pL (dj 0 (st:=aQ ns (genL ns calls m false loops r1.2).2.1 (genL ns calls m false loops r1.2).2.2) (z:=a9 (genL ns calls m false loops r1.2).1) CL hr (ah (EV.cast (y':=4 - (m:Int)) (bX (aa 1 rfl) ev_int) (by omega)) (ah (aa 2 rfl) (ah (aa 3 rfl) ax))) rfl ⟨ns,calls,_,_,loops,rfl,rfl,p2,by rw [hf]⟩)) aN)))) (by show 4<=sizeLine;decide)))) rfl (fin _ _ (.ifs _ _ _) (.leave,(k,c)) e1))
 have h3:n=0∨¬C3 ns k c:=by
  have h:3 < dS ns k->dS ns k < 7->4 - (n:Int) < 4->¬1 < c:=by simpa using h
  by_cases z:n=0
  ·exact .inl z
  ·exact .inr λ⟨⟨x,y⟩,u⟩=>h x y (by omega) u
 refine aj (bq (TW.tv (cC (aA gP (aa 4 rfl) ev_int) (λ_=>cC (aA jK (aa 4 rfl) ev_int) (λ_=>cC (aA jK (aa 1 rfl) ev_int) (λ_=>c9 (aA gP (EV.j9 (dO 0 ev_int rfl (y:=(Sum.inr c:List Int ⊕ Int)) rfl)) ev_int)))))) (λh=>?_) (λh=>aT ?_))
 ·have h:6 < dS ns k/\dS ns k < 10/\4 - (n:Int) < 4/\1 < c:=by simpa using h
  have h4:C4 ns k c:=⟨⟨h.1,h.2.1⟩,h.2.2.2⟩
  have hc:=h.2.2.2
  have hn:=h.2.2.1
  have h3x:¬C3 ns k c:=h3.resolve_left (by omega)
  obtain ⟨m,rfl⟩:∃m,n=m + 1:=⟨n - 1,by omega⟩
  have CL:=(CL m rfl).mono (show 2 * m + 8<=2 * (m + 1) + 6 by omega)
  have n4:=hp.n4
  have hf:decide (m=4)=false:=decide_eq_false (by omega)
  have hbd:bT (m + 1)=3 + 2 * g8 m:=rfl
  refine aj (fu 0 (j:=2) (EV.inr (fY (EV.j9 (dO 0 ev_int rfl (y:=(Sum.inr c:List Int ⊕ Int)) rfl)) ev_int)) ev_int rfl rfl rfl ?_)
  change WS _ _ [.ob (bQ a aX (aQ ns (k + 2) (c - 2))),.im ab (4 - ((m + 1:Nat):Int)),.im ab loops,.im (ae ab) calls,.im ab (aB ns (k + 1) % 12),.im af (nameF (aB ns (k + 2))),.no] _ _
  have p1:iZ ns calls m (g8 m) (k + 2) (c - 2):=⟨hp.s,by omega,by omega,by omega,by omega,hp.l,by omega⟩
  have e1:=BV (L:=genL ns calls m false) h0 h1 h2 h3x h4
  exact ai (fP 0 (EV.pL (aV.im (aL (r:=au) (aq (EV.pS ar) (aq (EV.pS (aa 5 rfl)) (aq (EV.pL (dj 0 (st:=aQ ns (genL ns calls m false (loops + 1) (k + 2,c - 2)).2.1 (genL ns calls m false (loops + 1) (k + 2,c - 2)).2.2) (z:=a9 (genL ns calls m false (loops + 1) (k + 2,c - 2)).1) CL hr (ah (EV.cast (y':=4 - (m:Int)) (bX (aa 1 rfl) ev_int) (by omega)) (ah (bX (aa 2 rfl) ev_int) (ah (aa 3 rfl) ax))) rfl ⟨ns,calls,_,_,loops + 1,rfl,rfl,p1,by rw [hf]⟩)) aN))) (by show 3<=sizeLine;decide)))) rfl (fin _ _ (.whil _ _) (.leave,(k,c)) e1))
 have h4:n=0∨¬C4 ns k c:=by
  have h:6 < dS ns k->dS ns k < 10->4 - (n:Int) < 4->¬1 < c:=by simpa using h
  by_cases z:n=0
  ·exact .inl z
  ·exact .inr λ⟨⟨x,y⟩,u⟩=>h x y (by omega) u
 refine aj (fu 0 (j:=2) (EV.inr (fY (EV.j9 (dO 0 ev_int rfl (y:=(Sum.inr c:List Int ⊕ Int)) rfl)) ev_int)) ev_int rfl rfl rfl ?_)
 change WS _ _ [.ob (bQ a aX (aQ ns (k + 2) (c - 1))),.im ab (4 - (n:Int)),.im ab loops,.im (ae ab) calls,.im ab (aB ns (k + 1) % 12),.im af (nameF (aB ns (k + 2))),.no] _ _
 refine ai (fP 0 (EV.pL (aV.im (aL (r:=au) (aq (EV.pS ar) (aq (EV.pS (aa 5 rfl)) aN)) (by show 2<=sizeLine;decide)))) rfl (fin _ _ (.doo _) (.leave,(k,c)) (BI h0 h1 h2 λL e=>?_)))
 cases n with
 | zero=>cases e
 | succ m=>exact ⟨h3.resolve_left (by omega),h4.resolve_left (by omega)⟩
end
end K1
namespace Fc
open PySem PySem.Spec L2
open PyProof.Rows hiding St
theorem yo {X:Cx}{Γ:Ga}{N:Ga->Prop}{α β:Type}(i j:Nat){x:Str}{p1 pos:Pos}{a:Addr}{r:Rep α}{xs:List α}{r':Rep β}{ys:List β}{P:List α->List β->Prop}(hΓ:Γ[i]?=some (.ob (bQ a r xs)))(hj:Γ[j]?=some (.mu r' ys))(hz:ys.length<=sizeLine)(h:P xs ys)(hN:X.N[j]?=some x:=by rfl)(hv:cy X.env.scope x:=by first | exact Or.inl rfl | exact Or.inr (Or.inl rfl) | exact Or.inr (Or.inr rfl))
 (hd:(x==("__debug__":Str))=false:=by decide) (hcd:(x==("__classdict__":Str))=false:=by decide):W1 X (.Return (some (.Name x p1)) pos) Γ N (Cd X.K a r λxs'=>AD X.K r' (P xs')):=λσ H0 R0 H R E D dn dr=>by
 obtain ⟨b,vs,eb,hb,hR,pp⟩:=E.ent j _ hj
 obtain ⟨ea,⟨ws,ha,pa⟩,hRa⟩:=fz (E.ent i _ hΓ)
 exact sS (jM (bc hN hv hd hcd)) ⟨.ref b,at_of eb,dr _ H R E.ext ⟨ws,xs,ha,hRa,pa,b,vs,ys,rfl,E.new j _ b hj rfl eb,hb,hR,pp,hz,h⟩⟩
end Fc
namespace K1
open PySem L2 Fc
open PySem.Spec hiding Row
open PyProof.Rows hiding St
theorem Bj (n:Nat):g8 n=1 + 5 * bT n:=by cases n<;>rfl
theorem xU (ns calls:List Int):∀(n:Nat) (lp:Int) (s:Pn),0 < s.2->mC n (bT n) s (thG ns calls (cL ns calls n) lp s)
 | 0,lp,s,h=>pj ns calls lp s h
 | n + 1,lp,s,h=>ou (fU ns calls n false) lp s h
theorem p9 (t:Th):kK t=decide (bZ t="back"):=by cases t<;>rfl
theorem zm (a b:List Th):a9 (a++b)=a9 a++a9 b:=by rw [dA,dA,dA,List.map_append]
theorem da (a:List Th):(a9 a).length=a.length:=by rw [dA,List.length_map]
section
variable {P:Program}{w:World}{K:PySem.W.Frag}{mg:Str->Option Value}{base:Heap}{f:Addr}{fd:FuncData}
abbrev jq:Stmt:=top nY
abbrev BK:List Str:=["_law_pen","_law_depth","_law_loops","_law_calls","_law_items","_law_k","_law_one"]
theorem oz:aE BK ow (ag jq):=⟨rfl,rfl,rfl,by decide +kernel,rfl,by decide +kernel,by decide +kernel⟩
theorem ls_run (M:cv K mg)(CP:aG P w K mg base "_law_pull" 2 (d6 aX pA K))(CA:aG P w K mg base "_law_passes" 6 (aP (vb 5) K)){n:Nat}(CT:aG P w K mg base "_law_thing" (2 * n + 7) (d6 aX (w6 n) K)){cdv:Value}{A:Around}{outer:List Env}{s:Shared}{H:Hp}{E:XK}{a:Addr}{ns calls:List Int}{k c loops:Int}{N:Ga->Prop}{T:RT}(hr:bA (2 * n + 7) (A.deeper (envOfC "_law_list" (ag jq) s.heap.objs.size f cdv)))(hp:iZ ns calls n (g8 n) k c)
 (hfin:∀e5 e6:Ent,WS (fc dI P w K mg base BK "_law_list" (ag jq) f cdv A outer s H E).jf ((bM jq).drop 2) [.ob (bQ a aX (aQ ns (genL ns calls n (decide (n=4)) loops (k,c)).2.1 (genL ns calls n (decide (n=4)) loops (k,c)).2.2)),.im ab (4 - (n:Int)),.im ab loops,.im (ae ab) calls,.mu au (a9 (genL ns calls n (decide (n=4)) loops (k,c)).1),e5,e6] N T):
 WS (fc dI P w K mg base BK "_law_list" (ag jq) f cdv A outer s H E).jf (bM jq) [.ob (bQ a aX (aQ ns k c)),.im ab (4 - (n:Int)),.im ab loops,.im (ae ab) calls,.no,.no,.no] N T:=by
 have nd:=oz.nd
 have CP:=CP.mono (show 2<=2 * n + 7 by omega)
 have CA:=CA.mono (show 6<=2 * n + 7 by omega)
 have k0:=hp.k0
 have k1:=hp.k1
 have c0:=hp.c0
 have c1:=hp.c1
 have n4:=hp.n4
 have hbd:=Bj n
 have b3:=xw n
 rw [iC] at hfin
 generalize htp:decide (n=4)=tp at hfin
 have hrun:=om (ns:=ns) (calls:=calls) (sub:=cL ns calls n) (n:=n) (b:=bT n) (by omega) (xU ns calls n) tp loops (k,c) c0
 dsimp only at hrun hfin
 have hmany:=qS ns tp k
 generalize hx:(λi=>itG (e8 ns calls (cL ns calls n) tp loops) i ([],(k + 1,c)))=x at hrun
 have hxi:∀i,itG (e8 ns calls (cL ns calls n) tp loops) i ([],(k + 1,c))=x i:=λi=>by rw [← hx]
 have hxs:∀i,x (i + 1)=e8 ns calls (cL ns calls n) tp loops (x i):=λi=>by rw [← hx];rfl
 have hx0:x 0=([],(k + 1,c)):=by rw [← hx];rfl
 simp only [hxi] at hrun hfin
 refine aj (cQ 4 (r:=au) (ys:=[]) (aL aN (Nat.zero_le _)) ?_)
 change WS _ _ [.ob (bQ a aX (aQ ns k c)),.im ab (4 - (n:Int)),.im ab loops,.im (ae ab) calls,.mu au [],.no,.no] _ _
 have m0:=Int.emod_nonneg (aB ns (k + 1)) (show (4:Int)≠0 by decide)
 have m1:=Int.emod_lt_of_pos (aB ns (k + 1)) (show (0:Int) < 4 by decide)
 have htp2:decide (4 - (n:Int)=0)=tp:=by rw [← htp];exact decide_eq_decide.mpr ⟨λh=>by omega,λh=>by omega⟩
 have hman:(aB ns (k + 1) % 4 + 2 * (if decide (4 - (n:Int)=0)=true then 1 else 0)).toNat=dm ns tp k:=by rw [htp2];rfl
 have hb2:0<=(if decide (4 - (n:Int)=0)=true then (1:Int) else 0)/\(if decide (4 - (n:Int)=0)=true then (1:Int) else 0)<=1:=by split<;>decide
 refine aj (cj (r:=ab) (λi Γ=>∃e5 e6,Γ=[.ob (bQ a aX (aQ ns (x i).2.1 (x i).2.2)),.im ab (4 - (n:Int)),.im ab loops,.im (ae ab) calls,.mu au (a9 (x i).1),e5,e6]) (dR M.range (bX (cn (dj 0 (st:=aQ ns (k + 1) c) (z:=aB ns (k + 1)) CP hr ax rfl ⟨ns,k,c,rfl,rfl,hp.s,k0,by omega,rfl⟩) ev_int (by decide)) (u7 ev_int (yQ M.int (iy iY (aa 1 rfl) ev_int)) (.inl (by decide)))) ⟨by omega,by omega⟩) (bg 5) ⟨_,_,by rw [hx0];rfl⟩ (λi j Γ hj hΓ=>?_) (λΓ hΓ=>?_))
 ·obtain ⟨e5,e6,rfl⟩:=hΓ
  have il:=(fb hj).1
  rw [hman] at il
  obtain ⟨rd,⟨rc,rc0⟩,⟨rk0,rk1⟩,rll⟩:=hrun i
  have hmul:bT n * i<=bT n * 4:=Nat.mul_le_mul_left _ (by omega)
  have hs:=hxs i
  generalize x i=xi at rd rc rc0 rk0 rk1 rll hs
  obtain ⟨its,kk,cc⟩:=xi
  dsimp only at rd rc rc0 rk0 rk1 rll ⊢
  change WS _ _ [.ob (bQ a aX (aQ ns kk cc)),.im ab (4 - (n:Int)),.im ab loops,.im (ae ab) calls,.mu au (a9 its),.im ab j,e6] _ _
  have rkk:kk + (bT n:Int)<=900000:=by push_cast at rk1;omega
  refine ai (bq (TW.tv (cC (aA gP (EV.j9 (dO 0 ev_int rfl (y:=(Sum.inr cc:List Int ⊕ Int)) rfl)) ev_int) (λ_=>c9 (TV.frz (uO (i:=4) rfl (aK (by rw [da];omega))) (gz (aI CA hr (ah (aa 4 rfl) ax) ⟨its,rfl,by omega,rfl⟩)))))) (λh=>?_) (λh=>aT ?_))
  ·have h:0 < cc/\cq its=true:=by simpa using h
   have ht:=xU ns calls n loops (kk,cc) h.1
   have e1:e8 ns calls (cL ns calls n) tp loops (its,kk,cc)=if tp=true/\its.length=0/\kK (thG ns calls (cL ns calls n) loops (kk,cc)).1=true then (its++[.doo "back"],((thG ns calls (cL ns calls n) loops (kk,cc)).2.1,(thG ns calls (cL ns calls n) loops (kk,cc)).2.2 - 1)) else (its++[(thG ns calls (cL ns calls n) loops (kk,cc)).1],(thG ns calls (cL ns calls n) loops (kk,cc)).2):=if_pos h
   refine aj (aZ 6 (dj 0 (st:=aQ ns (thG ns calls (cL ns calls n) loops (kk,cc)).2.1 (thG ns calls (cL ns calls n) loops (kk,cc)).2.2) (z:=du (thG ns calls (cL ns calls n) loops (kk,cc)).1) CT hr (ah (aa 1 rfl) (ah (aa 2 rfl) (ah (aa 3 rfl) ax))) rfl ⟨ns,calls,kk,cc,loops,rfl,rfl,⟨hp.s,by omega,rkk,by omega,by omega,hp.l,n4⟩,h.1,rfl⟩) ?_)
   generalize thG ns calls (cL ns calls n) loops (kk,cc)=r at ht e1
   obtain ⟨tt,kr,cr⟩:=r
   dsimp only at e1 ⊢
   change WS _ _ [.ob (bQ a aX (aQ ns kr cr)),.im ab (4 - (n:Int)),.im ab loops,.im (ae ab) calls,.mu au (a9 its),.im ab j,.im au (du tt)] _ _
   refine bL (N1:=λΓ=>∃t' c',Γ=[.ob (bQ a aX (aQ ns kr c')),.im ab (4 - (n:Int)),.im ab loops,.im (ae ab) calls,.mu au (a9 its),.im ab j,.im au (du t')]/\e8 ns calls (cL ns calls n) tp loops (its,kk,cc)=(its++[t'],(kr,c'))) (bq (TW.tv (cC (aA iY (aa 1 rfl) ev_int) (λ_=>cC (aA iY (qo 4 M.len rfl) ev_int) (λ_=>c9 (aA bS (fF (aa 6 rfl)) ar))))) (λh=>?_) (λh=>aT ⟨tt,cr,rfl,?_⟩)) ?_
   ·have h:tp=true/\its.length=0/\kK tt=true:=by
     rw [htp2,da] at h
     rw [p9]
     simpa using h
    refine aj (fu 0 (j:=2) (EV.inr (fY (EV.j9 (dO 0 ev_int rfl (y:=(Sum.inr cr:List Int ⊕ Int)) rfl)) ev_int)) ev_int rfl rfl rfl ?_)
    change WS _ _ [.ob (bQ a aX (aQ ns kr (cr - 1))),.im ab (4 - (n:Int)),.im ab loops,.im (ae ab) calls,.mu au (a9 its),.im ab j,.im au (du tt)] _ _
    refine ai (aZ 6 (y:=du (.doo "back")) (EV.cast (y:=.lst (fW (.doo "back"))) (EV.pL (aV.im (aL (r:=au) (aq (EV.pS ar) (aq (EV.pS ar) aN)) (by show 2<=sizeLine;decide)))) (fN _).symm) ⟨.doo "back",cr - 1,rfl,?_⟩)
    rw [e1,if_pos h]
   ·have h:¬(tp=true/\its.length=0/\kK tt=true):=by
     rw [htp2,da] at h
     rw [p9]
     simpa using h
    rw [e1,if_neg h]
   rintro _ ⟨t',c',rfl,e2⟩
   refine ai (ft 4 (aa 6 rfl) rfl rfl (Nat.lt_of_le_of_lt (show _<=10 by rw [da];omega) (by decide)) ⟨.im ab j,.im au (du t'),?_⟩)
   rw [hs,e2,zm,a9,a9]
   rfl
  ·have h:¬(0 < cc/\cq its=true):=by simpa using h
   refine ⟨.im ab j,e6,?_⟩
   rw [hs,show e8 ns calls (cL ns calls n) tp loops (its,kk,cc)=(its,kk,cc) from if_neg h]
 ·obtain ⟨e5,e6,rfl⟩:=hΓ
  rw [bE,hman]
  exact hfin e5 e6
theorem ux (M:cv K mg)(CP:aG P w K mg base "_law_pull" 2 (d6 aX pA K))(CA:aG P w K mg base "_law_passes" 6 (aP (vb 5) K)){n:Nat}(CT:aG P w K mg base "_law_thing" (2 * n + 7) (d6 aX (w6 n) K))(F:bw K "_law_list" "_law_list" jq f fd)(hm:mg "_law_list"=some (.ref f))(hb:Binds K fd ow []):aG P w K mg base "_law_list" (2 * n + 8) (d6 aX (AI n) K):=by
 have nd:=oz.nd
 refine kQ (k:=2 * n + 7) F oz hm hb (λxs qs T ⟨_,_,_,_,_,_,e,_⟩=>by rw [e];rfl) (λcdv A outer s H E a xs qs T hr hS=>?_)
 obtain ⟨ns,calls,k,c,loops,rfl,rfl,hp,rfl⟩:=hS
 refine ls_run M CP CA CT hr hp λe5 e6=>?_
 have g:=fU ns calls n (decide (n=4)) loops (k,c) hp.c0
 refine WS.freeze 4 rfl (aK (by rw [da];exact Nat.le_trans g.l (by decide))) ?_
 exact ai (fP 0 (aa 4 rfl) rfl ⟨rfl,rfl⟩)
theorem xT (M:cv K mg)(CP:aG P w K mg base "_law_pull" 2 (d6 aX pA K))(CN:aG P w K mg base "_law_name" 1 (aP wZ K))(CA:aG P w K mg base "_law_passes" 6 (aP (vb 5) K)){f2:Addr}{fd2:FuncData}(F:bw K "_law_list" "_law_list" jq f fd)(hm:mg "_law_list"=some (.ref f))(hb:Binds K fd ow [])(F2:bw K "_law_thing" "_law_thing" uZ f2 fd2)(hm2:mg "_law_thing"=some (.ref f2))(hb2:Binds K fd2 ow []):∀n,aG P w K mg base "_law_list" (2 * n + 8) (d6 aX (AI n) K)
 | 0=>ux M CP CA (rY M CP CN 0 (λm h=>absurd h (by omega)) F2 hm2 hb2) F hm hb
 | n + 1=>ux M CP CA (rY M CP CN (n + 1) (λm h=>by cases h;exact xT M CP CN CA F hm hb F2 hm2 hb2 n) F2 hm2 hb2) F hm hb
def EF:jC (List Int ⊕ Int):=λK xs ps T=>∃(ns calls:List Int) (k c:Int),xs=aQ ns k c/\ps=BZ 4 0 calls/\iZ ns calls 4 (g8 4) k c/\T=λxs'=>AD K au λys=>xs'=aQ ns (genL ns calls 4 true 0 (k,c)).2.1 (genL ns calls 4 true 0 (k,c)).2.2/\ys=a9 (genL ns calls 4 true 0 (k,c)).1
theorem Dc (M:cv K mg)(CP:aG P w K mg base "_law_pull" 2 (d6 aX pA K))(CA:aG P w K mg base "_law_passes" 6 (aP (vb 5) K))(CT:aG P w K mg base "_law_thing" 15 (d6 aX (w6 4) K))(F:bw K "_law_list" "_law_list" jq f fd)(hm:mg "_law_list"=some (.ref f))(hb:Binds K fd ow []):aG P w K mg base "_law_list" 16 (d6 aX EF K):=by
 have nd:=oz.nd
 refine kQ (k:=15) F oz hm hb (λxs qs T ⟨_,_,_,_,_,e,_⟩=>by rw [e];rfl) (λcdv A outer s H E a xs qs T hr hS=>?_)
 obtain ⟨ns,calls,k,c,rfl,rfl,hp,rfl⟩:=hS
 refine ls_run (n:=4) M CP CA CT hr hp λe5 e6=>?_
 have g:=fU ns calls 4 true 0 (k,c) hp.c0
 exact ai (yo 0 4 rfl rfl (aK (by rw [da];exact Nat.le_trans g.l (by decide))) ⟨rfl,rfl⟩)
end
end K1
namespace Fc
open PySem PySem.Spec L2
open PyProof.Rows hiding St
section
variable {X:Cx}{Γ Γ1 Γ2:Ga}{α β:Type}{N:Ga->Prop}{T:RT}
variable {x:Str}
theorem jS {K:PySem.W.Frag}{R:Hp}:∀{vs:List V} {xs:List Str},PySem.Paired (af.R K R) vs xs->vs=xs.map V.str
 | _,_,.nil=>rfl
 | _,_,.cons h t=>by rw [List.map_cons,← jS t];exact congrArg (· ::_) h
theorem nR {xs:List Str}:fm X .In af (ae af) x xs (decide (x∈xs)):=⟨_,mF,λR H v u Q s e1 e2 q=>by
 cases e1
 obtain ⟨a,vs,rfl,hq,p,_⟩:=e2
 have e:=jS p
 subst e
 exact ⟨a,_,rfl,.inl (aM.of (s _ _ hq)),rfl,hX xs,by rw [if_neg Bool.false_ne_true,i8];exact q⟩⟩
theorem rT {r:Rep α}{S:jC α}{y:Str}{k:Nat}{es:List Expr}{p p1 pos:Pos}{ps:List Pk}{xs:List α}{TM:List α->RT}{Q:VK}{σ:St}{H0 R0 H R:Hp}(i:Nat)(C:aG X.prog X.w X.K X.mg X.base x k (d6 r S X.K))(hr:bA k X.A)(ha:HA X es Γ ps Γ1)(hΓ:Γ[i]?=some (.mu r xs))(hΓ1:Γ1[i]?=some (.mu r xs))(hS:S X.K xs ps TM)(E:ao X.K σ H0 R0 H R Γ)
 (q:∀a H1 R1 v H' R' xs',(σ[i]?).join=some (.ref a)->ao X.K σ H0 R0 H1 R1 Γ1->ao X.K σ H0 R0 H' R' (Γ1.set i (.mu r xs'))->ak R R'->TM xs' (del H1 a) v H' R'->Q v H')
 (hg:Gl X x) (hdb:(x==("__debug__":Str))=false) (he:starEach (.Name y p1::es) X.env=(false,eval (.Name y p1) X.env)::starEach es X.env) (hpl:(backTo pos (starEach es X.env)).any (·.1)=false)
 (hN:X.N[i]?=some y) (hv:cy X.env.scope y) (hd:(y==("__debug__":Str))=false) (hcd:(y==("__classdict__":Str))=false):eP X (.Call (.Name x p) (.Name y p1::es) [] pos) σ H Q:=by
 obtain ⟨f,fd,pn,F,hm,hk,hb⟩:=C.ex
 obtain ⟨a,vs,ea,_,_,_⟩:=E.ent i _ hΓ
 refine eS (lM F hr hg hm hk hb .nil nv (aR (bc hN hv hd hcd) jm he) hdb he hpl) ⟨.ref a,at_of ea,ha σ H0 R0 H R E _ λus H1 R1 E1 s1 p1=>?_⟩
 obtain ⟨a',ws,ea',hp,hR,pp⟩:=E1.ent i _ hΓ1
 rw [ea] at ea';cases ea'
 have h0:H0 a=none:=E1.new i _ a hΓ1 rfl ea
 refine ⟨R1,a,ws,xs,us,ps,TM,by rw [List.append_nil],E1.sub,hR,hp,pp,p1,hS,λv H' R' ws' xs' xx h1 h2 pq t=>q a H1 R1 v H' R' xs' ea E1 ?_ (s1.trans xx.r) t⟩
 have apart:∀(j:Nat) (e:Ent),j≠i->Γ1[j]?=some e->a∉e.fp (σ[j]?).join:=λj e hj qj w=>hj (E1.ds j i e _ a qj hΓ1 w (bR.mpr ea))
 have E2:ao X.K σ H0 R0 H1 R1 (Γ1.set i .no):=E1.tell hΓ1 trivial λb w=>by cases w
 have E3:=E2.xJ (a:=a) (λj e qj w=>by
  rcases set_at qj with ⟨rfl,rfl,_⟩ | ⟨hj,q1⟩
  ·cases w
  ·exact apart j e hj q1 w) h0 xx
 have hl:i < Γ1.length:=(List.getElem?_eq_some_iff.mp hΓ1).1
 have E4:=E3.lg (i:=i) (e0:=.no) (en:=.mu r xs') (List.getElem?_set_self hl) (by rw [ea];exact ⟨a,ws',rfl,h1,h2,pq⟩) λb w=>by
  have eb:b=a:=by rw [bR.mp w] at ea;cases ea;rfl
  subst eb
  exact ⟨h0,λj e hj qj=>apart j e hj (by rwa [List.getElem?_set_ne (Ne.symm hj)] at qj)⟩
 rw [List.set_set] at E4
 exact E4
theorem tF (i:Nat){r:Rep α}{S:jC α}{y:Str}{k:Nat}{es:List Expr}{p p1 pos:Pos}{ps:List Pk}{xs st:List α}{rr:Rep β}{zs:List β}(C:aG X.prog X.w X.K X.mg X.base x k (d6 r S X.K))(hr:bA k X.A)(ha:HA X es Γ ps Γ1)(hΓ:Γ[i]?=some (.mu r xs))(hΓ1:Γ1[i]?=some (.mu r xs))(hS:S X.K xs ps (λxs'=>AD X.K rr λw=>xs'=st/\w=zs))(hne:∀(R:Hp) (vs:List V),PySem.Paired (r.R X.K R) vs st->PySem.Paired (rr.R X.K R) vs zs->False)
 (hg:Gl X x:=by rfl) (hdb:(x==("__debug__":Str))=false:=by decide) (he:starEach (.Name y p1::es) X.env=(false,eval (.Name y p1) X.env)::starEach es X.env:=by rfl) (hpl:(backTo pos (starEach es X.env)).any (·.1)=false:=by rfl)
 (hN:X.N[i]?=some y:=by rfl) (hv:cy X.env.scope y:=by first | exact Or.inl rfl | exact Or.inr (Or.inl rfl) | exact Or.inr (Or.inr rfl)) (hd:(y==("__debug__":Str))=false:=by decide) (hcd:(y==("__classdict__":Str))=false:=by decide):
 aV X (.Call (.Name x p) (.Name y p1::es) [] pos) Γ rr zs (Γ1.set i (.mu r st)):=λσ H0 R0 H R E Q q=>
 rT i C hr ha hΓ hΓ1 hS E (λa H1 R1 v H' R' xs' ea E1 E' s' t=>by
  obtain ⟨b,vs,ys,rfl,h0,h1,h2,pp,hz,rfl,rfl⟩:=t
  have hba:b≠a:=λz=>by
   subst z
   obtain ⟨a',ws,ea',hp',_,pp'⟩:=E'.ent i _ (List.getElem?_set_self (List.getElem?_eq_some_iff.mp hΓ1).1)
   rw [ea] at ea';cases ea'
   rw [h1] at hp';cases hp'
   exact hne _ _ pp' pp
  have h0:H1 b=none:=by
   unfold del at h0
   rwa [if_neg hba] at h0
  refine q b vs H' R' E' s' h1 h2 (E1.ext.h.free h0) (λj e qj w=>?_) pp hz
  rcases set_at qj with ⟨rfl,rfl,_⟩ | ⟨hj,q1⟩
  ·exact E1.off h0 _ _ hΓ1 w
  ·exact E1.off h0 j e q1 w) hg hdb he hpl hN hv hd hcd
end
section
variable {X:Cx}{Γ Γ1 Γ2 Γ3:Ga}{α β γ δ:Type}{N:Ga->Prop}{T:RT}
variable {r:Rep α}{as:List Addr}{xss:List (List α)}{K:PySem.W.Frag}{H R:Hp}{b:Addr}
def gf (K:PySem.W.Frag)(r:Rep α)(H R:Hp)(as:List Addr)(xss:List (List α)):Prop:=as.length=xss.length/\∀(i:Nat) (b:Addr) (xs:List α),as[i]?=some b->xss[i]?=some xs->∃ws,H b=some (.lst ws)/\PySem.Paired (r.R K R) ws xs
theorem gf.one (h:gf K r H R as xss)(hb:b∈as):∃ws,H b=some (.lst ws):=by
 obtain ⟨i,hi,rfl⟩:=List.mem_iff_getElem.mp hb
 obtain ⟨ws,h1,_⟩:=h.2 i _ _ (List.getElem?_eq_getElem hi) (List.getElem?_eq_getElem (by rw [← h.1];exact hi))
 exact ⟨ws,h1⟩
theorem gf.loc {H' R':Hp}(h:gf K r H R as xss)(e:∀a∈as,H' a=H a)(s:ak R R'):gf K r H' R' as xss:=
 ⟨h.1,λi b xs h1 h2=>by
   obtain ⟨ws,q1,q2⟩:=h.2 i b xs h1 h2
   exact ⟨ws,(e b (List.mem_of_getElem? h1)).trans q1,Paired.map (λ_ _=>r.mono s) q2⟩⟩
theorem gf.put (h:gf K r H R as xss)(nd:as.Nodup){j:Nat}{xs:List α}{ws:List V}(hb:as[j]?=some b)(hp:PySem.Paired (r.R K R) ws xs):gf K r (upd H b (.lst ws)) R as (xss.set j xs):=by
 refine ⟨by rw [List.length_set];exact h.1,λi c q h1 h2=>?_⟩
 by_cases hij:i=j
 ·subst hij
  rw [hb] at h1;cases h1
  have hl:i < xss.length:=by rw [← h.1];exact (List.getElem?_eq_some_iff.mp hb).1
  rw [List.getElem?_set_self hl] at h2;cases h2
  exact ⟨ws,av,hp⟩
 ·rw [List.getElem?_set_ne (Ne.symm hij)] at h2
  have:c≠b:=λz=>by
   subst z
   have l1:=(List.getElem?_eq_some_iff.mp h1)
   have l2:=(List.getElem?_eq_some_iff.mp hb)
   exact hij ((List.getElem_inj (h₀:=l1.1) (h₁:=l2.1) nd).mp (l1.2.trans l2.2.symm))
  rw [aw this];exact h.2 i c q h1 h2
theorem gf.snoc (h:gf K r H R as xss){xs:List α}{ws:List V}(hb:H b=some (.lst ws))(hp:PySem.Paired (r.R K R) ws xs):gf K r H R (as++[b]) (xss++[xs]):=by
 refine ⟨by rw [List.length_append,List.length_append,h.1];rfl,λi c q h1 h2=>?_⟩
 rcases Nat.lt_or_ge i as.length with hl | hl
 ·rw [List.getElem?_append_left hl] at h1
  rw [List.getElem?_append_left (by rw [← h.1];exact hl)] at h2
  exact h.2 i c q h1 h2
 ·rw [List.getElem?_append_right hl] at h1
  rw [List.getElem?_append_right (by rw [← h.1];exact hl)] at h2
  have e:i - as.length=0:=by
   have:=(List.getElem?_eq_some_iff.mp h1).1
   simp at this;omega
  rw [e] at h1
  rw [← h.1,e] at h2
  simp at h1 h2
  rw [← h1,← h2];exact ⟨ws,hb,hp⟩
def dH (r:Rep α)(a:Addr)(as:List Addr)(xss:List (List α)):qi where
 fp:=a::as
 R:=λK H R v=>v= .ref a/\H a=some (.lst (as.map .ref))/\gf K r H R as xss/\(a::as).Nodup
 loc:=λhH hR ⟨e,h1,h2,h3⟩=>⟨e,(hH a List.mem_cons_self).trans h1,h2.loc (λb hb=>hH b (List.mem_cons_of_mem _ hb)) hR,h3⟩
 has:=λ⟨e,h1,h2,h3⟩ b hb=>by
  rcases List.mem_cons.mp hb with rfl | hb
  ·rw [h1];exact Option.some_ne_none _
  ·obtain ⟨r,hr⟩:=h2.one hb
   rw [hr];exact Option.some_ne_none _
theorem WS.Dg (i:Nat){sts:List Stmt}{rr:Rep β}(hΓ:Γ[i]?=some (.mu rr []))(h:∀a,WS X sts (Γ.set i (.ob (dH r a [] []))) N T):WS X sts Γ N T:=λσ H0 R0 H R E D dn dr=>by
 obtain ⟨a,vs,ea,ha,hR,pp⟩:=E.ent i _ hΓ
 cases pp
 refine h a σ H0 R0 H R (E.tell hΓ ⟨⟨.ref a,ea,rfl,ha,⟨rfl,λi b r h1=>by simp at h1⟩,by simp⟩,λb hb=>?_⟩ λb w=>?_) D dn dr
 ·rw [show b=a by simpa [dH] using hb];exact hR
 ·rw [show b=a by simpa [Ent.fp,dH] using w];exact bR.mpr ea
theorem Ck {k:Int}{j:Nat}(hk:eJ as.length k=some j)(hb:as[j]?=some b):cb (as.map V.ref) k=some (.ref b):=by
 unfold cb
 rw [List.length_map,hk]
 show (as.map V.ref)[j]?=_
 rw [List.getElem?_map,hb];rfl
theorem sq (i:Nat){x:Str}{e:Expr}{p1 ap cp pos:Pos}{a:Addr}{ys:List α}(he:aV X e Γ r ys Γ1)(hΓ:Γ[i]?=some (.ob (dH r a as xss)))(hΓ1:Γ1[i]?=some (.ob (dH r a as xss)))(hz:xss.length < sizeLine)(h:∀b,N (Γ1.set i (.ob (dH r a (as++[b]) (xss++[ys])))))
 (hN:X.N[i]?=some x:=by rfl) (hv:cy X.env.scope x:=by first | exact Or.inl rfl | exact Or.inr (Or.inl rfl) | exact Or.inr (Or.inr rfl))
 (hd:(x==("__debug__":Str))=false:=by decide) (hcd:(x==("__classdict__":Str))=false:=by decide)
 (hsw:swapsWith (.Call (.Attribute (.Name x p1) "append" ap) [e] [] cp) none pos.line X.env=pure false:=by rfl)
 (hbase:attributeBase (.Name x p1) "append" X.env (eval (.Name x p1) X.env)=eval (.Name x p1) X.env:=by rfl)
 (hfew:((backTo cp (starEach [e] X.env)).all (λx=> !x.1)&&(backToKw cp (keywordEach [] X.env)).all (λx=>x.1.isSome)
  &&decide ([e].length + ([]:List Keyword).length + (if ([]:List Keyword).isEmpty then 0 else 1) < 30))=true:=by rfl)
 (hline:(ap.endLine==cp.line)=true:=by rfl) (hs:starEach [e] X.env=(false,eval e X.env)::starEach [] X.env:=by rfl):W1 X (.Expr (.Call (.Attribute (.Name x p1) "append" ap) [e] [] cp) pos) Γ N T:=λσ H0 R0 H R E D dn dr=>by
 obtain ⟨⟨v,ea,rfl,ha,hr,_⟩,hR⟩:=E.ent i _ hΓ
 refine sS (gx (iT PySem.F.plainAttrs_list PySem.F.slot_list_append PySem.F.type_list_append mH (bc hN hv hd hcd) (aR aJ bt hs) hbase hfew hline hs rfl) hsw) ?_
 refine ⟨.ref a,at_of ea,.inl ⟨rfl,_,aM.of ha⟩,he σ H0 R0 H R E _ λb vs H2 R2 E2 s2 hb hRb h0b offb pp _=>?_⟩
 obtain ⟨⟨v,ea2,rfl,ha2,hr2,nd2⟩,hR2⟩:=E2.ent i _ hΓ1
 obtain ⟨n1,n2⟩:=List.nodup_cons.mp nd2
 have hl:as.length=xss.length:=hr2.1
 have bne:b∉a::as:=λz=>offb i _ hΓ1 z
 have bna:b≠a:=λz=>bne (z▸List.mem_cons_self)
 refine ⟨a,_,.ref b,rfl,rfl,ha2,by rw [List.length_map,hl];exact hz,?_⟩
 refine dn σ _ R2 _ (E2.me (en:=.ob (dH r a (as++[b]) (xss++[ys]))) hΓ1 List.mem_cons_self ⟨⟨.ref a,ea2,rfl,?_,?_,?_⟩,λc hc=>?_⟩ λc w=>?_) s2 (h b)
 ·rw [av,List.map_append];rfl
 ·refine (hr2.snoc hb pp).loc (λc hc=>aw λz=>?_) (ak.refl _)
  rw [z] at hc
  rcases List.mem_append.mp hc with q | q
  ·exact n1 q
  ·exact bna (List.mem_singleton.mp q).symm
 ·refine List.nodup_cons.mpr ⟨λz=>?_,fo n2 λz=>bne (List.mem_cons_of_mem _ z)⟩
  rcases List.mem_append.mp z with q | q
  ·exact n1 q
  ·exact bna (List.mem_singleton.mp q).symm
 ·rcases List.mem_cons.mp hc with rfl | hc
  ·exact hR2 _ List.mem_cons_self
  ·rcases List.mem_append.mp hc with q | q
   ·exact hR2 _ (List.mem_cons_of_mem _ q)
   ·rw [List.mem_singleton.mp q];exact hRb
 ·rcases List.mem_cons.mp w with rfl | w
  ·exact .inl List.mem_cons_self
  ·rcases List.mem_append.mp w with q | q
   ·exact .inl (List.mem_cons_of_mem _ q)
   ·rw [List.mem_singleton.mp q];exact .inr ⟨h0b,offb⟩
end
section
variable {X:Cx}{Γ Γ1 Γ2 Γ3:Ga}{α β γ δ:Type}{N:Ga->Prop}{T:RT}
variable {r:Rep α}{a:Addr}{p1 pos:Pos}{as:List Addr}{xss:List (List α)}{n:Nat}
theorem ma {a b:Expr}{p2 pos2:Pos}{m n:Int}(hml:X.mg "list"=none)(hmr:X.mg "range"=none)(ha:HA X [a,b] Γ [⟨ab,m⟩,⟨ab,n⟩] Γ1)(hm: -1000000<=m/\m<=1000000)(hn: -1000000<=n/\n<=1000000)(hs:starEach [a,b] X.env=(false,eval a X.env)::starEach [b] X.env:=by rfl)(hpl:(backTo pos2 (starEach [b] X.env)).any (·.1)=false:=by rfl)
 (hs2:starEach [.Call (.Name "range" p2) [a,b] [] pos2] X.env=[(false,eval (.Call (.Name "range" p2) [a,b] [] pos2) X.env)]:=by rfl) (hc:X.calm=true:=by rfl) (hg:Gl X "list":=by rfl) (hgr:Gl X "range":=by rfl):aV X (.Call (.Name "list" p1) [.Call (.Name "range" p2) [a,b] [] pos2] [] pos) Γ ab (ups m (n - m).toNat) Γ1:=by
 intro σ H0 R0 H R E Q q
 refine eS (fL (ju hc) hg hml PyProof.Rows.boot_list (aR (fL lU hgr hmr boot_range jm (by decide) (by decide) hs hpl) bt hs2) (by decide) (by decide) hs2) (ha σ H0 R0 H R E _ λvs H1 R1 E1 s1 e1=>?_)
 have e:vs=[.int m,.int n]:=by
  cases e1 with
  | cons a1 t=>cases t with
    | cons a2 t=>cases t;cases a1;cases a2;rfl
 subst e
 refine ⟨m,n,rfl,λp hp=>⟨p,m,n,rfl,av,hm.1,hm.2,hn.1,hn.2,λd hd=>?_⟩⟩
 have E2:=E1.grow (Ext.dy E1.sub hp (.rng m n))
 exact q d _ _ R1 (E2.grow (Ext.dy E2.sub hd _)) s1 av (E2.sub.free hd) (E2.ext.h.free hd) (E2.off hd) (paired_ints _) (by rw [bE];exact Nat.le_trans (show (n - m).toNat<=2000000 by omega) (by decide))
theorem ao.Fb {K:PySem.W.Frag}{σ:St}{H0 R0 H R:Hp}{i:Nat}{B:qi}(E:ao K σ H0 R0 H R Γ)(hΓ:Γ[i]?=some (.ob B)):ao K σ H0 R0 H (λb=>if b∈B.fp then H b else R b) (Γ.set i .no)/\ak R (λb=>if b∈B.fp then H b else R b):=by
 have h0:∀b∈B.fp,H0 b=none:=λb hb=>E.nw i _ b hΓ hb
 have hR:∀b∈B.fp,R b=none:=(E.ent i _ hΓ).2
 have sR:ak R (λb=>if b∈B.fp then H b else R b):=λb o q=>by
  show (if b∈B.fp then H b else R b)=some o
  rw [if_neg λw=>by rw [hR b w] at q;cases q];exact q
 refine ⟨⟨⟨E.ext.h,E.ext.r.trans sR,λb o q=>?_,λb hb=>?_⟩,λj e q=>?_,λj e b q w=>?_,λj k e e' b q q' w w'=>?_,by rw [List.length_set];exact E.len⟩,sR⟩
 ·have q:(if b∈B.fp then H b else R b)=some o:=q
  by_cases hb:b∈B.fp
  ·rw [if_pos hb] at q;exact q
  ·rw [if_neg hb] at q;exact E.sub b o q
 ·show (if b∈B.fp then H b else R b)=_
  rw [if_neg λw=>hb (h0 b w)];exact E.ext.old b hb
 ·rcases set_at q with ⟨rfl,rfl,_⟩ | ⟨hj,q1⟩
  ·trivial
  ·have h1:=E.ent j e q1
   refine h1.loc (λb hb=>rfl) sR λb hb=>?_
   show (if b∈B.fp then H b else R b)=none
   rw [if_neg (show¬b∈B.fp from λw=>hj (E.ds j i e _ b q1 hΓ hb w))];exact (Ent.fI h1 hb).2
 ·rcases set_at q with ⟨rfl,rfl,_⟩ | ⟨hj,q1⟩
  ·cases w
  ·exact E.nw j e b q1 w
 ·rcases set_at q with ⟨rfl,rfl,_⟩ | ⟨hj,q1⟩
  ·cases w
  ·rcases set_at q' with ⟨rfl,rfl,_⟩ | ⟨hk,q1'⟩
   ·cases w'
   ·exact E.ds _ _ _ _ b q1 q1' w w'
theorem gf.pair {K:PySem.W.Frag}{H R R':Hp}(sR:ak R R'):∀{bs:List Addr} {yss:List (List α)},(∀b∈bs,R' b=H b)->gf K r H R bs yss->(∀xs∈yss,xs.length<=sizeLine)->PySem.Paired ((ae r).R K R') (bs.map .ref) yss
 | [],[],_,_,_=>.nil
 | [],_::_,_,h,_=>absurd h.1 (by simp)
 | _::_,[],_,h,_=>absurd h.1 (by simp)
 | b::bs,ys::yss,hm,h,hz=>by
   obtain ⟨ws,q1,q2⟩:=h.2 0 b ys rfl rfl
   exact .cons ⟨b,ws,rfl,(hm b List.mem_cons_self).trans q1,Paired.map (λ_ _=>r.mono sR) q2,hz ys List.mem_cons_self⟩ (gf.pair sR (λc hc=>hm c (List.mem_cons_of_mem _ hc)) ⟨by simpa using h.1,λi c xs h1 h2=>h.2 (i + 1) c xs (by simpa using h1) (by simpa using h2)⟩ λxs hx=>hz xs (List.mem_cons_of_mem _ hx))
theorem WS.D6 (i:Nat){sts:List Stmt}(hΓ:Γ[i]?=some (.ob (dH r a as xss)))(hz:xss.length<=sizeLine)(hzi:∀xs∈xss,xs.length<=sizeLine)(h:WS X sts (Γ.set i (.im (ae (ae r)) xss)) N T):WS X sts Γ N T:=λσ H0 R0 H R E D dn dr=>by
 obtain ⟨⟨v,ea,rfl,ha,hr,nd⟩,hR⟩:=E.ent i _ hΓ
 obtain ⟨E1,sR⟩:=E.Fb hΓ
 have hl:i < Γ.length:=(List.getElem?_eq_some_iff.mp hΓ).1
 have E2:=E1.tell (i:=i) (e0:=.no) (en:=.im (ae (ae r)) xss) (List.getElem?_set_self hl) ⟨.ref a,ea,a,_,rfl,(if_pos List.mem_cons_self).trans ha,gf.pair sR (λb hb=>if_pos (List.mem_cons_of_mem _ hb)) hr hzi,hz⟩ λb w=>by cases w
 rw [List.set_set] at E2
 exact h σ H0 R0 H _ E2 D (λσ2 H2 R2 Γ2 E3 s2=>dn σ2 H2 R2 Γ2 E3 (sR.trans s2)) dr
theorem zx (i j:Nat){x y:Str}{b:Expr}{p p2:Pos}{k:Int}(hb:EV X b Γ ab k Γ1)(hΓ:Γ[i]?=some (.ob (dH r a as xss)))(hΓ1:Γ1[i]?=some (.ob (dH r a as xss)))(hk:eJ xss.length k=some n)(h:∀c,as[n]?=some c->N (Γ1.set j (.im lX c)))
 (hNx:X.N[i]?=some x:=by rfl) (hv:cy X.env.scope x:=by first | exact Or.inl rfl | exact Or.inr (Or.inl rfl) | exact Or.inr (Or.inr rfl))
 (hd:(x==("__debug__":Str))=false:=by decide) (hcd:(x==("__classdict__":Str))=false:=by decide) (hsx:dY b:=by exact λ_ _=>rfl)
 (hN:X.N.Nodup:=by first | assumption | decide) (hi:X.N[j]?=some y:=by rfl) (hx:Loc X.env.scope y:=by first | exact Or.inl rfl | exact Or.inr rfl)
 (hs:swapsWith (.Subscript (.Name x p) b p2) (some (.Name y p1)) pos.line X.env=pure false:=by rfl) (hf:X.fn y=true∨X.env.scope.names.lookup y=some .local:=by first | exact .inl rfl | exact .inr rfl):
 W1 X (.Assign [.Name y p1] (.Subscript (.Name x p) b p2) pos) Γ N T:=λσ H0 R0 H R E D dn dr=>by
 obtain ⟨⟨v,ea,rfl,ha,hr,_⟩,hR⟩:=E.ent i _ hΓ
 refine sS (iL hN hi hx aJ hs hf) (eS (hJ gB (bc hNx hv hd hcd) aJ hsx) ⟨.ref a,at_of ea,hb σ H0 R0 H R E _ λu H2 R2 E2 s2 e2=>?_⟩)
 obtain ⟨⟨v,ea2,rfl,ha2,hr2,nd⟩,hR2⟩:=E2.ent i _ hΓ1
 have hl:n < as.length:=by rw [hr2.1];exact (my hk).2.1
 refine ⟨a,_,k,.ref as[n],rfl,e2,aM.of ha2,Ck (by rw [hr2.1];exact hk) (List.getElem?_eq_getElem hl),?_⟩
 exact dn _ H2 R2 _ (E2.set j (r:=lX) (x:=as[n]) rfl) s2 (h _ (List.getElem?_eq_getElem hl))
theorem wO (i j:Nat){y:Str}{p:Pos}{c:Addr}{xs:List α}(hm:X.mg "len"=none)(hΓ:Γ[i]?=some (.ob (dH r a as xss)))(hj:Γ[j]?=some (.im lX c))(hc:as[n]?=some c)(hx:xss[n]?=some xs)
 (hN:X.N[j]?=some y:=by rfl) (hv:cy X.env.scope y:=by first | exact Or.inl rfl | exact Or.inr (Or.inl rfl) | exact Or.inr (Or.inr rfl)) (hd:(y==("__debug__":Str))=false:=by decide) (hcd:(y==("__classdict__":Str))=false:=by decide)
 (hs:starEach [.Name y p1] X.env=[(false,eval (.Name y p1) X.env)]:=by rfl) (hg:Gl X "len":=by rfl):EV X (.Call (.Name "len" p) [.Name y p1] [] pos) Γ ab (xs.length:Int) Γ:=λσ H0 R0 H R E Q q=>by
 obtain ⟨⟨v,ea,rfl,ha,hr,nd⟩,hR⟩:=E.ent i _ hΓ
 obtain ⟨v0,e0,hv0⟩:=E.ent j _ hj
 cases hv0
 obtain ⟨ws,q1,q2⟩:=hr.2 n c xs hc hx
 refine eS (dk eV hg hm PySem.boot_len (aR (bc hN hv hd hcd) bt hs) (by decide) (by decide) hs) ⟨.ref c,at_of e0,c,_,rfl,.inl (aM.of q1),?_⟩
 rw [q2.length]
 exact q _ H R E (ak.refl _) rfl
theorem pV {P:V->α->Prop}{v:V}{y:α}(k:Nat):∀{vs:List V} {xs:List α},P v y->PySem.Paired P vs xs->PySem.Paired P (bJ k v vs) (bJ k y xs):=by
 induction k with
 | zero=>exact λh p=>.cons h p
 | succ k ih=>
   intro vs xs h p
   cases p with
   | nil=>exact .cons h .nil
   | cons a t=>exact .cons a (ih h t)
theorem yJ (i j:Nat){x:Str}{e1 e2:Expr}{ap cp:Pos}{c:Addr}{xs:List α}{y:α}{k:Int}(h1:EV X e1 Γ ab k Γ1)(h2:EV X e2 Γ1 r y Γ2)(hΓ:Γ[i]?=some (.ob (dH r a as xss)))(hj:Γ[j]?=some (.im lX c))(hc:as[n]?=some c)(hΓ2:Γ2[i]?=some (.ob (dH r a as xss)))(hx:xss[n]?=some xs)
 (k0:0<=k) (k1:k<=(xs.length:Int)) (hz:xs.length < sizeLine) (h:N (Γ2.set i (.ob (dH r a as (xss.set n (bJ k.toNat y xs))))))
 (hN:X.N[j]?=some x:=by rfl) (hv:cy X.env.scope x:=by first | exact Or.inl rfl | exact Or.inr (Or.inl rfl) | exact Or.inr (Or.inr rfl))
 (hd:(x==("__debug__":Str))=false:=by decide) (hcd:(x==("__classdict__":Str))=false:=by decide)
 (hsw:swapsWith (.Call (.Attribute (.Name x p1) "insert" ap) [e1,e2] [] cp) none pos.line X.env=pure false:=by rfl)
 (hbase:attributeBase (.Name x p1) "insert" X.env (eval (.Name x p1) X.env)=eval (.Name x p1) X.env:=by rfl)
 (hfew:((backTo cp (starEach [e1,e2] X.env)).all (λx=> !x.1)&&(backToKw cp (keywordEach [] X.env)).all (λx=>x.1.isSome)
  &&decide ([e1,e2].length + ([]:List Keyword).length + (if ([]:List Keyword).isEmpty then 0 else 1) < 30))=true:=by rfl)
 (hline:(ap.endLine==cp.line)=true:=by rfl) (hs:starEach [e1,e2] X.env=(false,eval e1 X.env)::starEach [e2] X.env:=by rfl) (hs2:starEach [e2] X.env=(false,eval e2 X.env)::starEach [] X.env:=by rfl) (hpl:(backTo cp (starEach [e2] X.env)).any (·.1)=false:=by rfl):
 W1 X (.Expr (.Call (.Attribute (.Name x p1) "insert" ap) [e1,e2] [] cp) pos) Γ N T:=λσ H0 R0 H R E D dn dr=>by
 obtain ⟨⟨v,ea,rfl,ha,hr,nd⟩,hR⟩:=E.ent i _ hΓ
 obtain ⟨v0,e0,hv0⟩:=E.ent j _ hj
 cases hv0
 obtain ⟨ws,q1,q2⟩:=hr.2 n c xs hc hx
 refine sS (gx (iT PySem.F.plainAttrs_list PySem.F.slot_list_insert PySem.F.type_list_insert tG (bc hN hv hd hcd) (aR aJ (aR aJ bt hs2) hs) hbase hfew hline hs hpl) hsw) ?_
 refine ⟨.ref c,at_of e0,.inl ⟨rfl,_,aM.of q1⟩,h1 σ H0 R0 H R E _ λv1 H1 R1 E1 s1 r1=>h2 σ H0 R0 H1 R1 E1 _ λv2 H2 R2 E2 s2 r2=>?_⟩
 cases r1
 obtain ⟨⟨v,ea2,rfl,ha2,hr2,nd2⟩,hR2⟩:=E2.ent i _ hΓ2
 obtain ⟨ws2,q3,q4⟩:=hr2.2 n c xs hc hx
 obtain ⟨n1,n2⟩:=List.nodup_cons.mp nd2
 have cm:c∈as:=List.mem_of_getElem? hc
 refine ⟨c,ws2,k,v2,rfl,rfl,q3,k0,by rw [q4.length];exact k1,by rw [q4.length];exact hz,?_⟩
 refine dn σ _ R2 _ (E2.me (en:=.ob (dH r a as (xss.set n (bJ k.toNat y xs)))) hΓ2 (List.mem_cons_of_mem _ cm) ⟨⟨.ref a,ea2,rfl,?_,hr2.put n2 hc (pV _ r2 q4),nd2⟩,hR2⟩ λc w=>.inl w) (s1.trans s2) h
 rw [aw (show a≠c from λz=>n1 (z▸cm))];exact ha2
end
section
variable {X:Cx}{tg:Expr}{x:Str}
def ES (x:Str):It:=⟨λi _=>i < x.cps.size,λi H v H'=>H'=H/\v= .str (h9 x i),λi _=>x.cps.size<=i⟩
theorem vI {P:Program}{w:World}{K:PySem.W.Frag}(x:Str)(t:Tok)(it:Addr):Turn P w K tg (ES x) [it] it (λi h=>h.IsStrIter it "str_ascii_iterator" x t i) where
 mem:=by simp
 obj:=λi h st b hb=>by
  have e:b=it:=by simpa using hb
  subst e
  obtain ⟨o,e,c,d⟩:=st
  exact ⟨o,e,λv z=>by rw [d] at z;cases z⟩
 keep:=λi h h' st k=>by
  obtain ⟨o,e,r⟩:=st
  exact ⟨o,k it (by simp) o e,r⟩
 item:=by
  intro X hP hw hK hc i pins s σ H E I hf st hg
  subst hP hw hK
  obtain ⟨f0,f1,f2,f3,f4,f5⟩:=hf it (by simp)
  have W:=Walks.strAscii (prog:=X.prog) (w:=X.w) (I.ok.hd hc) it x t
  refine W.item i s _ _ hg st λv h' tk hv st' kk=>?_
  obtain ⟨c,u,hx,rfl⟩:=hv
  have I1:Inv X pins σ H {s with heap:=h',toks:=tk}:=I.turned (λb o hb e=>kk b o (by simpa using hb) e) f0 f1 f3 f4 f5
  obtain ⟨o,e,cc,d⟩:=id st'
  have hch:h9 x i=⟨#[c]⟩:=by unfold h9;rw [show x.cps.getD i 0=c by rw [Array.getD_eq_getD_getElem?,hx];rfl]
  exact ⟨_,rfl,jT (s:={s with heap:=h',toks:=tk}) e cc d (by decide) ⟨.str (h9 x i),H,I1,⟨u,by rw [hch]⟩,⟨rfl,rfl⟩,st',λb hb=>(hf b hb).1⟩⟩
 done:=by
  intro X hP hw hK hc i pins s σ H E I hf st hg
  subst hP hw hK
  obtain ⟨f0,f1,f2,f3,f4,f5⟩:=hf it (by simp)
  exact wpAny_pyNext_ascii_end (I.ok.hd hc) st (by have:x.cps.size<=i:=hg;simp [this]) λh' eb=>⟨rfl,I.turned (t':=s.toks) (λb o hb e=>eb b o hb e) f0 f1 f3 f4 f5⟩
 self:=λ_ _ _ _ _ st h=>wpAny_pyIter_striter_ascii st h
def FT (tl:TE):TI:=λσ H R=>tl σ H λx H1=>∃z:Str,x= .str z/\z.cps.all (· < 128)=true/\R (ES z) H1
theorem z7 {l:Expr}{tl:TE}(hl:PE X l tl):PI X tg l (FT tl):=by
 intro pins s σ H R I h
 refine aF (hl pins s σ H _ I h) λv s1 ⟨x,H1,I1,r1,q1⟩=>?_
 obtain ⟨z,e,ha,q⟩:=q1
 subst e
 obtain ⟨t,rfl⟩:=r1
 refine wpAny_pyIter_ascii ha ?_
 refine ⟨s1.heap.objs.size,[s1.heap.objs.size],_,_,H1,rfl,I1.kept (t':=s1.toks) λb o e=>Heap.get?_push_of_some _ e,vI z t _,⟨_,Heap.get?_push_size _ rfl,rfl,rfl⟩,λb hb=>?_,q⟩
 have e:b=s1.heap.objs.size:=by simpa using hb
 subst e
 exact I1.eR (Nat.le_refl _) (I1.hok.fresh (Nat.le_refl _))
def eE (x:Str):List Str:=(List.range x.cps.size).map (h9 x)
theorem t8 {Γ Γ1:Ga}{a:Expr}(ha:EV X a Γ af x Γ1)(hx:x.cps.all (· < 128)=true)(hz:x.cps.size<=sizeLine):IV X tg a Γ af (eE x) Γ1:=by
 refine ⟨_,z7 aJ,λσ H0 R0 H R E Rq q=>ha σ H0 R0 H R E _ λv H1 R1 E1 s1 e1=>?_⟩
 cases e1
 refine ⟨x,rfl,hx,q _ H1 R1 E1 s1 (by unfold eE;rw [List.length_map,List.length_range];exact hz) λH' R' sR sH i=>⟨λy hy=>?_,λhi=>?_⟩⟩
 ·unfold eE at hy
  rw [List.getElem?_map] at hy
  obtain ⟨j,hj,rfl⟩:=Option.map_eq_some_iff.mp hy
  obtain ⟨hl,e⟩:=List.getElem?_eq_some_iff.mp hj
  rw [List.length_range] at hl
  rw [List.getElem_range] at e
  subst e
  refine ⟨hl,λv' H2 hy=>?_⟩
  obtain ⟨rfl,rfl⟩:=hy
  exact ⟨R',Ext.refl sH,rfl⟩
 ·unfold eE at hi
  rw [List.length_map,List.length_range] at hi
  exact hi
theorem oR {α:Type}(l:List α):∀m,m<=l.length->(List.range m).filterMap (l[·]?)=l.take m
 | 0,_=>rfl
 | m + 1,h=>by
   rw [List.range_succ,List.filterMap_append,oR l m (by omega),List.take_succ]
   simp [List.getElem?_eq_getElem (show m < l.length by omega)]
def eF (x:Str):Str:=⟨(x.cps.toList.take 7).toArray⟩
theorem Fw:∀n,n<=8->Builtin.Str.strSliceIndices none (some 7) 1 n=List.range (min n 7):=by
 intro n hn
 have:∀j:Fin 9,Builtin.Str.strSliceIndices none (some 7) 1 j.val=List.range (min j.val 7):=by decide +kernel
 exact this ⟨n,by omega⟩
theorem DB (hx:x.length<=8):((List.range (min x.length 7)).filterMap (x.cps[·]?)).toArray=(x.cps.toList.take 7).toArray:=by
 have hl:x.cps.toList.length=x.length:=by simp [Str.length]
 have e:(List.range (min x.length 7)).filterMap (x.cps[·]?)=(List.range (min x.length 7)).filterMap (x.cps.toList[·]?):=by
  congr 1
  funext i
  simp
 rw [e,oR _ _ (by omega)]
 congr 1
 by_cases h:x.length<=7
 ·rw [Nat.min_eq_left h,← hl,List.take_length,List.take_of_length_le (by omega)]
 ·rw [Nat.min_eq_right (by omega)]
def Fh:V->Option Int->Option Int->Hp->VK->Prop:=λx lo hi H Q=>∃z:Str,x= .str z/\lo=none/\hi=some 7/\z.length<=8/\Q (.str (eF z)) H
theorem F6:uT X Fh:=by
 intro pins s σ H x v vl vu lo hi sl Q I rx hs pl pu h
 obtain ⟨z,rfl,rfl,rfl,hz,q⟩:=h
 obtain ⟨t,rfl⟩:=rx
 cases pl
 cases pu with
 | int _ tu=>
   refine ⟨"str",_,PySem.F.slot_str_getitem.lookup,typeIs_str _ _ _,wpAny_getItem_str_slice (l:=none) (u:=some (7,tu)) (st:=none) hs rfl ?_⟩
   have e:slicePicked z none (some (7,tu)) none=List.range (min z.length 7):=Fw z.length hz
   unfold sliceMade
   rw [e,List.length_range]
   split
   ·rename_i hh
    have hl:min z.length 7=z.length:=by simpa using hh
    have hp:eF z=z:=by
     unfold eF
     rw [List.take_of_length_le (by simp [Str.length] at hl ⊢;omega)]
    rw [hp] at q
    exact ⟨.str z,H,I,⟨t,rfl⟩,q⟩
   ·rw [DB hz]
    refine ⟨?_,.str (eF z),H,I.tok _,⟨_,rfl⟩,q⟩
    show (List.take 7 z.cps.toList).toArray.size<=sizeLine
    rw [List.size_toArray,List.length_take]
    exact Nat.le_trans (Nat.min_le_left _ _) (by decide)
theorem zP {Γ:Ga}{a:Expr}{j:Nat}{p1 p2 pos:Pos}(ha:EV X a Γ af x Γ)(hx:x.length<=8):EV X (.Subscript a (.Slice none (some (.Constant (.int 7) j p1)) none p2) pos) Γ af (eF x) Γ:=by
 intro σ H0 R0 H R E Q q
 obtain ⟨tl,pl,kl⟩:=(ov_none:OV X none Γ none)
 obtain ⟨th,ph,kh⟩:=(ov_some ev_int:OV X (some (.Constant (.int 7) j p1)) Γ (some 7))
 refine eS (i5 F6 aJ pl ph) (ha σ H0 R0 H R E _ λv H1 R1 E1 s1 e1=>kl σ H0 R0 H1 R1 E1 _ λH2 R2 E2 s2=>kh σ H0 R0 H2 R2 E2 _ λH3 R3 E3 s3=>?_)
 cases e1
 exact ⟨x,rfl,rfl,rfl,hx,q _ _ _ E3 (s1.trans (s2.trans s3)) rfl⟩
end
end Fc
namespace K1
open PySem L2 Fc
open PySem.Spec hiding Row
open PyProof.Rows hiding St
section
variable {x:Str}
def gi (names:List Str)(x c:Str):Str:=if x∈names then eF x++c else x
abbrev h7:Str:="qwer"
def oO (names:List Str)(x:Str):Str:=(eE h7).foldl (gi names) x
def cf (ns:List Int)(s:Int):Nat->List Str
 | 0=>[]
 | i + 1=>cf ns s i++[oO (cf ns s i) (nameF (aB ns (s + 2 + (i:Int))))]
def manyD (ns:List Int)(s:Int):Int:=1 + aB ns (s + 1) % 4
def cg (m:Int):Int:=([14,12,8,6]:List Int).getD (m - 1).toNat 0
def dq (i:Nat)(m:Int):List Int:=ups ((i:Int) + 1) (m - ((i:Int) + 1)).toNat
def lstF (ns:List Int)(m k:Int):Nat->List (List Th)×Int
 | 0=>([],k)
 | i + 1=>((lstF ns m k i).1++[(genL ns (dq i m) 4 true 0 ((lstF ns m k i).2,cg m)).1],(genL ns (dq i m) 4 true 0 ((lstF ns m k i).2,cg m)).2.1)
def atF (ns:List Int)(k:Int)(j:Nat):Nat:=(aB ns (k + 1) % (j:Int)).toNat
def kJ (ns:List Int)(x:List (List Th)×Int)(j:Nat):List (List Th)×Int:=
 (x.1.set (atF ns x.2 j) (bJ (aB ns (x.2 + 2) % ((x.1.getD (atF ns x.2 j) []).length:Int)).toNat (.call (j:Int)) (x.1.getD (atF ns x.2 j) [])),x.2 + 2)
def ownF (ns:List Int)(x:List (List Th)×Int):Nat->List (List Th)×Int
 | 0=>x
 | i + 1=>kJ ns (ownF ns x i) (i + 1)
def drawN (ns:List Int)(s:Int):List Str:=cf ns s (manyD ns s).toNat
def drawL (ns:List Int)(s:Int):List (List Th):=(ownF ns (lstF ns (manyD ns s) (s + 1 + manyD ns s) (manyD ns s).toNat) (manyD ns s - 1).toNat).1
theorem qU (ns:List Int)(s:Int):1<=manyD ns s/\manyD ns s<=4:=by
 unfold manyD
 have:=Int.emod_nonneg (aB ns (s + 1)) (show (4:Int)≠0 by decide)
 have:=Int.emod_lt_of_pos (aB ns (s + 1)) (show (0:Int) < 4 by decide)
 omega
theorem tO {m:Int}(h1:1<=m)(h4:m<=4):6<=cg m/\cg m<=14:=by
 have:∀j:Fin 4,6<=([14,12,8,6]:List Int).getD j.val 0/\([14,12,8,6]:List Int).getD j.val 0<=14:=by decide
 exact this ⟨(m - 1).toNat,by omega⟩
theorem oa (x:Str):(eF x).length<=7:=by
 unfold eF
 show (List.take 7 x.cps.toList).toArray.size<=7
 rw [List.size_toArray,List.length_take];omega
theorem wN {c:Nat}(h:c∈(eF x).cps.toList):c∈x.cps.toList:=by
 unfold eF at h
 have:c∈List.take 7 x.cps.toList:=by simpa using h
 exact List.mem_of_mem_take this
theorem lL {c:Str}(h:c∈eE h7):bK c/\c.length=1:=by
 have:∀c∈eE h7,((1<=c.length/\c.length<=8)/\∀d∈c.cps.toList,97<=d/\d<=122)/\c.length=1:=by decide +kernel
 obtain ⟨⟨⟨a,b⟩,d⟩,e⟩:=this c h
 exact ⟨⟨a,b,d⟩,e⟩
theorem Ay {names:List Str}{c:Str}(hx:bK x)(hc:bK c/\c.length=1):bK (gi names x c):=by
 unfold gi
 split
 ·refine ⟨?_,?_,λd hd=>?_⟩
  ·rw [len_app,hc.2];omega
  ·rw [len_app,hc.2];have:=oa x;omega
  ·rcases lY hd with z | z
   ·exact hx.az d (wN z)
   ·exact hc.1.az d z
 ·exact hx
theorem jB {names:List Str}:∀{cs:List Str} {x:Str},bK x->(∀c∈cs,bK c/\c.length=1)->bK (cs.foldl (gi names) x)
 | [],_,hx,_=>hx
 | c::cs,x,hx,h=>jB (cs:=cs) (x:=gi names x c) (Ay hx (h c List.mem_cons_self)) λd hd=>h d (List.mem_cons_of_mem _ hd)
theorem zS {names:List Str}(hx:bK x):bK (oO names x):=jB hx λc hc=>lL hc
theorem iQ (ns:List Int)(s:Int):∀i,(cf ns s i).length=i
 | 0=>rfl
 | i + 1=>by rw [cf,List.length_append,iQ ns s i];rfl
theorem ud (ns:List Int)(s:Int):∀i,∀x∈cf ns s i,bK x
 | 0,x,h=>by cases h
 | i + 1,x,h=>by
   rw [cf] at h
   rcases List.mem_append.mp h with z | z
   ·exact ud ns s i x z
   ·rw [List.mem_singleton.mp z];exact zS (fw _)
theorem iq (ns:List Int)(m k:Int):∀i,(lstF ns m k i).1.length=i
 | 0=>rfl
 | i + 1=>by rw [lstF,List.length_append,iq ns m k i];rfl
theorem F8:g8 4=177776:=rfl
theorem xc (ns:List Int)(m k:Int)(hb:0<=cg m):∀i:Nat,k<=(lstF ns m k i).2/\(lstF ns m k i).2<=k + 177776 * (i:Int)
 | 0=>⟨Int.le_refl _,by show k<=_;omega⟩
 | i + 1=>by
   obtain ⟨a,b⟩:=xc ns m k hb i
   obtain ⟨c,d⟩:=(fU ns (dq i m) 4 true 0 ((lstF ns m k i).2,cg m) hb).k
   rw [F8] at d
   dsimp only at c d
   rw [lstF]
   dsimp only
   exact ⟨by omega,by push_cast;omega⟩
theorem AF (ns calls:List Int)(c k:Int)(hc:0 < c):0 < (genL ns calls 4 true 0 (k,c)).1.length:=by
 rw [iC]
 have hm:2<=dm ns true k:=by
  unfold dm
  have:=Int.emod_nonneg (aB ns (k + 1)) (show (4:Int)≠0 by decide)
  simp;omega
 have key:∀(f:List Th×Pn->List Th×Pn) (x:List Th×Pn),(∀y,y.1.length<=(f y).1.length)->0 < (f x).1.length->∀m,1<=m->0 < (itG f m x).1.length:=by
  intro f x h1 h2 m
  induction m with
  | zero=>intro h;omega
  | succ m ih=>
    intro _
    rw [itG]
    cases m with
    | zero=>exact h2
    | succ m=>exact Nat.lt_of_lt_of_le (ih (by omega)) (h1 _)
 refine key _ _ (λy=>?_) ?_ _ (show 1<=dm ns true k by omega)
 ·unfold e8
  split
  ·split<;>simp
  ·exact Nat.le_refl _
 ·unfold e8
  rw [if_pos ⟨hc,by simp [cq]⟩]
  split<;>simp
theorem uf (ns:List Int)(m k:Int)(hb:0 < cg m):∀i,∀L∈(lstF ns m k i).1,0 < L.length/\L.length<=5
 | 0,L,h=>by cases h
 | i + 1,L,h=>by
   rw [lstF] at h
   rcases List.mem_append.mp h with z | z
   ·exact uf ns m k hb i L z
   ·rw [List.mem_singleton.mp z]
    exact ⟨AF ns _ _ _ hb,(fU ns (dq i m) 4 true 0 ((lstF ns m k i).2,cg m) (Int.le_of_lt hb)).l⟩
theorem uk {α:Type}(k:Nat)(y:α)(xs:List α):(bJ k y xs).length=xs.length + 1:=by
 unfold bJ
 rw [List.length_append,List.length_cons,List.length_take,List.length_drop];omega
theorem mem_set {α:Type}{l:List α}{i:Nat}{x y:α}(h:y∈l.set i x):y∈l∨y=x:=List.mem_or_eq_of_mem_set h
theorem qz (ns:List Int)(x:List (List Th)×Int)(hx:∀L∈x.1,0 < L.length/\L.length<=5):∀i,(ownF ns x i).1.length=x.1.length/\(ownF ns x i).2=x.2 + 2 * (i:Int)/\∀L∈(ownF ns x i).1,0 < L.length/\L.length<=5 + i
 | 0=>⟨rfl,by show x.2=_;omega,λL h=>⟨(hx L h).1,(hx L h).2⟩⟩
 | i + 1=>by
   obtain ⟨a,b,c⟩:=qz ns x hx i
   rw [ownF]
   refine ⟨by unfold kJ;dsimp only;rw [List.length_set];exact a,by unfold kJ;dsimp only;rw [b];push_cast;omega,λL h=>?_⟩
   unfold kJ at h
   dsimp only at h
   rcases mem_set h with z | z
   ·have:=c L z;omega
   ·rw [z,uk]
    generalize hn:atF ns (ownF ns x i).2 (i + 1)=n
    refine ⟨by omega,?_⟩
    rw [List.getD_eq_getElem?_getD]
    cases e:(ownF ns x i).1[n]? with
    | none=>show 0 + 1<=_;omega
    | some L'=>
      have:=(c L' (List.mem_of_getElem? e)).2
      show L'.length + 1<=_
      omega
end
section
variable {P:Program}{w:World}{K:PySem.W.Frag}{mg:Str->Option Value}{base:Heap}{f:Addr}{fd:FuncData}
abbrev xO:Stmt:=top nj
abbrev nDR:List Str:=["_law_script","_law_start","_law_pen","_law_many","_law_names","_law_k","_law_name_here","_law_letter","_law_lists","_law_items"]
theorem z3:aE nDR ["_law_script","_law_start"] (ag xO):=⟨rfl,rfl,rfl,by decide +kernel,rfl,by decide +kernel,by decide +kernel⟩
def E7:cX:=λK ps T=>∃(ns:List Int) (s:Int),ps=[⟨bp,ns⟩,⟨ab,s⟩]/\sO ns/\0<=s/\s<=1000/\T=cF K (fD (ae af) (ae (ae au))) (· =(drawN ns s,(drawL ns s).map a9))
theorem BW {K:PySem.W.Frag}{R:Hp}{vs:List V}{ns:List Int}{k c:Int}{ts:List Th}(h1:PySem.Paired (aX.R K R) vs (aQ ns k c))(h2:PySem.Paired (au.R K R) vs (a9 ts)):False:=by
 cases h1 with
 | cons a1 t1=>cases t1 with
   | cons a2 t2=>
     have e2:_=V.int k:=a2
     subst e2
     cases ts with
     | nil=>rw [a9] at h2;cases h2
     | cons x ts=>rw [a9] at h2;cases h2 with
       | cons b1 u1=>cases ts with
         | nil=>rw [a9] at u1;cases u1
         | cons y ts=>rw [a9] at u1;cases u1 with
           | cons b2 u2=>
             have b2:fR R (.int k) (du y):=b2
             rw [fN] at b2
             cases b2
theorem Cs (M:cv K mg)(CP:aG P w K mg base "_law_pull" 2 (d6 aX pA K))(CN:aG P w K mg base "_law_name" 1 (aP wZ K))(CL:aG P w K mg base "_law_list" 16 (d6 aX EF K))(F:bw K "_law_drawn" "_law_drawn" xO f fd)(hm:mg "_law_drawn"=some (.ref f))(hb:Binds K fd ["_law_script","_law_start"] []):aG P w K mg base "_law_drawn" 17 (aP E7 K):=by
 have nd:=z3.nd
 have CP:=CP.mono (show 2<=16 by decide)
 have CN:=CN.mono (show 1<=16 by decide)
 refine bu (k:=16) F z3 hm hb (λqs T ⟨_,_,e,_⟩=>by rw [e];rfl) (λcdv A outer st H E qs T hr hS=>?_)
 obtain ⟨ns,s,rfl,hs,s0,s1,rfl⟩:=hS
 obtain ⟨m1,m4⟩:=qU ns s
 change WS _ _ [.im bp ns,.im ab s,.no,.no,.no,.no,.no,.no,.no,.no] _ _
 refine aj (cQ 2 (r:=aX) (ys:=aQ ns s 0) (aL (aq (EV.inl (aa 0 rfl)) (aq (EV.inr (aa 1 rfl)) (aq (EV.inr ev_int) aN))) (by show 3<=sizeLine;decide)) ?_)
 change WS _ _ [.im bp ns,.im ab s,.mu aX (aQ ns s 0),.no,.no,.no,.no,.no,.no,.no] _ _
 refine aj (aZ 3 (y:=manyD ns s) (bX ev_int (cn (gM 2 (st:=aQ ns (s + 1) 0) (z:=aB ns (s + 1)) CP hr ax rfl rfl ⟨ns,s,0,rfl,rfl,hs,s0,by omega,rfl⟩) ev_int (by decide))) ?_)
 generalize hM:manyD ns s=m at m1 m4
 change WS _ _ [.im bp ns,.im ab s,.mu aX (aQ ns (s + 1) 0),.im ab m,.no,.no,.no,.no,.no,.no] _ _
 refine aj (cQ 4 (r:=af) (ys:=[]) (aL aN (Nat.zero_le _)) ?_)
 refine bL (N1:=λΓ=>∃e5 e6 e7,Γ=[.im bp ns,.im ab s,.mu aX (aQ ns (s + 1 + m) 0),.im ab m,.mu af (drawN ns s),e5,e6,e7,.no,.no]) (cj (λi Γ=>∃e5 e6 e7,Γ=[.im bp ns,.im ab s,.mu aX (aQ ns (s + 1 + (i:Int)) 0),.im ab m,.mu af (cf ns s i),e5,e6,e7,.no,.no]) (dR M.range (aa 3 rfl) ⟨by omega,by omega⟩) (bg 5) ⟨_,_,_,by rw [show s + 1 + ((0:Nat):Int)=s + 1 from Int.add_zero _];rfl⟩ (λi j Γ hj hΓ=>?_) (λΓ hΓ=>?_)) ?_
 ·obtain ⟨e5,e6,e7,rfl⟩:=hΓ
  obtain ⟨jl,ej⟩:=fb hj
  obtain rfl:j=(i:Int):=by omega
  have b:=qY ns (s + 1 + (i:Int) + 1)
  change WS _ _ [.im bp ns,.im ab s,.mu aX (aQ ns (s + 1 + (i:Int)) 0),.im ab m,.mu af (cf ns s i),.im ab (i:Int),e6,e7,.no,.no] _ _
  refine aj (aZ 6 (y:=nameF (aB ns (s + 1 + (i:Int) + 1))) (aI CN hr (ah (gM 2 (st:=aQ ns (s + 1 + (i:Int) + 1) 0) (z:=aB ns (s + 1 + (i:Int) + 1)) CP hr ax rfl rfl ⟨ns,_,0,rfl,rfl,hs,by omega,by omega,rfl⟩) ax) ⟨_,rfl,b.1,b.2,rfl⟩) ?_)
  have hx:=fw (aB ns (s + 1 + (i:Int) + 1))
  have he:s + 1 + (i:Int) + 1=s + 2 + (i:Int):=by omega
  have hnext:cf ns s (i + 1)=cf ns s i++[oO (cf ns s i) (nameF (aB ns (s + 1 + (i:Int) + 1)))]:=by rw [cf,he]
  generalize nameF (aB ns (s + 1 + (i:Int) + 1))=x at hx hnext
  have hlen:=iQ ns s i
  change WS _ _ [.im bp ns,.im ab s,.mu aX (aQ ns (s + 1 + (i:Int) + 1) 0),.im ab m,.mu af (cf ns s i),.im ab (i:Int),.im af x,e7,.no,.no] _ _
  have hfold:∀n,bK (((eE h7).take n).foldl (gi (cf ns s i)) x):=λn=>jB hx λc hc=>lL (List.mem_of_mem_take hc)
  refine bL (N1:=λΓ=>∃e7,Γ=[.im bp ns,.im ab s,.mu aX (aQ ns (s + 1 + (i:Int) + 1) 0),.im ab m,.mu af (cf ns s i),.im ab (i:Int),.im af (oO (cf ns s i) x),e7,.no,.no]) (cj (λn Γ=>∃e7,Γ=[.im bp ns,.im ab s,.mu aX (aQ ns (s + 1 + (i:Int) + 1) 0),.im ab m,.mu af (cf ns s i),.im ab (i:Int),.im af (((eE h7).take n).foldl (gi (cf ns s i)) x),e7,.no,.no]) (t8 (x:=h7) ar (by decide +kernel) (by decide +kernel)) (bg 7) ⟨_,rfl⟩ (λn c Γ hc hΓ=>?_) (λΓ hΓ=>?_)) ?_
  ·obtain ⟨e7,rfl⟩:=hΓ
   have hf:=hfold n
   have hstep:((eE h7).take (n + 1)).foldl (gi (cf ns s i)) x=gi (cf ns s i) (((eE h7).take n).foldl (gi (cf ns s i)) x) c:=by
    rw [List.take_succ,hc,List.foldl_append];rfl
   rw [hstep]
   generalize ((eE h7).take n).foldl (gi (cf ns s i)) x=z at hf
   have cl:=(lL (List.mem_of_getElem? hc)).2
   change WS _ _ [.im bp ns,.im ab s,.mu aX (aQ ns (s + 1 + (i:Int) + 1) 0),.im ab m,.mu af (cf ns s i),.im ab (i:Int),.im af z,.im af c,.no,.no] _ _
   refine ai (bq (TV.frz (uO (i:=4) rfl (aK (by rw [hlen];omega))) (aA nR (aa 6 rfl) (aa 4 rfl))) (λh=>?_) (λh=>aT ⟨.im af c,?_⟩))
   ·have h:z∈cf ns s i:=of_decide_eq_true h
    refine ai (aZ 6 (y:=gi (cf ns s i) z c) (EV.cast (mx (zP (aa 6 rfl) hf.l8) (aa 7 rfl) (Nat.le_trans (show _<=8 by have:=oa z;omega) (by decide))) (by unfold gi;rw [if_pos h])) ⟨.im af c,rfl⟩)
   ·have h:¬z∈cf ns s i:=of_decide_eq_false h
    unfold gi;rw [if_neg h]
  ·obtain ⟨e7,rfl⟩:=hΓ
   refine ⟨e7,?_⟩
   rw [List.take_length];rfl
  rintro _ ⟨e7,rfl⟩
  refine ai (ft 4 (aa 6 rfl) rfl rfl (Nat.lt_of_le_of_lt (show _<=10 by rw [hlen];omega) (by decide)) ⟨.im ab (i:Int),.im af (oO (cf ns s i) x),e7,?_⟩)
  rw [hnext,show s + 1 + ((i + 1:Nat):Int)=s + 1 + (i:Int) + 1 by push_cast;omega]
  rfl
 ·obtain ⟨e5,e6,e7,rfl⟩:=hΓ
  rw [bE]
  refine ⟨e5,e6,e7,?_⟩
  unfold drawN
  rw [hM,show ((m.toNat:Nat):Int)=m by omega]
 rintro _ ⟨e5,e6,e7,rfl⟩
 have hdN:(drawN ns s).length<=4:=by unfold drawN;rw [iQ,hM];omega
 generalize hdn:drawN ns s=dn at hdN
 obtain ⟨b6,b14⟩:=tO m1 m4
 refine aj (cQ 8 (r:=au) (ys:=[]) (aL aN (Nat.zero_le _)) ?_)
 refine WS.Dg 8 (r:=au) (rr:=au) rfl λa=>?_
 change WS _ _ [.im bp ns,.im ab s,.mu aX (aQ ns (s + 1 + m) 0),.im ab m,.mu af dn,e5,e6,e7,.ob (dH au a [] []),.no] _ _
 have kb:=xc ns m (s + 1 + m) (by omega)
 refine bL (N1:=λΓ=>∃e5 c as,Γ=[.im bp ns,.im ab s,.mu aX (aQ ns (lstF ns m (s + 1 + m) m.toNat).2 c),.im ab m,.mu af dn,e5,e6,e7,.ob (dH au a as ((lstF ns m (s + 1 + m) m.toNat).1.map a9)),.no]) (cj (λi Γ=>∃e5 c as,Γ=[.im bp ns,.im ab s,.mu aX (aQ ns (lstF ns m (s + 1 + m) i).2 c),.im ab m,.mu af dn,e5,e6,e7,.ob (dH au a as ((lstF ns m (s + 1 + m) i).1.map a9)),.no]) (dR M.range (aa 3 rfl) ⟨by omega,by omega⟩) (bg 5) ⟨_,_,_,rfl⟩ (λi j Γ hj hΓ=>?_) (λΓ hΓ=>?_)) ?_
 ·obtain ⟨e5,c,as,rfl⟩:=hΓ
  obtain ⟨jl,ej⟩:=fb hj
  obtain rfl:j=(i:Int):=by omega
  obtain ⟨k0,k1⟩:=kb i
  have hl:=iq ns m (s + 1 + m) i
  have hnx:lstF ns m (s + 1 + m) (i + 1)=((lstF ns m (s + 1 + m) i).1++[(genL ns (dq i m) 4 true 0 ((lstF ns m (s + 1 + m) i).2,cg m)).1],(genL ns (dq i m) 4 true 0 ((lstF ns m (s + 1 + m) i).2,cg m)).2.1):=rfl
  generalize lstF ns m (s + 1 + m) i=x at k0 k1 hl hnx
  rw [hnx]
  obtain ⟨Ls,k⟩:=x
  dsimp only at k0 k1 hl ⊢
  change WS _ _ [.im bp ns,.im ab s,.mu aX (aQ ns k c),.im ab m,.mu af dn,.im ab (i:Int),e6,e7,.ob (dH au a as (Ls.map a9)),.no] _ _
  have hbud:cb ([14,12,8,6]:List Int) (m - 1)=some (cg m):=aY 0 (by omega) (by show m - 1 < ((4:Nat):Int);omega)
  refine aj (qp 2 (j:=2) (EV.inr (ba (aV.im (aL (r:=ab) (aq ev_int (aq ev_int (aq ev_int (aq ev_int aN)))) (by show 4<=sizeLine;decide))) (fY (aa 3 rfl) ev_int) hbud)) ev_int rfl rfl rfl ?_)
  change WS _ _ [.im bp ns,.im ab s,.mu aX (aQ ns k (cg m)),.im ab m,.mu af dn,.im ab (i:Int),e6,e7,.ob (dH au a as (Ls.map a9)),.no] _ _
  have hcl:(dq i m).length<=100:=by unfold dq;rw [bE];omega
  refine ai (sq 8 (ys:=a9 (genL ns (dq i m) 4 true 0 (k,cg m)).1) (tF 2 (st:=aQ ns (genL ns (dq i m) 4 true 0 (k,cg m)).2.1 (genL ns (dq i m) 4 true 0 (k,cg m)).2.2) CL hr (ah ev_int (ah ev_int (ah (aV.im (ma M.list M.range (ah (bX (aa 5 rfl) ev_int) (ah (aa 3 rfl) ax)) ⟨by omega,by omega⟩ ⟨by omega,by omega⟩)) ax))) rfl rfl ⟨ns,dq i m,k,cg m,rfl,rfl,⟨hs,by omega,show k + ((177776:Nat):Int)<=900000 by omega,by omega,by omega,hcl,by decide⟩,rfl⟩ (λR vs h1 h2=>BW h1 h2)) rfl rfl (Nat.lt_of_le_of_lt (show _<=10 by rw [List.length_map,hl];omega) (by decide)) λb=>⟨.im ab (i:Int),(genL ns (dq i m) 4 true 0 (k,cg m)).2.2,as++[b],?_⟩)
  rw [List.map_append]
  rfl
 ·obtain ⟨e5,c,as,rfl⟩:=hΓ
  rw [bE]
  exact ⟨e5,c,as,rfl⟩
 rintro _ ⟨e5,c,as,rfl⟩
 have hne:=uf ns m (s + 1 + m) (by omega) m.toNat
 have hxl:=iq ns m (s + 1 + m) m.toNat
 obtain ⟨k0,k1⟩:=kb m.toNat
 have hdl:drawL ns s=(ownF ns (lstF ns m (s + 1 + m) m.toNat) (m - 1).toNat).1:=by unfold drawL;rw [hM]
 generalize lstF ns m (s + 1 + m) m.toNat=x at hne hxl k0 k1 hdl
 have hinv:=qz ns x hne
 refine bL (N1:=λΓ=>∃e5 e9 k as,Γ=[.im bp ns,.im ab s,.mu aX (aQ ns k c),.im ab m,.mu af dn,e5,e6,e7,.ob (dH au a as ((drawL ns s).map a9)),e9]) (cj (λi Γ=>∃e5 e9 as,Γ=[.im bp ns,.im ab s,.mu aX (aQ ns (ownF ns x i).2 c),.im ab m,.mu af dn,e5,e6,e7,.ob (dH au a as ((ownF ns x i).1.map a9)),e9]) (uI M.range ev_int (aa 3 rfl) ⟨by omega,by omega,by omega,by omega⟩) (bg 5) ⟨_,_,_,rfl⟩ (λi j Γ hj hΓ=>?_) (λΓ hΓ=>?_)) ?_
 ·obtain ⟨e5,e9,as,rfl⟩:=hΓ
  obtain ⟨jl,ej⟩:=fb hj
  obtain rfl:j=((i + 1:Nat):Int):=by push_cast;omega
  obtain ⟨i1,i2,i3⟩:=hinv i
  have hnx:ownF ns x (i + 1)=kJ ns (ownF ns x i) (i + 1):=rfl
  rw [hnx]
  generalize ownF ns x i=y at i1 i2 i3
  obtain ⟨Ls,k⟩:=y
  dsimp only at i1 i2 i3
  unfold kJ
  dsimp only
  change WS _ _ [.im bp ns,.im ab s,.mu aX (aQ ns k c),.im ab m,.mu af dn,.im ab ((i + 1:Nat):Int),e6,e7,.ob (dH au a as (Ls.map a9)),e9] _ _
  have q0:=Int.emod_nonneg (aB ns (k + 1)) (show ((i + 1:Nat):Int)≠0 by omega)
  have q1:=Int.emod_lt_of_pos (aB ns (k + 1)) (show (0:Int) < ((i + 1:Nat):Int) by omega)
  have hat:atF ns k (i + 1) < Ls.length:=by unfold atF;omega
  have hix:eJ (Ls.map a9).length (aB ns (k + 1) % ((i + 1:Nat):Int))=some (atF ns k (i + 1)):=uS q0 (by rw [List.length_map];omega)
  refine aj (zx 8 9 (cn (gM 2 (st:=aQ ns (k + 1) c) (z:=aB ns (k + 1)) CP hr ax rfl rfl ⟨ns,k,c,rfl,rfl,hs,by omega,by omega,rfl⟩) (aa 5 rfl) (by omega)) rfl rfl hix λb hb=>?_)
  generalize atF ns k (i + 1)=n at hat hb
  change WS _ _ [.im bp ns,.im ab s,.mu aX (aQ ns (k + 1) c),.im ab m,.mu af dn,.im ab ((i + 1:Nat):Int),e6,e7,.ob (dH au a as (Ls.map a9)),.im lX b] _ _
  have hL:Ls[n]?=some (Ls.getD n []):=by rw [List.getD_eq_getElem?_getD,List.getElem?_eq_getElem hat];rfl
  obtain ⟨l0,l5⟩:=i3 _ (List.mem_of_getElem? hL)
  generalize Ls.getD n []=L at hL l0 l5
  have hLm:(Ls.map a9)[n]?=some (a9 L):=by rw [List.getElem?_map,hL];rfl
  have hll:((a9 L).length:Int)=(L.length:Int):=by rw [da]
  have r0:=Int.emod_nonneg (aB ns (k + 2)) (show (L.length:Int)≠0 by omega)
  have r1:=Int.emod_lt_of_pos (aB ns (k + 2)) (show (0:Int) < (L.length:Int) by omega)
  have e3:k + 1 + 1=k + 2:=by omega
  refine ai (yJ 8 9 (k:=aB ns (k + 2) % (L.length:Int)) (y:=du (.call ((i + 1:Nat):Int))) (cn (gM 2 (st:=aQ ns (k + 2) c) (z:=aB ns (k + 2)) CP hr ax rfl rfl ⟨ns,k + 1,c,rfl,rfl,hs,by omega,by omega,by rw [e3]⟩) (EV.cast (wO 8 9 M.len rfl rfl hb hLm) hll) (by omega)) (EV.cast (y:=.lst (fW (.call ((i + 1:Nat):Int)))) (EV.pL (aV.im (aL (r:=au) (aq (EV.pS ar) (aq (EV.pI (aa 5 rfl)) aN)) (by show 2<=sizeLine;decide)))) (fN _).symm) rfl rfl hb rfl hLm r0 (by rw [da];omega) (Nat.lt_of_le_of_lt (show _<=20 by rw [da];omega) (by decide)) ⟨.im ab ((i + 1:Nat):Int),.im lX b,as,?_⟩)
  rw [List.map_set,dA (bJ _ _ _),tw,← dA]
  rfl
 ·obtain ⟨e5,e9,as,rfl⟩:=hΓ
  rw [bE]
  exact ⟨e5,e9,_,as,by rw [hdl]⟩
 rintro _ ⟨e5,e9,k,as,rfl⟩
 obtain ⟨i1,i2,i3⟩:=hinv (m - 1).toNat
 rw [← hdl] at i1 i3
 refine WS.freeze 4 rfl (aK (by omega)) ?_
 refine WS.D6 8 rfl (aK (by rw [List.length_map];omega)) (λxs hxs=>?_) ?_
 ·obtain ⟨L,hL,rfl⟩:=List.mem_map.mp hxs
  exact aK (by rw [da];have:=(i3 L hL).2;omega)
 exact ai (aW (zh (ah (aa 4 rfl) (ah (aa 8 rfl) ax))) rfl)
end
mutual
def bV (lo m:Int):Bool->Th->Prop
 | _,.doo x=>bK x
 | _,.call j=>lo < j/\j < m
 | lp,.ifs x a b=>bK x/\bz lo m lp a/\bz lo m lp b
 | _,.whil x a=>bK x/\bz lo m true a
 | lp,.leave=>lp=true
 | _,.back=>True
def bz (lo m:Int):Bool->List Th->Prop
 | _,[]=>True
 | lp,t::ts=>bV lo m lp t/\(cZ t=true∨ts=[])/\bz lo m lp ts
end
section
variable {lo m:Int}{lp:Bool}
theorem gO {t:Th}:∀{a:List Th},bz lo m lp a->cq a=true->bV lo m lp t->bz lo m lp (a++[t])
 | [],_,_,ht=>by rw [List.nil_append,bz];exact ⟨ht,.inr rfl,by rw [bz];trivial⟩
 | x::a,h,hp,ht=>by
   rw [bz] at h
   rw [cq,Bool.and_eq_true] at hp
   rw [List.cons_append,bz]
   exact ⟨h.1,.inl hp.1,gO h.2.2 hp.2 ht⟩
theorem qC {t:Th}(ht:bV lo m lp t)(hp:cZ t=true):∀{k:Nat} {L:List Th},bz lo m lp L->k < L.length->bz lo m lp (bJ k t L)
 | 0,L,h,_=>by show bz lo m lp (t::L);rw [bz];exact ⟨ht,.inl hp,h⟩
 | k + 1,[],_,hk=>by cases hk
 | k + 1,x::L,h,hk=>by
   rw [bz] at h
   have hk:k < L.length:=by simpa using hk
   have hx:cZ x=true:=h.2.1.resolve_right λe=>by rw [e] at hk;cases hk
   show bz lo m lp (x::bJ k t L)
   rw [bz]
   exact ⟨h.1,.inl hx,qC ht hp h.2.2 hk⟩
theorem pX {ns calls:List Int}{sub:Option (Int->Pn->List Th×Pn)}(hc:∀j∈calls,lo < j/\j < m)(hsub:∀L,sub=some L->∀lp s,0<=lp->bz lo m (decide (0 < lp)) (L lp s).1)(loops:Int)(s:Pn)(hl:0<=loops):bV lo m (decide (0 < loops)) (thG ns calls sub loops s).1:=by
 unfold thG
 split
 ·rename_i h
  simp only [bV]
  exact decide_eq_true h.2
 split
 ·simp only [bV]
 split
 ·rename_i h
  simp only [bV]
  have hl:(0:Int) < (calls.length:Int):=by have:=h.2;omega
  have q0:=Int.emod_nonneg (aB ns (s.1 + 3)) (show (calls.length:Int)≠0 by omega)
  have q1:=Int.emod_lt_of_pos (aB ns (s.1 + 3)) hl
  have hi:(aB ns (s.1 + 3) % (calls.length:Int)).toNat < calls.length:=by omega
  rw [List.getD_eq_getElem?_getD,List.getElem?_eq_getElem hi]
  exact hc _ (List.getElem_mem hi)
 cases sub with
 | none=>simp only [bV];exact fw _
 | some L=>
   dsimp only
   split
   ·simp only [bV]
    exact ⟨fw _,hsub L rfl _ _ hl,hsub L rfl _ _ hl⟩
   split
   ·simp only [bV]
    have:=hsub L rfl (loops + 1) (s.1 + 2,s.2 - 2) (by omega)
    rw [decide_eq_true (show 0 < loops + 1 by omega)] at this
    exact ⟨fw _,this⟩
   ·simp only [bV];exact fw _
theorem qL:bK "back":=⟨by decide +kernel,by decide +kernel,by decide +kernel⟩
theorem lW {α:Type}{f:α->α}{P:α->Prop}(h:∀x,P x->P (f x)):∀n x,P x->P (itG f n x)
 | 0,_,hx=>hx
 | n + 1,x,hx=>h _ (lW h n x hx)
theorem x5 {ns calls:List Int}(hc:∀j∈calls,lo < j/\j < m):∀(n:Nat) (tp:Bool) (lp:Int) (s:Pn),0<=lp->bz lo m (decide (0 < lp)) (genL ns calls n tp lp s).1:=by
 intro n
 induction n with
 | zero=>
   intro tp lp s hl
   rw [iC]
   refine lW (P:=λ(x:List Th×Pn)=>bz lo m (decide (0 < lp)) x.1) (λx hx=>?_) _ _ (by simp only [bz])
   unfold e8
   split
   ·rename_i h
    split
    ·exact gO hx h.2 (by simp only [bV];exact qL)
    ·exact gO hx h.2 (pX hc (λL e=>by cases e) lp x.2 hl)
   ·exact hx
 | succ n ih=>
   intro tp lp s hl
   rw [iC]
   refine lW (P:=λ(x:List Th×Pn)=>bz lo m (decide (0 < lp)) x.1) (λx hx=>?_) _ _ (by simp only [bz])
   unfold e8
   split
   ·rename_i h
    split
    ·exact gO hx h.2 (by simp only [bV];exact qL)
    ·exact gO hx h.2 (pX hc (λL e lp' s' hl'=>by cases e;exact ih false lp' s' hl') lp x.2 hl)
   ·exact hx
end
section
variable {L:List Th}
def eQ (L:List Th):Prop:=∃t ts,L=t::ts/\kK t=false
theorem yZ (h:eQ L)(t:Th):eQ (L++[t]):=by
 obtain ⟨x,ts,rfl,h⟩:=h
 exact ⟨x,ts++[t],rfl,h⟩
theorem Al (ns calls:List Int)(c k:Int)(hc:0 < c):eQ (genL ns calls 4 true 0 (k,c)).1:=by
 rw [iC]
 have hm:2<=dm ns true k:=by
  unfold dm
  have:=Int.emod_nonneg (aB ns (k + 1)) (show (4:Int)≠0 by decide)
  simp;omega
 have key:∀(f:List Th×Pn->List Th×Pn) (x:List Th×Pn),(∀y,eQ y.1->eQ (f y).1)->eQ (f x).1->∀m,1<=m->eQ (itG f m x).1:=by
  intro f x h1 h2 m
  induction m with
  | zero=>intro h;omega
  | succ m ih=>
    intro _
    rw [itG]
    cases m with
    | zero=>exact h2
    | succ m=>exact h1 _ (ih (by omega))
 refine key _ _ (λy hy=>?_) ?_ _ (show 1<=dm ns true k by omega)
 ·unfold e8
  split
  ·split<;>exact yZ hy _
  ·exact hy
 ·unfold e8
  rw [if_pos ⟨hc,by simp [cq]⟩]
  split
  ·exact ⟨_,[],rfl,rfl⟩
  ·rename_i h
   refine ⟨_,[],rfl,?_⟩
   cases e:kK (thG ns calls (cL ns calls 4) 0 ([],k + 1,c).2).1 with
   | false=>rfl
   | true=>exact absurd ⟨rfl,rfl,e⟩ h
def g0 (x:Str):Option Nat:=x.cps.toList.getLast?
theorem iV (x:Str)(c:Nat):g0 (x++⟨#[c]⟩)=some c:=by
 unfold g0
 have e:(x++(⟨#[c]⟩:Str)).cps.toList=x.cps.toList++[c]:=by show (x.cps++ #[c]).toList=_;simp
 rw [e];simp
theorem wB:eE h7=[⟨#[113]⟩,⟨#[119]⟩,⟨#[101]⟩,⟨#[114]⟩]:=by decide +kernel
theorem yq {names:List Str}(hl:names.length<=3)(x:Str):oO names x∉names:=by
 unfold oO
 rw [wB]
 simp only [List.foldl]
 have stay:∀{y:Str},y∉names->∀c,gi names y c=y:=λh c=>if_neg h
 have go:∀{y:Str},y∈names->∀c,gi names y c=eF y++c:=λh c=>if_pos h
 by_cases h0:x∈names
 rotate_left
 ·rw [stay h0,stay h0,stay h0,stay h0];exact h0
 rw [go h0]
 generalize hx1:eF x++(⟨#[113]⟩:Str)=x1
 have l1:g0 x1=some 113:=by rw [← hx1];exact iV _ _
 by_cases h1:x1∈names
 rotate_left
 ·rw [stay h1,stay h1,stay h1];exact h1
 rw [go h1]
 generalize hx2:eF x1++(⟨#[119]⟩:Str)=x2
 have l2:g0 x2=some 119:=by rw [← hx2];exact iV _ _
 by_cases h2:x2∈names
 rotate_left
 ·rw [stay h2,stay h2];exact h2
 rw [go h2]
 generalize hx3:eF x2++(⟨#[101]⟩:Str)=x3
 have l3:g0 x3=some 101:=by rw [← hx3];exact iV _ _
 by_cases h3:x3∈names
 rotate_left
 ·rw [stay h3];exact h3
 rw [go h3]
 generalize hx4:eF x3++(⟨#[114]⟩:Str)=x4
 have l4:g0 x4=some 114:=by rw [← hx4];exact iV _ _
 intro h4
 obtain ⟨n1,b1,e1⟩:=List.getElem_of_mem h1
 obtain ⟨n2,b2,e2⟩:=List.getElem_of_mem h2
 obtain ⟨n3,b3,e3⟩:=List.getElem_of_mem h3
 obtain ⟨n4,b4,e4⟩:=List.getElem_of_mem h4
 have ne:∀{i j:Nat} {hi:i < names.length} {hj:j < names.length} {y z:Str} {c d:Nat},names[i]=y->names[j]=z->g0 y=some c->g0 z=some d->c≠d->i≠j:=by
  intro i j hi hj y z c d e e' l l' hcd z
  subst z
  rw [← e] at l
  rw [← e',l] at l'
  exact hcd (Option.some.inj l')
 have:=ne e1 e2 l1 l2 (by decide)
 have:=ne e1 e3 l1 l3 (by decide)
 have:=ne e1 e4 l1 l4 (by decide)
 have:=ne e2 e3 l2 l3 (by decide)
 have:=ne e2 e4 l2 l4 (by decide)
 have:=ne e3 e4 l3 l4 (by decide)
 omega
theorem uV (ns:List Int)(s:Int):∀i,i<=4->(cf ns s i).Nodup
 | 0,_=>List.nodup_nil
 | i + 1,h=>by
   rw [cf]
   exact fo (uV ns s i (by omega)) (yq (by rw [iQ];omega) _)
theorem BL (i:Nat)(m:Int):∀j∈dq i m,(i:Int) < j/\j < m:=by
 intro j hj
 unfold dq at hj
 obtain ⟨n,hn⟩:=List.mem_iff_getElem?.mp hj
 obtain ⟨a,b⟩:=fb hn
 omega
structure LsOk (m:Int) (b:Nat) (Ls:List (List Th)):Prop where
 ok:∀(p:Nat) (L:List Th),Ls[p]?=some L->bz (p:Int) m false L
 dp:∀L∈Ls,dh L<=4
 hd:∀L∈Ls,eQ L
 rw:∀L∈Ls,bO L<=b
theorem sX (ns:List Int)(m k:Int)(hb:0 < cg m):∀i,LsOk m (cg m).toNat (lstF ns m k i).1/\((lstF ns m k i).1.map bO).sum<=i * (cg m).toNat
 | 0=>⟨⟨(λp L h=>by simp [lstF] at h),(λL h=>by simp [lstF] at h),(λL h=>by simp [lstF] at h),(λL h=>by simp [lstF] at h)⟩,Nat.zero_le _⟩
 | i + 1=>by
   obtain ⟨h,hs⟩:=sX ns m k hb i
   have hl:=iq ns m k i
   have g:=fU ns (dq i m) 4 true 0 ((lstF ns m k i).2,cg m) (Int.le_of_lt hb)
   have go:=x5 (lo:=(i:Int)) (m:=m) (ns:=ns) (BL i m) 4 true 0 ((lstF ns m k i).2,cg m) (Int.le_refl 0)
   have gh:=Al ns (dq i m) (cg m) (lstF ns m k i).2 hb
   have gr:bO (genL ns (dq i m) 4 true 0 ((lstF ns m k i).2,cg m)).1<=(cg m).toNat:=by
    have:=g.c
    dsimp only at this
    omega
   rw [lstF]
   dsimp only
   generalize genL ns (dq i m) 4 true 0 ((lstF ns m k i).2,cg m)=r at g go gh gr
   generalize lstF ns m k i=x at h hs hl
   have mem:∀{L},L∈x.1++[r.1]->L∈x.1∨L=r.1:=λh=>(List.mem_append.mp h).imp id List.mem_singleton.mp
   refine ⟨⟨λp L hp=>?_,λL hL=>?_,λL hL=>?_,λL hL=>?_⟩,?_⟩
   ·rcases Nat.lt_or_ge p x.1.length with z | z
    ·rw [List.getElem?_append_left z] at hp
     exact h.ok p L hp
    ·rw [List.getElem?_append_right z] at hp
     have hz:p - x.1.length=0:=by
      have:=(List.getElem?_eq_some_iff.mp hp).1
      simp at this;omega
     rw [hz] at hp
     have e:r.1=L:=by simpa using hp
     have ep:p=i:=by omega
     rw [← e,ep]
     exact go
   ·rcases mem hL with z | rfl
    ·exact h.dp L z
    ·exact g.dp
   ·rcases mem hL with z | rfl
    ·exact h.hd L z
    ·exact gh
   ·rcases mem hL with z | rfl
    ·exact h.rw L z
    ·exact gr
   ·rw [List.map_append,List.sum_append,Nat.add_mul]
    simp
    omega
theorem hZ {α:Type}(k:Nat)(y:α)(xs:List α):bJ k y xs=xs.take k++y::xs.drop k:=rfl
theorem ub (k:Nat)(j:Int)(L:List Th):bO (bJ k (.call j) L)=bO L + 1:=by
 rw [hZ,gE,bO,cG]
 have:=gE (L.take k) (L.drop k)
 rw [List.take_append_drop] at this
 omega
theorem Au (k:Nat)(j:Int)(L:List Th):dh (bJ k (.call j) L)=dh L:=by
 rw [hZ,iN,dh,show eZ (.call j)=0 by simp [eZ]]
 have:=iN (L.take k) (L.drop k)
 rw [List.take_append_drop] at this
 omega
theorem yK {k:Nat}{y x:Th}(h:x∈L):x∈bJ k y L:=by
 rw [hZ]
 rw [← List.take_append_drop k L] at h
 rcases List.mem_append.mp h with z | z
 ·exact List.mem_append_left _ z
 ·exact List.mem_append_right _ (List.mem_cons_of_mem _ z)
theorem vw {k:Nat}{y:Th}:y∈bJ k y L:=by
 rw [hZ];exact List.mem_append_right _ List.mem_cons_self
theorem AG {k:Nat}{j:Int}(h:eQ L):eQ (bJ k (.call j) L):=by
 obtain ⟨t,ts,rfl,h⟩:=h
 cases k with
 | zero=>exact ⟨_,_,rfl,rfl⟩
 | succ k=>exact ⟨t,bJ k (.call j) ts,rfl,h⟩
theorem sum_set:∀{l:List Nat} {n a b:Nat},l[n]?=some a->(l.set n b).sum + a=l.sum + b
 | x::l,0,a,b,h=>by
   have e:x=a:=by simpa using h
   rw [List.set_cons_zero,List.sum_cons,List.sum_cons,e];omega
 | x::l,n + 1,a,b,h=>by
   have:=sum_set (l:=l) (n:=n) (a:=a) (b:=b) (by simpa using h)
   rw [List.set_cons_succ,List.sum_cons,List.sum_cons];omega
theorem ug (ns:List Int)(x:List (List Th)×Int)(m:Int)(b:Nat)(hx:LsOk m b x.1)(hl:(x.1.length:Int)=m):∀i:Nat,(i:Int) < m->LsOk m (b + i) (ownF ns x i).1/\(ownF ns x i).1.length=x.1.length/\((ownF ns x i).1.map bO).sum=(x.1.map bO).sum + i/\∀j:Nat,1<=j->j<=i->∃L∈(ownF ns x i).1,Th.call (j:Int)∈L
 | 0,_=>⟨hx,rfl,rfl,λj h1 h2=>by omega⟩
 | i + 1,hi=>by
   obtain ⟨h,hll,hs,hc⟩:=ug ns x m b hx hl i (by omega)
   rw [ownF]
   generalize ownF ns x i=y at h hll hs hc
   unfold kJ
   have q0:=Int.emod_nonneg (aB ns (y.2 + 1)) (show ((i + 1:Nat):Int)≠0 by omega)
   have q1:=Int.emod_lt_of_pos (aB ns (y.2 + 1)) (show (0:Int) < ((i + 1:Nat):Int) by omega)
   have hat:atF ns y.2 (i + 1)<=i:=by unfold atF;omega
   generalize atF ns y.2 (i + 1)=n at hat
   have hn:n < y.1.length:=by omega
   have hL:y.1[n]?=some (y.1.getD n []):=by rw [List.getD_eq_getElem?_getD,List.getElem?_eq_getElem hn];rfl
   generalize y.1.getD n []=L at hL
   have mL:=List.mem_of_getElem? hL
   have l0:0 < L.length:=by obtain ⟨t,ts,rfl,_⟩:=h.hd L mL;simp
   have r0:=Int.emod_nonneg (aB ns (y.2 + 2)) (show (L.length:Int)≠0 by omega)
   have r1:=Int.emod_lt_of_pos (aB ns (y.2 + 2)) (show (0:Int) < (L.length:Int) by omega)
   have hk:(aB ns (y.2 + 2) % (L.length:Int)).toNat < L.length:=by omega
   dsimp only
   generalize (aB ns (y.2 + 2) % (L.length:Int)).toNat=k at hk
   refine ⟨⟨λp L' hp=>?_,λL' hL'=>?_,λL' hL'=>?_,λL' hL'=>?_⟩,by rw [List.length_set];exact hll,?_,λj h1 h2=>?_⟩
   ·by_cases e:p=n
    ·subst e
     rw [List.getElem?_set_self hn] at hp
     cases hp
     exact qC (by simp only [bV];omega) (by simp only [cZ]) (h.ok p L hL) hk
    ·rw [List.getElem?_set_ne (Ne.symm e)] at hp
     exact h.ok p L' hp
   ·rcases mem_set hL' with z | rfl
    ·exact h.dp L' z
    ·rw [Au];exact h.dp L mL
   ·rcases mem_set hL' with z | rfl
    ·exact h.hd L' z
    ·exact AG (h.hd L mL)
   ·rcases mem_set hL' with z | rfl
    ·have:=h.rw L' z;omega
    ·rw [ub];have:=h.rw L mL;omega
   ·rw [List.map_set]
    have:=sum_set (l:=y.1.map bO) (n:=n) (a:=bO L) (b:=bO (bJ k (.call ((i + 1:Nat):Int)) L)) (by rw [List.getElem?_map,hL];rfl)
    rw [ub] at this ⊢
    omega
   ·have sets:∀{L':List Th},L'∈y.1->∃L2∈y.1.set n (bJ k (.call ((i + 1:Nat):Int)) L),∀t∈L',t∈L2:=λ{L'} hL'=>by
     obtain ⟨q,hq⟩:=List.mem_iff_getElem?.mp hL'
     by_cases e:q=n
     ·subst e
      rw [hL] at hq;cases hq
      exact ⟨_,List.mem_of_getElem? (List.getElem?_set_self hn),λt ht=>yK ht⟩
     ·exact ⟨L',List.mem_of_getElem? ((List.getElem?_set_ne (Ne.symm e)).trans hq),λt ht=>ht⟩
    by_cases e:j=i + 1
    ·subst e
     exact ⟨_,List.mem_of_getElem? (List.getElem?_set_self hn),vw⟩
    ·obtain ⟨L',hL',hj⟩:=hc j h1 (by omega)
     obtain ⟨L2,m2,s2⟩:=sets hL'
     exact ⟨L2,m2,s2 _ hj⟩
structure f7 (xs:List Str) (Ls:List (List Th)):Prop where
 l:xs.length=Ls.length
 l1:1<=Ls.length
 l4:Ls.length<=4
 nm:∀x∈xs,bK x
 nd:xs.Nodup
 ok:∀(p:Nat) (L:List Th),Ls[p]?=some L->bz (p:Int) (Ls.length:Int) false L
 dp:∀L∈Ls,dh L<=4
 hd:∀L∈Ls,eQ L
 rw:∀L∈Ls,bO L<=14
 tot:(Ls.map bO).sum<=30
 cl:∀j:Nat,1<=j->j < Ls.length->∃L∈Ls,Th.call (j:Int)∈L
theorem yC (ns:List Int)(s:Int):f7 (drawN ns s) (drawL ns s):=by
 obtain ⟨m1,m4⟩:=qU ns s
 unfold drawN drawL
 generalize manyD ns s=m at m1 m4
 obtain ⟨b6,b14⟩:=tO m1 m4
 obtain ⟨h,hs⟩:=sX ns m (s + 1 + m) (by omega) m.toNat
 have hl:=iq ns m (s + 1 + m) m.toNat
 generalize lstF ns m (s + 1 + m) m.toNat=x at h hs hl
 obtain ⟨o,oll,os,oc⟩:=ug ns x m _ h (by omega) (m - 1).toNat (by omega)
 have bm:(cg m).toNat + (m - 1).toNat<=14/\m.toNat * (cg m).toNat + (m - 1).toNat<=30:=by
  have:∀j:Fin 4,(cg ((j.val:Int) + 1)).toNat + j.val<=14/\(j.val + 1) * (cg ((j.val:Int) + 1)).toNat + j.val<=30:=by decide +kernel
  have:=this ⟨(m - 1).toNat,by omega⟩
  dsimp only at this
  rw [show (((m - 1).toNat:Nat):Int) + 1=m by omega,show (m - 1).toNat + 1=m.toNat by omega] at this
  exact this
 generalize ownF ns x (m - 1).toNat=y at o oll os oc
 have em:((y.1.length:Nat):Int)=m:=by omega
 exact ⟨by rw [iQ];omega,by omega,by omega,ud ns s _,uV ns s _ (by omega),by rw [em];exact o.ok,o.dp,o.hd,λL hL=>Nat.le_trans (o.rw L hL) bm.1,by omega,λj h1 h2=>oc j h1 (by omega)⟩
end
end K1
namespace Fc
open PySem PySem.Spec L2
open PyProof.Rows hiding St
section
variable {X:Cx}{Γ Γ1 Γ2 Γ3:Ga}{α β γ δ:Type}{N:Ga->Prop}{T:RT}
variable {x:Str}
theorem nT:∀{ws:List Str} {its:List Value},Vals (ws.map V.str) its->∃l:List (Str×Tok),its=strValues l/\l.map (·.1)=ws
 | [],_,.nil=>⟨[],rfl,rfl⟩
 | w::ws,_,.cons h t=>by
   obtain ⟨k,rfl⟩:=h
   obtain ⟨l,rfl,e⟩:=nT t
   exact ⟨(w,k)::l,rfl,by rw [List.map_cons,e]⟩
theorem nF:∀(l:List (Str×Tok)),Vals ((l.map (·.1)).map V.str) (strValues l)
 | []=>.nil
 | (w,k)::l=>.cons ⟨k,rfl⟩ (nF l)
theorem ya:uE X "str.join" (λx xs H Q=>∃(z:Str) (a:Addr) (ws:List Str),x= .str z/\xs=[.ref a]/\H a=some (.lst (ws.map V.str))/\JoinOk z ws=true/\Q (.str (Txt.join z ws)) H):=by
 intro pins s σ H x xs v us Q I rx r h
 obtain ⟨z,a,ws,rfl,rfl,hH,hok,q⟩:=h
 obtain ⟨t,rfl⟩:=rx
 obtain ⟨u,rfl,ru⟩:=r.one
 cases ru
 obtain ⟨hz,its,n,r1,hl,e⟩:=I.jD hH
 obtain ⟨l,rfl,el⟩:=nT r1
 exact PySem.SC.join ⟨_,e,rfl,_,rfl⟩ el hok λt' k=>⟨.str _,H,I.tok _,⟨_,rfl⟩,q⟩
theorem tM {y:Str}{t u:Tok}{prog:Program}{w:World}{A:Around}{E:Value->Shared->Prop}{s:Shared}{Q:Value->Shared->Prop}(hy:(y.length==0)=false)(hsz:x.length<=sizeLine)(hsz2:(Txt.split x y).length<=sizeLine)
 (hq:∀(l:List (Str×Tok)) (k:Nat) (n:Nat),l.map (·.1)=Txt.split x y->Q (.ref s.heap.objs.size) {s with toks:=k,heap:=s.heap.push {cls:=.type "list",data:=.seq (strValues l).toArray n}}):
 wpAny (model prog w) A (call (.builtin "str.split") [.str x t,.str y u]) Q E s:=by
 cases h1:(decide (x.length < y.length) ||decide (Builtin.Str.strKind x < Builtin.Str.strKind y))
 ·cases hf:(Builtin.Str.occurrences x y 0 x.length (x.length + 1)).isEmpty
  ·have es:Txt.split x y=Builtin.Str.partsBetween x (Builtin.Str.occurrences x y 0 x.length (x.length + 1)) y.length:=(if_neg (ne_true_of_eq_false h1)).trans (if_neg (ne_true_of_eq_false hf))
   refine call_meets F.slot_str_split (typeIs_str _ _ _) F.entry_str_split (F.args_str_split_2 _ _) (meets_str_split_sep x y t u h1 hy hf hsz (by rw [← es];exact hsz2)) ?_
   show wants Q E _ {s with toks:=_,heap:=s.heap.push {cls:=.type "list",data:=.seq (strsFrom s.toks (Builtin.Str.partsBetween x (Builtin.Str.occurrences x y 0 x.length (x.length + 1)) y.length)).toArray}}
   rw [strsFrom_eq]
   exact hq (numbered s.toks _) _ _ ((numbered_texts _ _).trans es.symm)
  ·exact call_meets F.slot_str_split (typeIs_str _ _ _) F.entry_str_split (F.args_str_split_2 _ _) (meets_str_split_not_found x y t u h1 hy hf)
    (hq [(x,t)] s.toks _ ((if_neg (ne_true_of_eq_false h1)).trans (if_pos hf)).symm)
 ·exact call_meets F.slot_str_split (typeIs_str _ _ _) F.entry_str_split (F.args_str_split_2 _ _) (meets_str_split_cannot_occur x y t u h1)
   (hq [(x,t)] s.toks _ (if_pos h1).symm)
theorem wA:uE X "str.split" (λx xs H Q=>∃z y:Str,x= .str z/\xs=[.str y]/\(y.length==0)=false/\z.length<=sizeLine/\(Txt.split z y).length<=sizeLine/\∀a,H a=none->Q (.ref a) (upd H a (.lst ((Txt.split z y).map V.str)))):=by
 intro pins s σ H x xs v us Q I rx r h
 obtain ⟨z,y,rfl,rfl,hy,hz,hz2,q⟩:=h
 obtain ⟨t,rfl⟩:=rx
 obtain ⟨u,rfl,ru⟩:=r.one
 obtain ⟨tu,rfl⟩:=ru
 refine tM hy hz hz2 λl k n el=>?_
 have I1:Inv X pins σ H {s with toks:=k,heap:=s.heap.push {cls:=.type "list",data:=.seq (strValues l).toArray n}}:=I.kept (t':=k) λb o e=>Heap.get?_push_of_some _ e
 have hn:H s.heap.objs.size=none:=I.fresh
 refine ⟨.ref s.heap.objs.size,_,adopt (o:=.lst ((Txt.split z y).map V.str)) I1 (I.eR (Nat.le_refl _) hn) I.sz ⟨?_,strValues l,n,?_,Heap.get?_push_size _ rfl⟩,rfl,q _ hn⟩
 ·rw [List.length_map];exact hz2
 ·rw [← el];exact nF l
theorem yk {a e:Expr}{ap cp:Pos}{ws:List Str}(ha:EV X a Γ af x Γ1)(he:EV X e Γ1 (ae af) ws Γ2)(hok:JoinOk x ws=true)
 (hbase:attributeBase a "join" X.env (eval a X.env)=eval a X.env:=by rfl)
 (hfew:((backTo cp (starEach [e] X.env)).all (λx=> !x.1)&&(backToKw cp (keywordEach [] X.env)).all (λx=>x.1.isSome)
  &&decide ([e].length + ([]:List Keyword).length + (if ([]:List Keyword).isEmpty then 0 else 1) < 30))=true:=by rfl)
 (hline:(ap.endLine==cp.line)=true:=by rfl) (hs:starEach [e] X.env=(false,eval e X.env)::starEach [] X.env:=by rfl):EV X (.Call (.Attribute a "join" ap) [e] [] cp) Γ af (Txt.join x ws) Γ2:=by
 intro σ H0 R0 H R E Q q
 refine eS (iT PySem.F.plainAttrs_str PySem.F.slot_str_join PySem.F.type_str_join ya aJ (aR aJ bt hs) hbase hfew hline hs rfl) (ha σ H0 R0 H R E _ λv H1 R1 E1 s1 e1=>?_)
 cases e1
 refine ⟨rfl,he σ H0 R0 H1 R1 E1 _ λu H2 R2 E2 s2 e2=>?_⟩
 obtain ⟨b,vs,rfl,hb,pp,hz⟩:=e2
 have ev:=jS pp
 subst ev
 exact ⟨x,b,ws,rfl,rfl,E2.sub _ _ hb,hok,q _ H2 R2 E2 (s1.trans s2) rfl⟩
theorem ka {K:PySem.W.Frag}{R:Hp}:∀ws:List Str,PySem.Paired (af.R K R) (ws.map V.str) ws
 | []=>.nil
 | _::r=>.cons rfl (ka r)
theorem tH {a e:Expr}{ap cp:Pos}{y:Str}(ha:EV X a Γ af x Γ1)(he:EV X e Γ1 af y Γ2)(hy:(y.length==0)=false)(hz:x.length<=sizeLine)(hz2:(Txt.split x y).length<=sizeLine)
 (hbase:attributeBase a "split" X.env (eval a X.env)=eval a X.env:=by rfl)
 (hfew:((backTo cp (starEach [e] X.env)).all (λx=> !x.1)&&(backToKw cp (keywordEach [] X.env)).all (λx=>x.1.isSome)
  &&decide ([e].length + ([]:List Keyword).length + (if ([]:List Keyword).isEmpty then 0 else 1) < 30))=true:=by rfl)
 (hline:(ap.endLine==cp.line)=true:=by rfl) (hs:starEach [e] X.env=(false,eval e X.env)::starEach [] X.env:=by rfl):aV X (.Call (.Attribute a "split" ap) [e] [] cp) Γ af (Txt.split x y) Γ2:=by
 intro σ H0 R0 H R E Q q
 refine eS (iT PySem.F.plainAttrs_str PySem.F.slot_str_split PySem.F.type_str_split wA aJ (aR aJ bt hs) hbase hfew hline hs rfl) (ha σ H0 R0 H R E _ λv H1 R1 E1 s1 e1=>?_)
 cases e1
 refine ⟨rfl,he σ H0 R0 H1 R1 E1 _ λu H2 R2 E2 s2 e2=>?_⟩
 cases e2
 exact ⟨x,y,rfl,rfl,hy,hz,hz2,λd hd=>q d _ _ R2 (E2.grow (Ext.dy E2.sub hd _)) (s1.trans s2) av (E2.sub.free hd) (E2.ext.h.free hd) (E2.off hd) (ka _) hz2⟩
end
theorem oC {c:Nat}:∀{a b x y:List Nat},c∉a->c∉b->a++c::x=b++c::y->a=b/\x=y
 | [],[],_,_,_,_,h=>⟨rfl,(List.cons.inj h).2⟩
 | [],d::b,_,_,_,hb,h=>absurd (List.cons.inj h).1 (λe=>hb (e▸List.mem_cons_self))
 | d::a,[],_,_,ha,_,h=>absurd (List.cons.inj h).1 (λe=>ha (e▸List.mem_cons_self))
 | d::a,e::b,x,y,ha,hb,h=>by
   obtain ⟨h1,h2⟩:=List.cons.inj h
   obtain ⟨q1,q2⟩:=oC (λz=>ha (List.mem_cons_of_mem _ z)) (λz=>hb (List.mem_cons_of_mem _ z)) h2
   exact ⟨by rw [h1,q1],q2⟩
theorem pF {c:Nat}{a b y:List Nat}(ha:c∉a)(h:a=b++c::y):False:=ha (by rw [h];exact List.mem_append_right _ List.mem_cons_self)
theorem qq (x y:Str):(x++y).cps.toList=x.cps.toList++y.cps.toList:=by show (x.cps++y.cps).toList=_;simp
theorem iW (c:Nat)(x y:Str)(r:List Str):(Str.join ⟨#[c]⟩ (x::y::r)).cps.toList=x.cps.toList++c::(Str.join ⟨#[c]⟩ (y::r)).cps.toList:=by
 rw [Str.join,qq,qq]
 simp
 intro h;cases h
theorem qN {x y:Str}(h:x.cps.toList=y.cps.toList):x=y:=by
 cases x;cases y
 congr 1
 exact Array.toList_inj.mp h
theorem n6 {c:Nat}:∀{ws us:List Str},ws≠[]->us≠[]->(∀w∈ws,c∉w.cps.toList)->(∀u∈us,c∉u.cps.toList)->(Str.join ⟨#[c]⟩ ws).cps.toList=(Str.join ⟨#[c]⟩ us).cps.toList->ws=us
 | [],_,h,_,_,_,_=>absurd rfl h
 | _,[],_,h,_,_,_=>absurd rfl h
 | [x],[y],_,_,_,_,h=>by rw [show x=y from qN h]
 | [x],y::z::r,_,_,hx,_,h=>by
   rw [iW] at h
   exact absurd h λh=>pF (hx x List.mem_cons_self) h
 | x::z::r,[y],_,_,_,hy,h=>by
   rw [iW] at h
   exact absurd h.symm λh=>pF (hy y List.mem_cons_self) h
 | x::x2::r,y::y2::q,_,_,hx,hy,h=>by
   rw [iW,iW] at h
   obtain ⟨h1,h2⟩:=oC (hx x List.mem_cons_self) (hy y List.mem_cons_self) h
   rw [qN h1,n6 (List.cons_ne_nil _ _) (List.cons_ne_nil _ _) (λw hw=>hx w (List.mem_cons_of_mem _ hw)) (λw hw=>hy w (List.mem_cons_of_mem _ hw)) h2]
theorem rQ {c:Nat}{ws:List Str}(h:ws≠[])(hf:∀w∈ws,c∉w.cps.toList):Txt.split (Str.join ⟨#[c]⟩ ws) ⟨#[c]⟩=ws:=by
 refine n6 (c:=c) (λe=>?_) h (StrLaws.split_free _ c) hf (by rw [StrLaws.join_split])
 have:=split_pos (Str.join ⟨#[c]⟩ ws) ⟨#[c]⟩
 rw [e] at this
 exact absurd this (by decide)
theorem wk:(" ":Str)=⟨#[32]⟩:=by decide +kernel
theorem qV (x:Str)(ws:List Str):Txt.join x ws=Str.join x ws:=StrLaws.glued_eq_join x ws
end Fc
namespace K1
open PySem L2 Fc
open PySem.Spec hiding Row
open PyProof.Rows hiding St
abbrev S1 (x:Str):List Str:=[x]
abbrev S2 (x y:Str):List Str:=[x,y]
mutual
def bU (names:List Str):Th->List Str
 | .doo x=>S2 "do" x
 | .call j=>S2 "call" (names.getD j.toNat "")
 | .ifs x a b=>S2 "if" x++wdL names a++S1 "else"++(wdL names b++S1 "end")
 | .whil x a=>S2 "while" x++wdL names a++S1 "end"
 | .leave=>S1 "leave"
 | .back=>S1 "back"
def wdL (names:List Str):List Th->List Str
 | []=>[]
 | t::ts=>bU names t++wdL names ts
end
theorem qF (names:List Str):∀a b:List Th,wdL names (a++b)=wdL names a++wdL names b
 | [],b=>by rw [wdL];rfl
 | t::a,b=>by rw [List.cons_append,wdL,wdL,qF names a b,List.append_assoc]
theorem ye (names:List Str)(t:Th):wdL names [t]=bU names t:=by rw [wdL,wdL,List.append_nil]
mutual
theorem za {names:List Str}{lo m:Int}:∀(t:Th) (lp:Bool),bV lo m lp t->(bU names t).length<=4 * cG t + (if cG t=0 then 1 else 0)
 | .doo x,_,_=>by simp [bU,cG]
 | .call j,_,_=>by simp [bU,cG]
 | .ifs x a b,lp,h=>by
   simp only [bV] at h
   have h1:=dc (names:=names) a lp h.2.1
   have h2:=dc (names:=names) b lp h.2.2
   simp [bU,cG]
   omega
 | .whil x a,lp,h=>by
   simp only [bV] at h
   have h1:=dc (names:=names) a true h.2
   simp [bU,cG]
   omega
 | .leave,_,_=>by simp [bU,cG]
 | .back,_,_=>by simp [bU,cG]
theorem dc {names:List Str}{lo m:Int}:∀(ts:List Th) (lp:Bool),bz lo m lp ts->(wdL names ts).length<=4 * bO ts + 1
 | [],_,_=>by simp [wdL]
 | t::ts,lp,h=>by
   simp only [bz] at h
   have h1:=za (names:=names) t lp h.1
   have h2:=dc (names:=names) ts lp h.2.2
   rw [wdL,bO,List.length_append]
   by_cases e:cG t=0
   ·rw [e,if_pos rfl] at h1
    have hp:cZ t=false:=by cases t<;>simp [cG] at e<;>simp [cZ]
    have:ts=[]:=h.2.1.resolve_left (by rw [hp];decide)
    subst this
    simp [wdL,bO]
    omega
   ·rw [if_neg e] at h1
    omega
end
theorem pY {lo m:Int}{lp:Bool}{t:Th}:∀{ts:List Th},bz lo m lp ts->t∈ts->bV lo m lp t
 | s::ts,h,hm=>by
   simp only [bz] at h
   rcases List.mem_cons.mp hm with rfl | hm
   ·exact h.1
   ·exact pY h.2.2 hm
theorem u9 {t:Th}:∀{ts:List Th},t∈ts->cG t<=bO ts
 | s::ts,h=>by
   rw [bO]
   rcases List.mem_cons.mp h with rfl | h
   ·omega
   ·have:=u9 h;omega
theorem nJ {lo m:Int}{lp:Bool}:∀{ts:List Th} (i:Nat),bz lo m lp ts->bz lo m lp (ts.take i)
 | [],i,h=>by rw [List.take_nil];exact h
 | t::ts,0,h=>by simp only [List.take_zero,bz]
 | t::ts,i + 1,h=>by
   simp only [bz] at h
   rw [List.take_succ_cons,bz]
   exact ⟨h.1,h.2.1.imp id λe=>by rw [e,List.take_nil],nJ i h.2.2⟩
theorem yp (ts:List Th)(i:Nat):bO (ts.take i)<=bO ts:=by
 have:=gE (ts.take i) (ts.drop i)
 rw [List.take_append_drop] at this
 omega
section
variable {X:Cx}{Γ Γ1:Ga}
theorem pM {a:Expr}{j:Nat}{p1 pos:Pos}{t:Th}{i:Int}{x:Str}(h:EV X a Γ au (du t) Γ1)(hx:cb (fW t) i=some (.str x)):EV X (.Subscript a (.Constant (.int i) j p1) pos) Γ af x Γ1:=EV.sP (ba (EV.lP (by rw [fN] at h;exact h)) ev_int hx)
theorem A3 {a:Expr}{j:Nat}{p1 pos:Pos}{t:Th}{i:Int}{x:Int}(h:EV X a Γ au (du t) Γ1)(hx:cb (fW t) i=some (.int x)):EV X (.Subscript a (.Constant (.int i) j p1) pos) Γ ab x Γ1:=EV.iP (ba (EV.lP (by rw [fN] at h;exact h)) ev_int hx)
end
section
variable {P:Program}{w:World}{K:PySem.W.Frag}{mg:Str->Option Value}{base:Heap}{f:Addr}{fd:FuncData}
variable {x:Str}
abbrev xg:Stmt:=top m8
abbrev nWD:List Str:=["_law_items","_law_names","_law_words_here","_law_one"]
theorem v8:aE nWD ["_law_items","_law_names"] (ag xg):=⟨rfl,rfl,rfl,by decide +kernel,rfl,by decide +kernel,by decide +kernel⟩
def EY (n:Nat):cX:=λK ps T=>∃(ts:List Th) (names:List Str) (lo m:Int) (lp:Bool),ps=[⟨ae au,a9 ts⟩,⟨ae af,names⟩]/\dh ts < n/\bz lo m lp ts/\0<=lo/\m<=(names.length:Int)/\bO ts<=100/\T=cF K (ae af) (· =wdL names ts)
theorem l1 (x:Str):([x]:List Str).length<=sizeLine:=by show 1<=sizeLine;decide
theorem l2 (x y:Str):([x,y]:List Str).length<=sizeLine:=by show 2<=sizeLine;decide
theorem CU (F:bw K "_law_words" "_law_words" xg f fd)(hm:mg "_law_words"=some (.ref f))(hb:Binds K fd ["_law_items","_law_names"] []):∀n:Nat,aG P w K mg base "_law_words" (n + 1) (aP (EY n) K):=by
 intro n
 have nd:=v8.nd
 induction n with
 | zero=>
   refine bu F v8 hm hb (λqs T ⟨_,_,_,_,_,e,_⟩=>by rw [e];rfl) (λcdv A outer s H E qs T hr hS=>?_)
   obtain ⟨ts,_,_,_,_,_,h,_⟩:=hS
   exact absurd h (Nat.not_lt_zero _)
 | succ n ih=>
   refine bu F v8 hm hb (λqs T ⟨_,_,_,_,_,e,_⟩=>by rw [e];rfl) (λcdv A outer s H E qs T hr hS=>?_)
   obtain ⟨ts,names,lo,m,lp,rfl,hd,hok,lo0,hml,hrw,rfl⟩:=hS
   change WS _ _ [.im (ae au) (a9 ts),.im (ae af) names,.no,.no] _ _
   refine aj (cQ 2 (r:=af) (ys:=[]) (aL aN (Nat.zero_le _)) ?_)
   refine bL (N1:=λΓ=>∃e3,Γ=[.im (ae au) (a9 ts),.im (ae af) names,.mu af (wdL names ts),e3]) (cj (r:=au) (λi Γ=>∃e3,Γ=[.im (ae au) (a9 ts),.im (ae af) names,.mu af (wdL names (ts.take i)),e3]) (cM (aa 0 rfl)) (bg 3) ⟨_,rfl⟩ (λi x Γ hx hΓ=>?_) (λΓ hΓ=>?_)) ?_
   ·obtain ⟨e3,rfl⟩:=hΓ
    rw [dA,List.getElem?_map] at hx
    obtain ⟨t,ht,rfl⟩:=Option.map_eq_some_iff.mp hx
    have tm:=List.mem_of_getElem? ht
    have tok:=pY hok tm
    have tdp:=nA tm
    have trw:=u9 tm
    have wl:=dc (names:=names) (ts.take i) lp (nJ i hok)
    have wr:=yp ts i
    have hnx:wdL names (ts.take (i + 1))=wdL names (ts.take i)++bU names t:=by rw [List.take_succ,ht,qF];rw [show (some t).toList=[t] from rfl,ye]
    rw [hnx]
    generalize wdL names (ts.take i)=ws at wl
    have wz:ws.length<=401:=by omega
    change WS _ _ [.im (ae au) (a9 ts),.im (ae af) names,.mu af ws,.im au (du t)] _ _
    refine ai (bq (aA bS (fF (aa 3 rfl)) ar) (λh=>?_) (λh1=>?_))
    ·have h:bZ t="do":=of_decide_eq_true h
     cases t with
     | doo x=>
       refine WS.freeze 2 rfl (aK (by omega)) ?_
       refine ai (cQ 2 (ys:=ws++S2 "do" x) (bI (aa 2 rfl) (aV.im (aL (r:=af) (aq ar (aq (pM (aa 3 rfl) rfl) aN)) (l2 _ _))) (aK (by simp;omega))) ⟨.im au (du (.doo x)),?_⟩)
       rw [bU];rfl
     | call j=>exact absurd h (by simp only [bZ];decide)
     | ifs x a b=>exact absurd h (by simp only [bZ];decide)
     | whil x a=>exact absurd h (by simp only [bZ];decide)
     | leave=>exact absurd h (by simp only [bZ];decide)
     | back=>exact absurd h (by simp only [bZ];decide)
    have h1:¬bZ t="do":=of_decide_eq_false h1
    refine ai (bq (aA bS (fF (aa 3 rfl)) ar) (λh=>?_) (λh2=>?_))
    ·have h:bZ t="call":=of_decide_eq_true h
     cases t with
     | call j=>
       simp only [bV] at tok
       refine WS.freeze 2 rfl (aK (by omega)) ?_
       refine ai (cQ 2 (ys:=ws++S2 "call" (names.getD j.toNat "")) (bI (aa 2 rfl) (aV.im (aL (r:=af) (aq ar (aq (ba (aa 1 rfl) (A3 (aa 3 rfl) rfl) (aY (xs:=names) (i:=j) "" (by omega) (by omega))) aN)) (l2 _ _))) (aK (by simp;omega))) ⟨.im au (du (.call j)),?_⟩)
       rw [bU];rfl
     | doo j=>exact absurd h (by simp only [bZ];decide)
     | ifs x a b=>exact absurd h (by simp only [bZ];decide)
     | whil x a=>exact absurd h (by simp only [bZ];decide)
     | leave=>exact absurd h (by simp only [bZ];decide)
     | back=>exact absurd h (by simp only [bZ];decide)
    have h2:¬bZ t="call":=of_decide_eq_false h2
    refine ai (bq (aA bS (fF (aa 3 rfl)) ar) (λh=>?_) (λh3=>?_))
    ·have h:bZ t="if":=of_decide_eq_true h
     cases t with
     | ifs x a b=>
       simp only [bV] at tok
       rw [eZ] at tdp
       rw [cG] at trw
       have la:=dc (names:=names) a lp tok.2.1
       have lb:=dc (names:=names) b lp tok.2.2
       refine WS.freeze 2 rfl (aK (by omega)) ?_
       refine aj (cQ 2 (ys:=ws++S2 "if" x++wdL names a++S1 "else") (bI (aV.im (bI (aV.im (bI (aa 2 rfl) (aV.im (aL (r:=af) (aq ar (aq (pM (aa 3 rfl) rfl) aN)) (l2 _ _))) (aK (by simp;omega)))) (aI ih hr (ah (jI (aa 3 rfl) rfl) (ah (aa 1 rfl) ax)) ⟨a,names,lo,m,lp,rfl,by omega,tok.2.1,lo0,hml,by omega,rfl⟩) (aK (by simp;omega)))) (aV.im (aL (r:=af) (aq ar aN) (l1 _))) (aK (by simp;omega))) ?_)
       refine WS.freeze 2 rfl (aK (by simp;omega)) ?_
       refine ai (cQ 2 (ys:=ws++S2 "if" x++wdL names a++S1 "else"++wdL names b++S1 "end") (bI (aV.im (bI (aa 2 rfl) (aI ih hr (ah (jI (aa 3 rfl) rfl) (ah (aa 1 rfl) ax)) ⟨b,names,lo,m,lp,rfl,by omega,tok.2.2,lo0,hml,by omega,rfl⟩) (aK (by simp;omega)))) (aV.im (aL (r:=af) (aq ar aN) (l1 _))) (aK (by simp;omega))) ⟨.im au (du (.ifs x a b)),?_⟩)
       rw [bU]
       simp only [List.append_assoc]
       rfl
     | doo j=>exact absurd h (by simp only [bZ];decide)
     | call x=>exact absurd h (by simp only [bZ];decide)
     | whil x a=>exact absurd h (by simp only [bZ];decide)
     | leave=>exact absurd h (by simp only [bZ];decide)
     | back=>exact absurd h (by simp only [bZ];decide)
    have h3:¬bZ t="if":=of_decide_eq_false h3
    refine ai (bq (aA bS (fF (aa 3 rfl)) ar) (λh=>?_) (λh4=>?_))
    ·have h:bZ t="while":=of_decide_eq_true h
     cases t with
     | whil x a=>
       simp only [bV] at tok
       rw [eZ] at tdp
       rw [cG] at trw
       have la:=dc (names:=names) a true tok.2
       refine WS.freeze 2 rfl (aK (by omega)) ?_
       refine ai (cQ 2 (ys:=ws++S2 "while" x++wdL names a++S1 "end") (bI (aV.im (bI (aV.im (bI (aa 2 rfl) (aV.im (aL (r:=af) (aq ar (aq (pM (aa 3 rfl) rfl) aN)) (l2 _ _))) (aK (by simp;omega)))) (aI ih hr (ah (jI (aa 3 rfl) rfl) (ah (aa 1 rfl) ax)) ⟨a,names,lo,m,true,rfl,by omega,tok.2,lo0,hml,by omega,rfl⟩) (aK (by simp;omega)))) (aV.im (aL (r:=af) (aq ar aN) (l1 _))) (aK (by simp;omega))) ⟨.im au (du (.whil x a)),?_⟩)
       rw [bU]
       simp only [List.append_assoc]
       rfl
     | doo j=>exact absurd h (by simp only [bZ];decide)
     | call x=>exact absurd h (by simp only [bZ];decide)
     | ifs x a b=>exact absurd h (by simp only [bZ];decide)
     | leave=>exact absurd h (by simp only [bZ];decide)
     | back=>exact absurd h (by simp only [bZ];decide)
    have h4:¬bZ t="while":=of_decide_eq_false h4
    have ew:bU names t=[bZ t]:=by
     cases t with
     | doo x=>exact absurd rfl h1
     | call x=>exact absurd rfl h2
     | ifs x a b=>exact absurd rfl h3
     | whil x a=>exact absurd rfl h4
     | leave=>rw [bU];rfl
     | back=>rw [bU];rfl
    rw [ew]
    exact ai (ft 2 (fF (aa 3 rfl)) rfl rfl (Nat.lt_of_le_of_lt wz (by decide)) ⟨.im au (du t),rfl⟩)
   ·obtain ⟨e3,rfl⟩:=hΓ
    rw [da,List.take_length]
    exact ⟨e3,rfl⟩
   rintro _ ⟨e3,rfl⟩
   have wl:=dc (names:=names) ts lp hok
   refine WS.freeze 2 rfl (aK (by omega)) ?_
   exact ai (aW (aa 2 rfl) rfl)
def dv (names:List Str)(z:Str×List Th):List Str:=S2 "part" (z.1)++wdL names z.2++S1 "end"
def ir (names:List Str)(Ls:List (List Th)):List Str:=(names.zip Ls).flatMap (dv names)
abbrev xG:Stmt:=top nN
abbrev nTX:List Str:=["_law_names","_law_lists","_law_words_here","_law_name_here","_law_items"]
theorem A2:aE nTX ["_law_names","_law_lists"] (ag xG):=⟨rfl,rfl,rfl,by decide +kernel,rfl,by decide +kernel,by decide +kernel⟩
def Ef:cX:=λK ps T=>∃(names:List Str) (Ls:List (List Th)),ps=[⟨ae af,names⟩,⟨ae (ae au),Ls.map a9⟩]/\f7 names Ls/\T=cF K af (· =Str.join " " (ir names Ls))
structure dZ (w:Str):Prop where
 l:w.length<=8
 f:32∉w.cps.toList
theorem bK.wo (h:bK x):dZ x:=⟨h.l8,λz=>by have:=(h.az _ z).1;omega⟩
theorem dt {w:Str}(h:(decide (w.length<=8)&&decide (32∉w.cps.toList))=true):dZ w:=by
 rw [Bool.and_eq_true] at h
 exact ⟨of_decide_eq_true h.1,of_decide_eq_true h.2⟩
theorem xV {names:List Str}(h:∀x∈names,bK x)(i:Nat):dZ (names.getD i ""):=by
 rw [List.getD_eq_getElem?_getD]
 cases e:names[i]? with
 | none=>exact dt (by decide +kernel)
 | some x=>exact (h x (List.mem_of_getElem? e)).wo
theorem jO {y:Str}(hx:dZ x)(hy:dZ y):∀w∈S2 x y,dZ w:=λw hw=>by
 rcases List.mem_cons.mp hw with rfl | hw
 ·exact hx
 ·rw [List.mem_singleton.mp hw];exact hy
theorem iH (hx:dZ x):∀w∈S1 x,dZ w:=λw hw=>by rw [List.mem_singleton.mp hw];exact hx
theorem dB {a b:List Str}(ha:∀w∈a,dZ w)(hb:∀w∈b,dZ w):∀w∈a++b,dZ w:=λw hw=>(List.mem_append.mp hw).elim (ha w) (hb w)
mutual
theorem BD {names:List Str}{lo m:Int}(hn:∀x∈names,bK x):∀(t:Th) (lp:Bool),bV lo m lp t->∀w∈bU names t,dZ w
 | .doo x,_,h=>by
   simp only [bV] at h
   rw [bU];exact jO (dt (by decide +kernel)) h.wo
 | .call j,_,_=>by rw [bU];exact jO (dt (by decide +kernel)) (xV hn _)
 | .ifs x a b,lp,h=>by
   simp only [bV] at h
   rw [bU]
   exact dB (dB (dB (jO (dt (by decide +kernel)) h.1.wo) (jP hn a lp h.2.1)) (iH (dt (by decide +kernel)))) (dB (jP hn b lp h.2.2) (iH (dt (by decide +kernel))))
 | .whil x a,lp,h=>by
   simp only [bV] at h
   rw [bU]
   exact dB (dB (jO (dt (by decide +kernel)) h.1.wo) (jP hn a true h.2)) (iH (dt (by decide +kernel)))
 | .leave,_,_=>by rw [bU];exact iH (dt (by decide +kernel))
 | .back,_,_=>by rw [bU];exact iH (dt (by decide +kernel))
theorem jP {names:List Str}{lo m:Int}(hn:∀x∈names,bK x):∀(ts:List Th) (lp:Bool),bz lo m lp ts->∀w∈wdL names ts,dZ w
 | [],_,_=>by rw [wdL];intro w h;cases h
 | t::ts,lp,h=>by
   simp only [bz] at h
   rw [wdL]
   exact dB (BD hn t lp h.1) (jP hn ts lp h.2.2)
end
section
variable {names:List Str}{Ls:List (List Th)}
theorem gH {i:Nat}{z:Str×List Th}(h:(names.zip Ls)[i]?=some z):names[i]?=some z.1/\Ls[i]?=some z.2:=by
 rw [List.getElem?_zip_eq_some] at h
 exact h
theorem DC (h:f7 names Ls){z:Str×List Th}(hz:z∈names.zip Ls):(dv names z).length<=60/\∀w∈dv names z,dZ w:=by
 obtain ⟨i,hi⟩:=List.mem_iff_getElem?.mp hz
 obtain ⟨h1,h2⟩:=gH hi
 have hk:=h.ok i z.2 h2
 have hl:=dc (names:=names) z.2 false hk
 have hr:=h.rw z.2 (List.mem_of_getElem? h2)
 unfold dv
 refine ⟨by simp;omega,dB (dB (jO (dt (by decide +kernel)) (h.nm z.1 (List.mem_of_getElem? h1)).wo) (jP h.nm z.2 false hk)) (iH (dt (by decide +kernel)))⟩
theorem qg {names:List Str}:∀{zs:List (Str×List Th)},(∀z∈zs,(dv names z).length<=60/\∀w∈dv names z,dZ w)->(zs.flatMap (dv names)).length<=60 * zs.length/\∀w∈zs.flatMap (dv names),dZ w
 | [],_=>⟨Nat.zero_le _,λw h=>by cases h⟩
 | z::zs,h=>by
   obtain ⟨a,b⟩:=qg (zs:=zs) λy hy=>h y (List.mem_cons_of_mem _ hy)
   obtain ⟨c,d⟩:=h z List.mem_cons_self
   rw [List.flatMap_cons]
   exact ⟨by rw [List.length_append,List.length_cons];omega,dB d b⟩
theorem qT (h:f7 names Ls)(i:Nat):(((names.zip Ls).take i).flatMap (dv names)).length<=240/\∀w∈((names.zip Ls).take i).flatMap (dv names),dZ w:=by
 obtain ⟨a,b⟩:=qg (names:=names) (zs:=(names.zip Ls).take i) λz hz=>DC h (List.mem_of_mem_take hz)
 refine ⟨?_,b⟩
 have:=h.l;have:=h.l4
 rw [List.length_take,List.length_zip] at a
 omega
theorem oG (h:f7 names Ls):(ir names Ls).length<=240/\∀w∈ir names Ls,dZ w:=by
 have:=qT h (names.zip Ls).length
 rw [List.take_length] at this
 exact this
theorem qr {ws:List Str}(hl:ws.length<=240)(h:∀w∈ws,dZ w):JoinOk " " ws=true:=by
 unfold JoinOk
 rw [StrLaws.joinFits (B:=8) (λy hy=>(h y hy).l) (by rw [show (" ":Str).length=1 by decide +kernel];omega)]
 rfl
theorem Ds (M:cv K mg)(CW:aG P w K mg base "_law_words" 6 (aP (EY 5) K))(F:bw K "_law_text" "_law_text" xG f fd)(hm:mg "_law_text"=some (.ref f))(hb:Binds K fd ["_law_names","_law_lists"] []):aG P w K mg base "_law_text" 7 (aP Ef K):=by
 have nd:=A2.nd
 refine bu (k:=6) F A2 hm hb (λqs T ⟨_,_,e,_⟩=>by rw [e];rfl) (λcdv A outer s H E qs T hr hS=>?_)
 obtain ⟨names,Ls,rfl,hP,rfl⟩:=hS
 change WS _ _ [.im (ae af) names,.im (ae (ae au)) (Ls.map a9),.no,.no,.no] _ _
 refine aj (aZ 2 (y:=([]:List Str)) (aV.im (aL (r:=af) aN (Nat.zero_le _))) ?_)
 refine bL (N1:=λΓ=>∃e3 e4,Γ=[.im (ae af) names,.im (ae (ae au)) (Ls.map a9),.im (ae af) (ir names Ls),e3,e4]) (cj (λi Γ=>∃e3 e4,Γ=[.im (ae af) names,.im (ae (ae au)) (Ls.map a9),.im (ae af) (((names.zip Ls).take i).flatMap (dv names)),e3,e4]) (zy M.zip (aa 0 rfl) (aa 1 rfl)) (eK 3 4) ⟨_,_,rfl⟩ (λi x Γ hx hΓ=>?_) (λΓ hΓ=>?_)) ?_
 ·obtain ⟨e3,e4,rfl⟩:=hΓ
  rw [List.zip_map_right,List.getElem?_map] at hx
  obtain ⟨z,hz,rfl⟩:=Option.map_eq_some_iff.mp hx
  obtain ⟨h1,h2⟩:=gH hz
  obtain ⟨tl,_⟩:=qT hP i
  have hk:=hP.ok i z.2 h2
  have hl:=dc (names:=names) z.2 false hk
  have hrw:=hP.rw z.2 (List.mem_of_getElem? h2)
  have hdp:=hP.dp z.2 (List.mem_of_getElem? h2)
  have hll:=hP.l
  have hnx:((names.zip Ls).take (i + 1)).flatMap (dv names)=((names.zip Ls).take i).flatMap (dv names)++dv names z:=by
   rw [List.take_succ,hz,List.flatMap_append]
   simp
  rw [hnx]
  generalize ((names.zip Ls).take i).flatMap (dv names)=ws at tl
  change WS _ _ [.im (ae af) names,.im (ae (ae au)) (Ls.map a9),.im (ae af) ws,.im af z.1,.im (ae au) (a9 z.2)] _ _
  refine ai (aZ 2 (y:=ws++S2 "part" z.1++wdL names z.2++S1 "end") (aV.im (bI (aV.im (bI (aV.im (bI (aa 2 rfl) (aV.im (aL (r:=af) (aq ar (aq (aa 3 rfl) aN)) (l2 _ _))) (aK (by simp;omega)))) (aI CW hr (ah (aa 4 rfl) (ah (aa 0 rfl) ax)) ⟨z.2,names,(i:Int),(Ls.length:Int),false,rfl,by omega,hk,by omega,by omega,by omega,rfl⟩) (aK (by simp;omega)))) (aV.im (aL (r:=af) (aq ar aN) (l1 _))) (aK (by simp;omega)))) ⟨.im af z.1,.im (ae au) (a9 z.2),?_⟩)
  unfold dv
  simp only [List.append_assoc]
  rfl
 ·obtain ⟨e3,e4,rfl⟩:=hΓ
  refine ⟨e3,e4,?_⟩
  rw [List.zip_map_right,List.length_map,List.take_length]
  rfl
 rintro _ ⟨e3,e4,rfl⟩
 obtain ⟨pl,po⟩:=oG hP
 exact ai (aW (yk ar (aa 2 rfl) (qr pl po)) (qV _ _))
end
end
section
variable {ws:List Str}
structure ay where
 kind:Str
 name:Str
 word:Int
 within:Int
abbrev c6:ay:=⟨"","",0,0⟩
abbrev named:List Str:=["part","do","call","if","while"]
abbrev sents:List Str:=["do","call","if","while","leave","back"]
abbrev openg:List Str:=["part","if","else","while"]
abbrev closg:List Str:=["else","end"]
structure dg where
 S:List ay
 O:List Int
 w:Nat
def aH (S:List ay)(o:Int):Str:=(S.getD o.toNat c6).kind
def dG (k:Str)(ks:List Str):Bool:=
 if ks.isEmpty then decide (k="part")
 else if k="leave" then decide (("while":Str)∈ks)
 else if k="else" then decide (ks.getLast?.getD ""="if")
 else if k="end" then !decide (ks.getLast?.getD ""="if")
 else decide (k∈sents)
abbrev p8 (ws:List Str)(x:dg):Str:=ws.getD x.w ""
def kz (k:Str)(n:Str)(x:dg):ay:=⟨k,n,(x.w:Int),x.O.getLast?.getD (-1)⟩
def nxF (k n:Str)(x:dg):dg:=
 ⟨x.S++[kz k (if k∈named then n else "") x],(if k∈closg then x.O.dropLast else x.O)++(if k∈openg then [(x.S.length:Int)] else []),x.w + (if k∈named then 2 else 1)⟩
def gg (ws:List Str)(x:dg):dg:=nxF (p8 ws x) (ws.getD (x.w + 1) "") x
structure zJ (ws:List Str) (x:dg):Prop where
 w:x.w < ws.length
 may:dG (p8 ws x) (x.O.map (aH x.S))=true
 nm:p8 ws x∈named->x.w + 1 < ws.length/\bK (ws.getD (x.w + 1) "")
 o:∀o∈x.O,0<=o/\o < (x.S.length:Int)
theorem j2 {α:Type}(f:α->α)(m:Nat)(x:α):∀n,itG f (m + n) x=itG f n (itG f m x)
 | 0=>rfl
 | n + 1=>by rw [← Nat.add_assoc,itG,itG,j2 f m x n]
def eo (ws:List Str)(n:Nat)(x y:dg):Prop:=itG (gg ws) n x=y/\∀i,i < n->zJ ws (itG (gg ws) i x)
theorem eo.refl {x:dg}:eo ws 0 x x:=⟨rfl,λi h=>by omega⟩
theorem eo.trans {m n:Nat}{x y z:dg}(h:eo ws m x y)(h':eo ws n y z):eo ws (m + n) x z:=by
 refine ⟨by rw [j2,h.1];exact h'.1,λi hi=>?_⟩
 by_cases q:i < m
 ·exact h.2 i q
 ·have e:i=m + (i - m):=by omega
  rw [e,j2,h.1]
  exact h'.2 (i - m) (by omega)
theorem eo.cast {n:Nat}{x y y':dg}(h:eo ws n x y)(e:y=y'):eo ws n x y':=e▸h
theorem eo.one {x y:dg}(h:zJ ws x)(e:gg ws x=y):eo ws 1 x y:=by
 refine ⟨e,λi hi=>?_⟩
 obtain rfl:i=0:=by omega
 exact h
def kL (ws:List Str)(w:Nat)(vs:List Str):Prop:=∀(i:Nat) (v:Str),vs[i]?=some v->ws[w + i]?=some v
theorem kL.app {w:Nat}{a b:List Str}(h:kL ws w (a++b)):kL ws w a/\kL ws (w + a.length) b:=by
 refine ⟨λi v hv=>h i v ?_,λi v hv=>?_⟩
 ·rw [List.getElem?_append_left (List.getElem?_eq_some_iff.mp hv).1];exact hv
 ·have:=h (a.length + i) v (by rw [List.getElem?_append_right (by omega),show a.length + i - a.length=i by omega];exact hv)
  rw [show w + a.length + i=w + (a.length + i) by omega];exact this
theorem kL.d {w:Nat}{vs:List Str}(h:kL ws w vs){i:Nat}{v:Str}(hv:vs[i]?=some v):ws.getD (w + i) ""=v/\w + i < ws.length:=by
 have:=h i v hv
 exact ⟨by rw [List.getD_eq_getElem?_getD,this];rfl,(List.getElem?_eq_some_iff.mp this).1⟩
mutual
def bo:Th->Nat
 | .ifs _ a b=>3 + szL a + szL b
 | .whil _ a=>2 + szL a
 | _=>1
def szL:List Th->Nat
 | []=>0
 | t::ts=>bo t + szL ts
end
end
mutual
def spT (names:List Str)(a w u:Int):Th->List ay
 | .doo x=>[⟨"do",x,w,u⟩]
 | .call j=>[⟨"call",names.getD j.toNat "",w,u⟩]
 | .ifs x A B=>[⟨"if",x,w,u⟩]++bP names (a + 1) (w + 2) a A++([⟨"else","",w + 2 + (wdL names A).length,a⟩]++(bP names (a + 2 + szL A) (w + 3 + (wdL names A).length) (a + 1 + szL A) B++[⟨"end","",w + 3 + (wdL names A).length + (wdL names B).length,a + 1 + szL A⟩]))
 | .whil x A=>[⟨"while",x,w,u⟩]++(bP names (a + 1) (w + 2) a A++[⟨"end","",w + 2 + (wdL names A).length,a⟩])
 | .leave=>[⟨"leave","",w,u⟩]
 | .back=>[⟨"back","",w,u⟩]
def bP (names:List Str)(a w u:Int):List Th->List ay
 | []=>[]
 | t::ts=>spT names a w u t++bP names (a + bo t) (w + (bU names t).length) u ts
end
mutual
theorem jX {names:List Str}:∀(t:Th) (a w u:Int),(spT names a w u t).length=bo t
 | .doo _,_,_,_=>by simp [spT,bo]
 | .call _,_,_,_=>by simp [spT,bo]
 | .ifs x A B,a,w,u=>by
   simp only [spT,bo,List.length_append,bN A,bN B,List.length_cons,List.length_nil]
   omega
 | .whil x A,a,w,u=>by
   simp only [spT,bo,List.length_append,bN A,List.length_cons,List.length_nil]
   omega
 | .leave,_,_,_=>by simp [spT,bo]
 | .back,_,_,_=>by simp [spT,bo]
theorem bN {names:List Str}:∀(ts:List Th) (a w u:Int),(bP names a w u ts).length=szL ts
 | [],_,_,_=>by simp [bP,szL]
 | t::ts,a,w,u=>by rw [bP,szL,List.length_append,jX t,bN ts]
end
section
variable {O:List Int}{S:List ay}{x:dg}{n:Str}{a:Int}{S':List ay}{f:Int->Str}{s:ay}
structure Ctx (x:dg) (lp:Bool):Prop where
 ne:x.O≠[]
 o:∀o∈x.O,0<=o/\o < (x.S.length:Int)
 lp:lp=true->("while":Str)∈x.O.map (aH x.S)
theorem yh {o:Int}(h0:0<=o)(h1:o < (S.length:Int)):aH (S++S') o=aH S o:=by
 unfold aH
 rw [List.getD_eq_getElem?_getD,List.getD_eq_getElem?_getD,List.getElem?_append_left (by omega)]
theorem uP:aH (S++s::S') (S.length:Int)=s.kind:=by
 unfold aH
 rw [List.getD_eq_getElem?_getD,show ((S.length:Nat):Int).toNat=S.length by omega]
 simp
theorem qE (h:∀o∈O,0<=o/\o < (S.length:Int)):O.map (aH (S++S'))=O.map (aH S):=List.map_congr_left λo ho=>yh (h o ho).1 (h o ho).2
theorem Ctx.more {lp:Bool}(h:Ctx x lp)(S':List ay)(w:Nat):Ctx ⟨x.S++S',x.O,w⟩ lp:=
 ⟨h.ne,λo ho=>⟨(h.o o ho).1,by have:=(h.o o ho).2;show o < ((x.S++S').length:Int);rw [List.length_append];omega⟩,λe=>by show _∈x.O.map (aH (x.S++S'));rw [qE h.o];exact h.lp e⟩
theorem Ctx.inner {lp lp':Bool}(h:Ctx x lp)(s:ay)(w:Nat)(hl:lp'=true->lp=true∨s.kind="while"):Ctx ⟨x.S++[s],x.O++[(x.S.length:Int)],w⟩ lp':=by
 refine ⟨by simp,λo ho=>?_,λe=>?_⟩
 ·show _/\o < ((x.S++[s]).length:Int)
  rw [List.length_append,List.length_singleton]
  rcases List.mem_append.mp ho with z | z
  ·have:=h.o o z;omega
  ·rw [List.mem_singleton.mp z];omega
 ·show _∈(x.O++[(x.S.length:Int)]).map (aH (x.S++[s]))
  rw [List.map_append,qE h.o]
  rcases hl e with z | z
  ·exact List.mem_append_left _ (h.lp z)
  ·refine List.mem_append_right _ ?_
   rw [List.map_singleton,uP,z]
   exact List.mem_singleton.mpr rfl
theorem gG {k:Str}{ks:List Str}(hne:ks≠[])(h:k∈sents)(hl:k≠"leave"):dG k ks=true:=by
 unfold dG
 have e:ks.isEmpty=false:=by cases ks with
  | nil=>exact absurd rfl hne
  | cons _ _=>rfl
 have h1:k≠"else":=λz=>by rw [z] at h;revert h;decide +kernel
 have h2:k≠"end":=λz=>by rw [z] at h;revert h;decide +kernel
 rw [if_neg (by rw [e];decide),if_neg hl,if_neg h1,if_neg h2]
 exact decide_eq_true h
theorem jv (h:O≠[]):O.map f≠[]:=λe=>h (List.map_eq_nil_iff.mp e)
theorem dU {ws:List Str}{k:Str}{vs:List Str}{i:Nat}(hk:ws.getD x.w ""=k/\x.w < ws.length)(hn:k∈named->ws.getD (x.w + 1) ""=n/\x.w + 1 < ws.length/\bK n)(hm:dG k (x.O.map (aH x.S))=true)(ho:∀o∈x.O,0<=o/\o < (x.S.length:Int)):eo ws 1 x (nxF k n x):=by
 obtain ⟨e1,h1⟩:=hk
 have e:p8 ws x=k:=e1
 refine eo.one ⟨h1,by rw [e];exact hm,λh=>?_,ho⟩ ?_
 ·rw [e] at h
  obtain ⟨e2,h2,h3⟩:=hn h
  exact ⟨h2,by rw [e2];exact h3⟩
 ·unfold gg
  rw [e]
  by_cases h:k∈named
  ·rw [(hn h).1]
  ·unfold nxF;rw [if_neg h,if_neg h,if_neg h]
theorem oM:((O++[a]).map f).getLast?.getD ""=f a:=by simp
theorem vx (h:f a="if"):dG "else" ((O++[a]).map f)=true:=by
 unfold dG
 rw [if_neg (by simp),if_neg (by decide +kernel),if_pos rfl,oM,h]
 rfl
theorem l7 (h:f a≠"if"):dG "end" ((O++[a]).map f)=true:=by
 unfold dG
 rw [if_neg (by simp),if_neg (by decide +kernel),if_neg (by decide +kernel),if_pos rfl,oM,decide_eq_false h]
 rfl
theorem uL {ks:List Str}(h:("while":Str)∈ks):dG "leave" ks=true:=by
 unfold dG
 rw [if_neg (by cases ks with
  | nil=>cases h
  | cons _ _=>simp),if_pos rfl]
 exact decide_eq_true h
abbrev uF (x:dg):Int:=x.O.getLast?.getD (-1)
theorem nD {k:Str}(h1:k∈named)(h2:k∉closg)(h3:k∉openg):nxF k n x=⟨x.S++[⟨k,n,x.w,uF x⟩],x.O,x.w + 2⟩:=by
 unfold nxF kz;rw [if_pos h1,if_pos h1,if_neg h2,if_neg h3,List.append_nil]
theorem rf {k:Str}(h1:k∉named)(h2:k∉closg)(h3:k∉openg):nxF k n x=⟨x.S++[⟨k,"",x.w,uF x⟩],x.O,x.w + 1⟩:=by
 unfold nxF kz;rw [if_neg h1,if_neg h1,if_neg h2,if_neg h3,List.append_nil]
theorem lR {k:Str}(h1:k∈named)(h2:k∉closg)(h3:k∈openg):nxF k n x=⟨x.S++[⟨k,n,x.w,uF x⟩],x.O++[(x.S.length:Int)],x.w + 2⟩:=by
 unfold nxF kz;rw [if_pos h1,if_pos h1,if_neg h2,if_pos h3]
theorem y9 {w:Nat}:nxF "else" n ⟨S,O++[a],w⟩=⟨S++[⟨"else","",w,a⟩],O++[(S.length:Int)],w + 1⟩:=by
 unfold nxF kz;rw [if_neg (show¬("else":Str)∈named by decide +kernel),if_neg (show¬("else":Str)∈named by decide +kernel),if_pos (show ("else":Str)∈closg by decide +kernel),if_pos (show ("else":Str)∈openg by decide +kernel)];simp
theorem jL {w:Nat}:nxF "end" n ⟨S,O++[a],w⟩=⟨S++[⟨"end","",w,a⟩],O,w + 1⟩:=by
 unfold nxF kz;rw [if_neg (show¬("end":Str)∈named by decide +kernel),if_neg (show¬("end":Str)∈named by decide +kernel),if_pos (show ("end":Str)∈closg by decide +kernel),if_neg (show¬("end":Str)∈openg by decide +kernel)];simp
theorem kR (h:∀o∈O,0<=o/\o < (S.length:Int))(S':List ay):∀o∈O++[(S.length:Int)],0<=o/\o < (((S++[s])++S').length:Int):=λo ho=>by
 rw [List.length_append,List.length_append,List.length_singleton]
 rcases List.mem_append.mp ho with z | z
 ·have:=h o z;omega
 ·rw [List.mem_singleton.mp z];omega
theorem lC:aH ((S++[s])++S') (S.length:Int)=s.kind:=by rw [List.append_assoc];exact uP
mutual
theorem FH {ws names:List Str}{lo m:Int}(hn:∀x∈names,bK x)(hm:m<=(names.length:Int))(hlo:0<=lo):∀(t:Th) (lp:Bool) (x:dg),bV lo m lp t->kL ws x.w (bU names t)->Ctx x lp->
 eo ws (bo t) x ⟨x.S++spT names (x.S.length:Int) (x.w:Int) (uF x) t,x.O,x.w + (bU names t).length⟩
 | .doo y,lp,x,h,hw,hc=>by
   simp only [bV] at h
   rw [bU] at hw
   have e1:=hw.d (i:=0) rfl
   have e2:=hw.d (i:=1) rfl
   have s:=dU (n:=y) (vs:=[]) (i:=0) e1 (λ_=>⟨e2.1,e2.2,h⟩) (gG (jv hc.ne) (by decide +kernel) (by decide +kernel)) hc.o
   rw [nD (by decide +kernel) (by decide +kernel) (by decide +kernel)] at s
   simp only [bo,spT,bU]
   exact s
 | .call j,lp,x,h,hw,hc=>by
   simp only [bV] at h
   rw [bU] at hw
   have e1:=hw.d (i:=0) rfl
   have e2:=hw.d (i:=1) rfl
   have hj:bK (names.getD j.toNat ""):=by
    have hl:j.toNat < names.length:=by omega
    rw [List.getD_eq_getElem?_getD,List.getElem?_eq_getElem hl]
    exact hn _ (List.getElem_mem hl)
   have s:=dU (n:=names.getD j.toNat "") (vs:=[]) (i:=0) e1 (λ_=>⟨e2.1,e2.2,hj⟩) (gG (jv hc.ne) (by decide +kernel) (by decide +kernel)) hc.o
   rw [nD (by decide +kernel) (by decide +kernel) (by decide +kernel)] at s
   simp only [bo,spT,bU]
   exact s
 | .leave,lp,x,h,hw,hc=>by
   simp only [bV] at h
   rw [bU] at hw
   have e1:=hw.d (i:=0) rfl
   have s:=dU (n:="") (vs:=[]) (i:=0) e1 (λz=>absurd z (by decide +kernel)) (uL (hc.lp h)) hc.o
   rw [rf (by decide +kernel) (by decide +kernel) (by decide +kernel)] at s
   simp only [bo,spT,bU]
   exact s
 | .back,lp,x,h,hw,hc=>by
   rw [bU] at hw
   have e1:=hw.d (i:=0) rfl
   have s:=dU (n:="") (vs:=[]) (i:=0) e1 (λz=>absurd z (by decide +kernel)) (gG (jv hc.ne) (by decide +kernel) (by decide +kernel)) hc.o
   rw [rf (by decide +kernel) (by decide +kernel) (by decide +kernel)] at s
   simp only [bo,spT,bU]
   exact s
 | .whil y A,lp,x,h,hw,hc=>by
   simp only [bV] at h
   rw [bU,List.append_assoc] at hw
   obtain ⟨w1,w2⟩:=hw.app
   obtain ⟨w2,w3⟩:=w2.app
   have e1:=w1.d (i:=0) rfl
   have e2:=w1.d (i:=1) rfl
   have s1:=dU (n:=y) (vs:=[]) (i:=0) e1 (λ_=>⟨e2.1,e2.2,h.1⟩) (gG (jv hc.ne) (by decide +kernel) (by decide +kernel)) hc.o
   rw [lR (by decide +kernel) (by decide +kernel) (by decide +kernel)] at s1
   have s2:=oV (lo:=lo) (m:=m) hn hm hlo A true ⟨x.S++[(⟨"while",y,x.w,uF x⟩:ay)],x.O++[(x.S.length:Int)],x.w + 2⟩ h.2 w2 (hc.inner _ _ λ_=>.inr rfl)
   have hu:uF ⟨x.S++[(⟨"while",y,x.w,uF x⟩:ay)],x.O++[(x.S.length:Int)],x.w + 2⟩=(x.S.length:Int):=by unfold uF;simp
   rw [hu] at s2
   have e3:=w3.d (i:=0) rfl
   have s3:=dU (ws:=ws) (x:=⟨x.S++[(⟨"while",y,x.w,uF x⟩:ay)]++bP names ((x.S++[(⟨"while",y,x.w,uF x⟩:ay)]).length:Int) ((x.w + 2:Nat):Int) (x.S.length:Int) A,x.O++[(x.S.length:Int)],x.w + 2 + (wdL names A).length⟩) (n:="") (vs:=[]) (i:=0) e3 (λz=>absurd z (by decide +kernel)) (l7 (by rw [lC];show ("while":Str)≠"if";decide +kernel)) (kR hc.o _)
   rw [jL] at s3
   have s:=(s1.trans s2).trans s3
   simp only [bo,spT,bU]
   rw [show 1 + szL A + 1=2 + szL A by omega] at s
   refine s.cast ?_
   simp only [List.length_append,List.length_cons,List.length_nil,List.append_assoc]
   push_cast
   simp only [dg.mk.injEq]
   refine ⟨?_,trivial,?_⟩
   ·rw [show (x.w:Int) + 1 + 1=(x.w:Int) + 2 by omega]
   ·omega
 | .ifs y A B,lp,x,h,hw,hc=>by
   simp only [bV] at h
   rw [bU,List.append_assoc,List.append_assoc] at hw
   obtain ⟨w1,w2⟩:=hw.app
   obtain ⟨w2,w3⟩:=w2.app
   obtain ⟨w3,w4⟩:=w3.app
   obtain ⟨w4,w5⟩:=w4.app
   have e1:=w1.d (i:=0) rfl
   have e2:=w1.d (i:=1) rfl
   have s1:=dU (n:=y) (vs:=[]) (i:=0) e1 (λ_=>⟨e2.1,e2.2,h.1⟩) (gG (jv hc.ne) (by decide +kernel) (by decide +kernel)) hc.o
   rw [lR (by decide +kernel) (by decide +kernel) (by decide +kernel)] at s1
   generalize hs0:(⟨"if",y,x.w,uF x⟩:ay)=s0 at s1
   have k0:s0.kind="if":=by rw [← hs0]
   have s2:=oV (lo:=lo) (m:=m) hn hm hlo A lp ⟨x.S++[s0],x.O++[(x.S.length:Int)],x.w + 2⟩ h.2.1 w2 (hc.inner _ _ λz=>.inl z)
   have hu:uF ⟨x.S++[s0],x.O++[(x.S.length:Int)],x.w + 2⟩=(x.S.length:Int):=by unfold uF;simp
   rw [hu] at s2
   have e3:=w3.d (i:=0) rfl
   generalize hSA:bP names ((x.S++[s0]).length:Int) ((x.w + 2:Nat):Int) (x.S.length:Int) A=SA at s2
   have lSA:SA.length=szL A:=by rw [← hSA,bN]
   have s3:=dU (ws:=ws) (x:=(⟨x.S++[s0]++SA,x.O++[(x.S.length:Int)],x.w + 2 + (wdL names A).length⟩:dg)) (n:="") (vs:=[]) (i:=0) e3 (λz=>absurd z (by decide +kernel)) (vx (by rw [lC,k0])) (kR hc.o _)
   rw [y9] at s3
   have c3:=(hc.more (s0::SA) (x.w + 2 + (wdL names A).length)).inner (⟨"else","",((x.w + 2 + (wdL names A).length:Nat):Int),(x.S.length:Int)⟩:ay) (x.w + 2 + (wdL names A).length + 1) (lp':=lp) λz=>.inl z
   have el:x.S++s0::SA=x.S++[s0]++SA:=by simp
   dsimp only at c3
   rw [el] at c3
   generalize hs1:(⟨"else","",((x.w + 2 + (wdL names A).length:Nat):Int),(x.S.length:Int)⟩:ay)=s1' at s3 c3
   have k1:s1'.kind≠"if":=by rw [← hs1];show ("else":Str)≠"if";decide +kernel
   have s4:=oV (lo:=lo) (m:=m) hn hm hlo B lp _ h.2.2 w4 c3
   have hu2:uF ⟨x.S++[s0]++SA++[s1'],x.O++[((x.S++[s0]++SA).length:Int)],x.w + 2 + (wdL names A).length + 1⟩=((x.S++[s0]++SA).length:Int):=by unfold uF;simp
   rw [hu2] at s4
   have e5:=w5.d (i:=0) rfl
   dsimp only at s4
   generalize hSB:bP names ((x.S++[s0]++SA++[s1']).length:Int) ((x.w + 2 + (wdL names A).length + 1:Nat):Int) ((x.S++[s0]++SA).length:Int) B=SB at s4
   have s5:=dU (ws:=ws) (x:=(⟨x.S++[s0]++SA++[s1']++SB,x.O++[((x.S++[s0]++SA).length:Int)],x.w + 2 + (wdL names A).length + 1 + (wdL names B).length⟩:dg)) (n:="") (vs:=[]) (i:=0) e5 (λz=>absurd z (by decide +kernel)) (l7 (by rw [lC];exact k1)) (kR (by
    intro o ho
    have:=(hc.more (s0::SA) 0).o o ho
    dsimp only at this
    rw [el] at this
    exact this) _)
   rw [jL] at s5
   have s:=(((s1.trans s2).trans s3).trans s4).trans s5
   simp only [bo,spT,bU]
   rw [show 1 + szL A + 1 + szL B + 1=3 + szL A + szL B by omega] at s
   refine s.cast ?_
   subst hs0 hs1
   simp only [List.length_append,List.length_cons,List.length_nil,List.append_assoc,lSA] at hSA hSB ⊢
   rw [← hSA,← hSB]
   push_cast
   simp only [dg.mk.injEq]
   refine ⟨?_,trivial,?_⟩
   ·rw [show (x.w:Int) + 1 + 1=(x.w:Int) + 2 by omega,show (x.w:Int) + 2 + ((wdL names A).length:Int) + 1=(x.w:Int) + 3 + ((wdL names A).length:Int) by omega,show (x.S.length:Int) + (1 + ((szL A:Int) + 1))=(x.S.length:Int) + 2 + (szL A:Int) by omega,show (x.S.length:Int) + (1 + (szL A:Int))=(x.S.length:Int) + 1 + (szL A:Int) by omega]
   ·omega
theorem oV {ws names:List Str}{lo m:Int}(hn:∀x∈names,bK x)(hm:m<=(names.length:Int))(hlo:0<=lo):∀(ts:List Th) (lp:Bool) (x:dg),bz lo m lp ts->kL ws x.w (wdL names ts)->Ctx x lp->
 eo ws (szL ts) x ⟨x.S++bP names (x.S.length:Int) (x.w:Int) (uF x) ts,x.O,x.w + (wdL names ts).length⟩
 | [],lp,x,h,hw,hc=>by
   simp only [szL,bP,wdL]
   refine eo.refl.cast ?_
   simp
 | t::ts,lp,x,h,hw,hc=>by
   simp only [bz] at h
   rw [wdL] at hw
   obtain ⟨w1,w2⟩:=hw.app
   have s1:=FH hn hm hlo t lp x h.1 w1 hc
   have s2:=oV hn hm hlo ts lp ⟨x.S++spT names (x.S.length:Int) (x.w:Int) (uF x) t,x.O,x.w + (bU names t).length⟩ h.2.2 w2 (hc.more _ _)
   have s:=s1.trans s2
   simp only [szL,bP,wdL]
   refine s.cast ?_
   simp only [List.length_append,jX,List.append_assoc]
   push_cast
   simp only [dg.mk.injEq]
   refine ⟨trivial,trivial,?_⟩
   omega
end
end
def eI (names:List Str)(a w:Int):List (Str×List Th)->List ay
 | []=>[]
 | z::r=>[⟨"part",z.1,w, -1⟩]++(bP names (a + 1) (w + 2) a z.2++([⟨"end","",w + 2 + (wdL names z.2).length,a⟩]++eI names (a + 2 + szL z.2) (w + 3 + (wdL names z.2).length) r))
def cN:List (Str×List Th)->Nat
 | []=>0
 | z::r=>2 + szL z.2 + cN r
theorem qx {names:List Str}:∀(zs:List (Str×List Th)) (a w:Int),(eI names a w zs).length=cN zs
 | [],_,_=>rfl
 | z::r,a,w=>by
   rw [eI,cN]
   simp only [List.length_append,bN,qx r,List.length_cons,List.length_nil]
   omega
theorem Be {ws names:List Str}{m:Int}(hn:∀x∈names,bK x)(hm:m<=(names.length:Int)):∀(zs:List (Str×List Th)) (x:dg),(∀z∈zs,bK z.1/\∃lo,0<=lo/\bz lo m false z.2)->kL ws x.w (zs.flatMap (dv names))->x.O=[]->
 eo ws (cN zs) x ⟨x.S++eI names (x.S.length:Int) (x.w:Int) zs,[],x.w + (zs.flatMap (dv names)).length⟩
 | [],x,h,hw,hc=>by
   refine eo.refl.cast ?_
   simp [eI,← hc]
 | z::r,x,h,hw,hc=>by
   obtain ⟨S,O,w⟩:=x
   obtain rfl:O=[]:=hc
   obtain ⟨hz,lo,hlo,hok⟩:=h z List.mem_cons_self
   rw [List.flatMap_cons] at hw
   obtain ⟨hw,hwr⟩:=hw.app
   rw [show dv names z=S2 "part" z.1++(wdL names z.2++S1 "end") by unfold dv;rw [List.append_assoc]] at hw
   obtain ⟨w1,w2⟩:=hw.app
   obtain ⟨w2,w3⟩:=w2.app
   dsimp only at w1 w2 w3 hwr ⊢
   have e1:=w1.d (i:=0) rfl
   have e2:=w1.d (i:=1) rfl
   have s1:=dU (x:=(⟨S,[],w⟩:dg)) (n:=z.1) (vs:=[]) (i:=0) e1 (λ_=>⟨e2.1,e2.2,hz⟩) (show dG "part" []=true by decide +kernel) (λo ho=>by cases ho)
   rw [lR (by decide +kernel) (by decide +kernel) (by decide +kernel)] at s1
   dsimp only at s1
   rw [show uF ⟨S,[],w⟩= -1 from rfl] at s1
   generalize hs0:(⟨"part",z.1,(w:Int), -1⟩:ay)=s0 at s1
   have k0:s0.kind="part":=by rw [← hs0]
   have c1:Ctx ⟨S++[s0],[]++[(S.length:Int)],w + 2⟩ false:=⟨by simp,λo ho=>by
    have e:o=(S.length:Int):=by simpa using ho
    show _/\o < ((S++[s0]).length:Int)
    rw [List.length_append,List.length_singleton,e];omega,λe=>by cases e⟩
   have s2:=oV (lo:=lo) (m:=m) hn hm hlo z.2 false _ hok w2 c1
   rw [show uF ⟨S++[s0],[]++[(S.length:Int)],w + 2⟩=(S.length:Int) from rfl] at s2
   dsimp only at s2
   generalize hSA:bP names ((S++[s0]).length:Int) ((w + 2:Nat):Int) (S.length:Int) z.2=SA at s2
   have lSA:SA.length=szL z.2:=by rw [← hSA,bN]
   have e3:=w3.d (i:=0) rfl
   have s3:=dU (ws:=ws) (x:=(⟨S++[s0]++SA,[]++[(S.length:Int)],w + 2 + (wdL names z.2).length⟩:dg)) (n:="") (vs:=[]) (i:=0) e3 (λz=>absurd z (by decide +kernel)) (l7 (by rw [lC,k0];decide +kernel)) (kR (λo ho=>by cases ho) _)
   rw [jL] at s3
   have s4:=Be hn hm r ⟨S++[s0]++SA++[⟨"end","",((w + 2 + (wdL names z.2).length:Nat):Int),(S.length:Int)⟩],[],w + 2 + (wdL names z.2).length + 1⟩ (λy hy=>h y (List.mem_cons_of_mem _ hy)) (by
    have e:w + 2 + (wdL names z.2).length + 1=w + (dv names z).length:=by unfold dv;simp only [List.length_append,List.length_cons,List.length_nil];omega
    dsimp only
    rw [e];exact hwr) rfl
   have s:=((s1.trans s2).trans s3).trans s4
   rw [cN,show 2 + szL z.2 + cN r=1 + szL z.2 + 1 + cN r by omega]
   refine s.cast ?_
   subst hs0
   dsimp only
   rw [eI,List.flatMap_cons]
   have lp:(dv names z).length=3 + (wdL names z.2).length:=by unfold dv;simp only [List.length_append,List.length_cons,List.length_nil];omega
   simp only [List.length_append,List.length_cons,List.length_nil,List.append_assoc,lSA,lp] at hSA ⊢
   rw [← hSA]
   push_cast
   simp only [dg.mk.injEq]
   refine ⟨?_,trivial,?_⟩
   ·rw [show (w:Int) + 1 + 1=(w:Int) + 2 by omega,show (w:Int) + 2 + ((wdL names z.2).length:Int) + 1=(w:Int) + 3 + ((wdL names z.2).length:Int) by omega,show (S.length:Int) + (1 + ((szL z.2:Int) + 1))=(S.length:Int) + 2 + (szL z.2:Int) by omega]
   ·omega
abbrev aD (names:List Str)(Ls:List (List Th)):List ay:=eI names 0 0 (names.zip Ls)
theorem mE {names:List Str}{Ls:List (List Th)}(h:f7 names Ls):eo (ir names Ls) (cN (names.zip Ls)) ⟨[],[],0⟩ ⟨aD names Ls,[],(ir names Ls).length⟩:=by
 have:=Be (ws:=ir names Ls) (names:=names) (m:=(Ls.length:Int)) h.nm (by rw [h.l];omega) (names.zip Ls) ⟨[],[],0⟩ (λz hz=>by
  obtain ⟨i,hi⟩:=List.mem_iff_getElem?.mp hz
  obtain ⟨h1,h2⟩:=gH hi
  exact ⟨h.nm z.1 (List.mem_of_getElem? h1),(i:Int),by omega,h.ok i z.2 h2⟩) (λi v hv=>by
   show (ir names Ls)[0 + i]?=some v
   rw [Nat.zero_add];exact hv) rfl
 refine this.cast ?_
 simp [aD,ir]
end K1
namespace Fc
open PySem PySem.Spec L2
open PyProof.Rows hiding St
section
variable {K:PySem.W.Frag}{R:Hp}
def Rep.at_ {α:Type}(r:Rep α)(y:α):Rep Unit:=⟨λK R v _=>r.R K R v y,λs h=>r.mono s h⟩
abbrev gN:=List (Str×Rep Unit)
abbrev d9 (fs:gN)(K:PySem.W.Frag)(R:Hp)(vs:List (Str×V)):Prop:=PySem.Paired (λ(z:Str×V) (f:Str×Rep Unit)=>z.1=f.1/\f.2.R K R z.2 ()) vs fs
theorem d9.mono {fs:gN}{R':Hp}{vs:List (Str×V)}(s:ak R R')(h:d9 fs K R vs):d9 fs K R' vs:=Paired.map (λ_ f ⟨a,b⟩=>⟨a,f.2.mono s b⟩) h
def kH:gN->Str->Option (Rep Unit)
 | [],_=>none
 | (g,x)::r,f=>if g=f then some x else kH r f
theorem d9.get {f:Str}{r:Rep Unit}:∀{fs:gN} {vs:List (Str×V)},d9 fs K R vs->kH fs f=some r->∃v,vs.lookup f=some v/\r.R K R v ()
 | _,_,.nil,h=>by cases h
 | _,_,.cons (a:=z) (b:=p) h t,hg=>by
   obtain ⟨g,x⟩:=p
   obtain ⟨g',v⟩:=z
   obtain ⟨e,hv⟩:=h
   have e:g'=g:=e
   subst e
   rw [kH] at hg
   rw [List.lookup]
   by_cases q:g'=f
   ·rw [if_pos q] at hg;cases hg;subst q
    exact ⟨v,by simp,hv⟩
   ·rw [if_neg q] at hg
    rw [show (f==g')=false from beq_eq_false_iff_ne.mpr λz=>q z.symm]
    exact d9.get t hg
theorem d9.put {f:Str}{r:Rep Unit}{v:V}(hv:r.R K R v ()):∀{fs:gN} {vs:List (Str×V)},d9 fs K R vs->kH fs f=none->d9 (fs++[(f,r)]) K R (dD f v vs)
 | _,_,.nil,_=>.cons ⟨rfl,hv⟩ .nil
 | _,_,.cons (a:=z) (b:=p) h t,hg=>by
   obtain ⟨g,x⟩:=p
   obtain ⟨g',u⟩:=z
   obtain ⟨e,hu⟩:=h
   have e:g'=g:=e
   subst e
   rw [kH] at hg
   rw [dD]
   by_cases q:g'=f
   ·rw [if_pos q] at hg;cases hg
   ·rw [if_neg q] at hg ⊢
    exact .cons ⟨rfl,hu⟩ (d9.put hv t hg)
def eD (C:Addr):LK gN where
 bx l fs:=⟨l,λK H R v=>∃x dx vs,l=[x,dx]/\v= .ref x/\H x=some (.ins C dx vs)/\H dx=some (.own x)/\d9 fs K R vs/\x≠dx,λ{K H R0 H' R' v} e s ⟨x,dx,vs,el,ev,h1,h2,h3,nd⟩=>by
  subst el
  exact ⟨x,dx,vs,rfl,ev,(e x (by simp)).trans h1,(e dx (by simp)).trans h2,h3.mono s,nd⟩,λ{K H R0 v} ⟨x,dx,vs,el,ev,h1,h2,h3,nd⟩ a ha=>by
  subst el
  rcases List.mem_cons.mp ha with rfl | ha
  ·rw [h1];exact Option.some_ne_none _
  ·rw [List.mem_singleton.mp ha,h2];exact Option.some_ne_none _⟩
 fp:=λ_ _=>rfl
 at_:=λ⟨x,dx,vs,el,ev,_⟩=>⟨x,[dx],el,ev⟩
end
section
variable {X:Cx}{Γ Γ1 Γ2 Γ3:Ga}{α β γ δ:Type}{N:Ga->Prop}{T:RT}
theorem sM {C x dx:Addr}{fs:gN}{K:PySem.W.Frag}{H R:Hp}{o:Option V}(h:(Ent.ob ((eD C).bx [x,dx] fs)).ok K H R o):o=some (.ref x)/\oh R [x,dx]/\∃vs,H x=some (.ins C dx vs)/\H dx=some (.own x)/\d9 fs K R vs/\x≠dx:=by
 obtain ⟨e,hB,hR⟩:=sD (B:=eD C) h
 obtain ⟨x',dx',vs,el,ev,h1,h2,h3,nd⟩:=hB
 cases el
 exact ⟨e,hR,vs,h1,h2,h3,nd⟩
theorem jb (i:Nat){m f:Str}{p1 pos:Pos}{C x dx:Addr}{fs:gN}{r:Rep α}{y:α}{ns:List Str}(hC:bh X.K C ns)(hf:f∈ns)(hΓ:Γ[i]?=some (.ob ((eD C).bx [x,dx] fs)))(h:kH fs f=some (r.at_ y))(hN:X.N[i]?=some m:=by rfl)(hv:cy X.env.scope m:=by first | exact Or.inl rfl | exact Or.inr (Or.inl rfl) | exact Or.inr (Or.inr rfl))
 (hd:(m==("__debug__":Str))=false:=by decide) (hcd:(m==("__classdict__":Str))=false:=by decide) (hb:attributeBase (.Name m p1) f X.env (eval (.Name m p1) X.env)=eval (.Name m p1) X.env:=by rfl):EV X (.Attribute (.Name m p1) f pos) Γ r y Γ:=λσ H0 R0 H R E Q q=>by
 obtain ⟨ea,hR,vs,h1,h2,h3,nd⟩:=sM (E.ent i _ hΓ)
 obtain ⟨v,hl,hv'⟩:=h3.get h
 exact eS (n5 (bc hN hv hd hcd) hb) ⟨.ref x,at_of ea,x,C,dx,vs,v,rfl,h1,hC.cl,hC.no f hf,hl,q v H R E (ak.refl _) hv'⟩
theorem eO (i:Nat){m f:Str}{e:Expr}{p1 ap pos:Pos}{C x dx:Addr}{fs:gN}{ns:List Str}{r:Rep α}{y:α}(hC:bh X.K C ns)(hf:f∈ns)(he:EV X e Γ r y Γ1)(hΓ1:Γ1[i]?=some (.ob ((eD C).bx [x,dx] fs)))(h:kH fs f=none)(hz:fs.length < 1000)(hn:N (Γ1.set i (.ob ((eD C).bx [x,dx] (fs++[(f,r.at_ y)])))))
 (hN:X.N[i]?=some m:=by rfl) (hv:cy X.env.scope m:=by first | exact Or.inl rfl | exact Or.inr (Or.inl rfl) | exact Or.inr (Or.inr rfl)) (hd:(m==("__debug__":Str))=false:=by decide) (hcd:(m==("__classdict__":Str))=false:=by decide)
 (hsw:swapsWith e (some (.Attribute (.Name m p1) f ap)) pos.line X.env=pure false:=by rfl):W1 X (.Assign [.Attribute (.Name m p1) f ap] e pos) Γ N T:=λσ H0 R0 H R E D dn dr=>
 sS (Ca (bc hN hv hd hcd) aJ hsw) (he σ H0 R0 H R E _ λv H1 R1 E1 s1 e1=>by
  obtain ⟨ea,hR,vs,h1,h2,h3,nd⟩:=sM (E1.ent i _ hΓ1)
  refine ⟨.ref x,at_of ea,x,C,dx,vs,rfl,h1,hC.cl,hC.no f hf,by rw [h3.length];exact hz,?_⟩
  refine dn σ _ R1 _ (E1.me (en:=.ob ((eD C).bx [x,dx] (fs++[(f,r.at_ y)]))) hΓ1 (a:=x) (by show x∈[x,dx];simp) ?_ λb hb=>.inl hb) s1 hn
  rw [ea]
  exact uu (B:=eD C) ⟨x,dx,_,rfl,rfl,av,by rw [aw (Ne.symm nd)];exact h2,d9.put (r:=r.at_ y) e1 h3 h,nd⟩ hR)
abbrev uR:=PySem.W.Frag->Addr->List Pk->(gN->Prop)->Prop
def qZ (S:uR)(K:PySem.W.Frag):Sp:=λvs H Q _=>∃R x dx C vs' ps Pd,vs= .ref x::vs'/\ak R H/\oh R [x,dx]/\((eD C).bx [x,dx] []).R K H R (.ref x)/\hU K R vs' ps/\S K C ps Pd/\
 ∀H' R' fs,Ext (jr H [x,dx]) R H' R'->((eD C).bx [x,dx] fs).R K H' R' (.ref x)->oh R' [x,dx]->Pd fs->Q .non H'
variable {P:Program}{w:World}{K:PySem.W.Frag}{mg:Str->Option Value}{base:Heap}
theorem tK {S:uR}{x qual:Str}{st:Stmt}{f:Addr}{fd:FuncData}{N ps:List Str}{k:Nat}(F:bw K x qual st f fd)(Sc:aE N ps (ag st))(len:∀C qs Pd,S K C qs Pd->qs.length + 1=ps.length)
 (hbody:∀(cdv:Value) (A:Around) (outer:List Env) (s:Shared) (H:Hp) (E:XK) (C a dx:Addr) (qs:List Pk) (Pd:gN->Prop),bA k (A.deeper (envOfC qual (ag st) s.heap.objs.size f cdv))->S K C qs Pd->
  WS (fc dI P w K mg base N qual (ag st) f cdv A outer s H E).jf (bM st) (.ob ((eD C).bx [a,dx] [])::ee qs (N.length - 1)) (λΓ=>∃fs,Γ[0]?=some (.ob ((eD C).bx [a,dx] fs))/\Pd fs) (λ_ _ _ _=>False)):cV P w K mg base dI (k + 1) f fd ps (qZ S K):=by
 refine F.ok Sc (λvs H Q E h=>?_) (λcdv A outer s H vs Q E hr h=>?_)
 ·obtain ⟨R,a,dx,C,vs',qs,Pd,rfl,_,_,_,p,hS,_⟩:=h
  rw [List.length_cons,p.length];exact len C qs Pd hS
 ·obtain ⟨R,a,dx,C,vs',qs,Pd,rfl,sR,hR,hB,p,hS,q⟩:=h
  have hl:qs.length + 1<=N.length:=by
   rw [len C qs Pd hS]
   have:=congrArg List.length Sc.pre
   rw [List.length_take] at this
   omega
  refine ⟨_,ie,hbody cdv A outer s H E C a dx qs Pd hr hS (L2.start N (.ref a::vs')) (jr H [a,dx]) R H R (rq (B:=eD C) sR hR hB p hl) {nx:=λ_ H'=>Q .non H',rt:=Q} (λσ' H' R' Γ' E' _ ⟨fs,hΓ,t⟩=>?_) λv H' R' xx t=>t.elim⟩
  obtain ⟨ea,hB',hR'⟩:=sD (B:=eD C) (E'.ent 0 _ hΓ)
  exact q H' R' fs E'.ext hB' hR' t
theorem qD {S:uR}{c:Str}{k:Nat}{e:Expr}{es:List Expr}{p pos:Pos}{ps:List Pk}{Pd:gN->Prop}{C f:Addr}{fd:FuncData}{pn:List Str}{rr:Rep α}{z:α}(M:Mk X.K C f)(F:cV X.prog X.w X.K X.mg X.base dI k f fd pn (qZ S X.K))(hr:bA (k + 1) X.A)(hm:X.mg c=some (.ref C))(hb:Binds X.K fd pn [])(ha:HA X (e::es) Γ ps Γ1)(hS:S X.K C ps Pd)
 (hz:∀(fs:gN) (R:Hp) (x dx:Addr) (vs:List (Str×V)),Pd fs->d9 fs X.K R vs->R x=some (.ins C dx vs)->rr.R X.K R (.ref x) z)
 (hg:Gl X c:=by rfl) (hdb:(c==("__debug__":Str))=false:=by decide) (he:starEach (e::es) X.env=(false,eval e X.env)::starEach es X.env:=by rfl) (hpl:(backTo pos (starEach es X.env)).any (·.1)=false:=by rfl):
 EV X (.Call (.Name c p) (e::es) [] pos) Γ rr z Γ1:=λσ H0 R0 H R E Q q=>
 eS (yI M F hr hg hm hb .nil nv jm hdb he hpl) (ha σ H0 R0 H R E _ λvs H1 R1 E1 s1 p1 x dx hx hdx hne=>by
  have hd1:∀b,jr (upd (upd H1 dx (.own x)) x (.ins C dx [])) [x,dx] b=H1 b:=λb=>by
   by_cases hb:b∈[x,dx]
   ·rw [mj hb]
    rcases List.mem_cons.mp hb with rfl | hb
    ·exact hx.symm
    ·rw [List.mem_singleton.mp hb];exact hdx.symm
   ·rw [nS hb]
    simp at hb
    rw [aw hb.1,aw hb.2]
  have hR:oh R1 [x,dx]:=λb hb=>by
   rcases List.mem_cons.mp hb with rfl | hb
   ·exact E1.sub.free hx
   ·rw [List.mem_singleton.mp hb];exact E1.sub.free hdx
  refine ⟨R1,x,dx,C,vs,ps,Pd,by rw [List.append_nil],λb o q=>?_,hR,⟨x,dx,[],rfl,rfl,av,by rw [aw hne,av],.nil,Ne.symm hne⟩,p1,hS,λH' R' fs xx hB hR' hP=>⟨rfl,?_⟩⟩
  ·have b1:b≠x:=λe=>by rw [e,hR x (by simp)] at q;cases q
   have b2:b≠dx:=λe=>by rw [e,hR dx (by simp)] at q;cases q
   rw [aw b1,aw b2];exact E1.sub b o q
  ·rw [show jr (upd (upd H1 dx (.own x)) x (.ins C dx [])) [x,dx]=H1 from funext hd1] at xx
   obtain ⟨x',dx',ws,el,ev,h1,h2,h3,nd⟩:=hB
   cases el
   have E2:=E1.grow xx
   have E3:=E2.nu h2 (hR' dx (by simp)) (E1.ext.h.free hdx) (E1.off hdx)
   have sd:ak R' (upd R' dx (.own x)):=ak.fresh (hR' dx (by simp)) _
   have hRx:upd R' dx (.own x) x=none:=by rw [aw nd];exact hR' x (by simp)
   have E4:=E3.nu h1 hRx (E1.ext.h.free hx) (E1.off hx)
   have sx:=sd.trans (ak.fresh hRx (.ins C dx ws))
   exact q (.ref x) H' _ E4 ((s1.trans xx.r).trans sx) (hz fs _ x dx ws hP (h3.mono sx) av))
theorem gu {e:Expr}{f:Str}{pos:Pos}{C:Addr}{ns:List Str}{rr:Rep α}{z:α}{r:Rep β}{y:β}(hC:bh X.K C ns)(hf:f∈ns)(he:EV X e Γ rr z Γ1)
 (hz:∀(K:PySem.W.Frag) (R:Hp) (v:V),rr.R K R v z->∃x dx vs u,v= .ref x/\R x=some (.ins C dx vs)/\vs.lookup f=some u/\r.R K R u y) (hb:attributeBase e f X.env (eval e X.env)=eval e X.env:=by rfl):EV X (.Attribute e f pos) Γ r y Γ1:=λσ H0 R0 H R E Q q=>
 eS (n5 aJ hb) (he σ H0 R0 H R E _ λv H1 R1 E1 s1 e1=>by
  obtain ⟨x,dx,vs,u,rfl,h1,h2,h3⟩:=hz _ _ _ e1
  exact ⟨x,C,dx,vs,u,rfl,E1.sub _ _ h1,hC.cl,hC.no f hf,h2,q u H1 R1 E1 s1 h3⟩)
end
section
variable {X:Cx}{Γ Γ1 Γ2 Γ3:Ga}{α β γ δ:Type}{N:Ga->Prop}{T:RT}
variable {e:Expr}{r:Rep α}{x:Str}
theorem uc {pos:Pos}{y:α}(he:EV X e Γ r y Γ1)(h:N Γ1)(hsw:swapsWith e none pos.line X.env=pure false:=by rfl):W1 X (.Expr e pos) Γ N T:=λσ H0 R0 H R E D dn dr=>
 sS (gx aJ hsw) (he σ H0 R0 H R E _ λv H1 R1 E1 s1 e1=>dn σ H1 R1 _ E1 s1 h)
theorem zU (i:Nat){p1 pos:Pos}{a c:Int}(he:EV X e Γ ab c Γ)(hΓ:Γ[i]?=some (.im ab a))(h:N (Γ.set i (.im ab (a + c))))
 (hN:X.N.Nodup:=by first | assumption | decide) (hi:X.N[i]?=some x:=by rfl) (hx:Loc X.env.scope x:=by first | exact Or.inl rfl | exact Or.inr rfl)
 (hf:X.fn x=true∨X.env.scope.names.lookup x=some .local:=by first | exact .inl rfl | exact .inr rfl):
 W1 X (.AugAssign (.Name x p1) .Add e pos) Γ N T:=λσ H0 R0 H R E D dn dr=>by
 obtain ⟨v,ea,hr⟩:=E.ent i _ hΓ
 cases (show v=V.int a from hr)
 refine sS (BR hN hi hx aJ zE hf) ⟨.int a,at_of ea,he σ H0 R0 H R E _ λu H2 R2 E2 s2 e2=>?_⟩
 cases (show u=V.int c from e2)
 exact ⟨a,c,rfl,rfl,dn _ H2 R2 _ (E2.set i (r:=ab) (x:=a + c) rfl) s2 h⟩
theorem zw {i j:Nat}{r':Rep β}{xs:List α}{ys:List β}(hij:i≠j)(hΓ:Γ[i]?=some (.mu r xs))(hj:Γ[j]?=some (.mu r' ys))(hz:xs.length<=sizeLine)(hz':ys.length<=sizeLine)(σ:St)(H0 R0 H R:Hp)(E:ao X.K σ H0 R0 H R Γ):ao X.K σ H H H H (((Γ.map ny).set i (.im (ae r) xs)).set j (.im (ae r') ys)):=by
 obtain ⟨a,vs,ea,ha,hR,pp⟩:=E.ent i _ hΓ
 obtain ⟨b,ws,eb,hb,hRb,pq⟩:=E.ent j _ hj
 have E1:=E.frz.lg (i:=i) (e0:=.no) (en:=.im (ae r) xs) (by rw [List.getElem?_map,hΓ];rfl) ⟨.ref a,ea,a,vs,rfl,ha,Paired.map (λ_ _=>r.mono E.sub) pp,hz⟩ λb w=>by cases w
 exact E1.lg (i:=j) (e0:=.no) (by rw [List.getElem?_set_ne hij,List.getElem?_map,hj];rfl) ⟨.ref b,eb,b,ws,rfl,hb,Paired.map (λ_ _=>r'.mono E.sub) pq,hz'⟩ λb w=>by cases w
theorem uB:cS X (compareOp .LtE) (λx y H Q=>∃i j,x= .str i/\y= .str j/\Q (.bl (!decide (j.cps.toList < i.cps.toList))) H):=by
 intro pins s σ H x y v u Q I rx ry h
 obtain ⟨i,j,rfl,rfl,q⟩:=h
 obtain ⟨t,rfl⟩:=rx
 obtain ⟨t',rfl⟩:=ry
 exact PySem.P.le_str (bb I q rfl)
theorem xF {y:Str}:fm X .LtE af af x y (!decide (y.cps.toList < x.cps.toList)):=⟨_,uB,λR H v u Q _ e1 e2 q=>by
 cases e1;cases e2
 exact ⟨x,y,rfl,rfl,q⟩⟩
theorem sE {xs:List Str}:fm X .NotIn af (ae af) x xs (!decide (x∈xs)):=⟨_,nM,λR H v u Q s e1 e2 q=>by
 cases e1
 obtain ⟨a,vs,rfl,hq,p,_⟩:=e2
 have e:=jS p
 subst e
 exact ⟨a,_,rfl,.inl (aM.of (s _ _ hq)),rfl,hX xs,by rw [if_pos rfl,i8];exact q⟩⟩
theorem nZ {xs:List α}(h:EV X e Γ (ae r) xs Γ1)(he:∀whole,isTrue e X.env whole=(do let v ← whole;standAt e.pos;holding [v] (truthy v)):=by intro _;rfl):TV X e Γ (!xs.isEmpty) Γ1:=by
 intro σ H0 R0 H R E Q q
 refine tS (oX aJ he) (h σ H0 R0 H R E _ λv H1 R1 E1 s1 e1=>?_)
 obtain ⟨a,vs,rfl,ha,pp,_⟩:=e1
 refine ⟨!xs.isEmpty,.inl ⟨vs,aM.of (E1.sub _ _ ha),?_⟩,q H1 R1 E1 s1⟩
 cases pp<;>rfl
end
end Fc
namespace K1
open PySem L2 Fc
open PySem.Spec hiding Row
open PyProof.Rows hiding St
structure g6 (K:PySem.W.Frag) (mg:Str->Option Value):Prop where
 most:∃t,mg "MOST_LETTERS"=some (.int 8 t)
 nost:∃t,mg "NO_STEP"=some (.int (-1) t)
 named:mq K mg "NAMED" named
 sents:mq K mg "SENTENCES" sents
 openg:mq K mg "OPENING" openg
 closg:mq K mg "CLOSING" closg
abbrev fg:List Str:=["kind","name","word","within"]
theorem fX {x:Str}(h:decide (x∈fg)=true):x∈fg:=of_decide_eq_true h
def Et (s:ay):gN:=[("kind",af.at_ s.kind),("name",af.at_ s.name),("word",ab.at_ s.word),("within",ab.at_ s.within)]
def aO (C:Addr):Rep ay:=⟨λK R v s=>∃x dx vs,v= .ref x/\R x=some (.ins C dx vs)/\d9 (Et s) K R vs,λs ⟨x,dx,vs,e,h1,h2⟩=>⟨x,dx,vs,e,s _ _ h1,h2.mono s⟩⟩
section
variable {X:Cx}{Γ Γ1:Ga}{C:Addr}{e:Expr}{pos:Pos}{s:ay}
theorem eA (hC:bh X.K C fg)(he:EV X e Γ (aO C) s Γ1)(hb:attributeBase e "kind" X.env (eval e X.env)=eval e X.env:=by rfl):EV X (.Attribute e "kind" pos) Γ af s.kind Γ1:=gu hC (fX (by decide)) he (λK R v ⟨x,dx,vs,e,h1,h2⟩=>by obtain ⟨u,q1,q2⟩:=h2.get (f:="kind") rfl;exact ⟨x,dx,vs,u,e,h1,q1,q2⟩) hb
theorem lh (hC:bh X.K C fg)(he:EV X e Γ (aO C) s Γ1)(hb:attributeBase e "name" X.env (eval e X.env)=eval e X.env:=by rfl):EV X (.Attribute e "name" pos) Γ af s.name Γ1:=gu hC (fX (by decide)) he (λK R v ⟨x,dx,vs,e,h1,h2⟩=>by obtain ⟨u,q1,q2⟩:=h2.get (f:="name") rfl;exact ⟨x,dx,vs,u,e,h1,q1,q2⟩) hb
theorem D4 (hC:bh X.K C fg)(he:EV X e Γ (aO C) s Γ1)(hb:attributeBase e "word" X.env (eval e X.env)=eval e X.env:=by rfl):EV X (.Attribute e "word" pos) Γ ab s.word Γ1:=gu hC (fX (by decide)) he (λK R v ⟨x,dx,vs,e,h1,h2⟩=>by obtain ⟨u,q1,q2⟩:=h2.get (f:="word") rfl;exact ⟨x,dx,vs,u,e,h1,q1,q2⟩) hb
theorem kP (hC:bh X.K C fg)(he:EV X e Γ (aO C) s Γ1)(hb:attributeBase e "within" X.env (eval e X.env)=eval e X.env:=by rfl):EV X (.Attribute e "within" pos) Γ ab s.within Γ1:=gu hC (fX (by decide)) he (λK R v ⟨x,dx,vs,e,h1,h2⟩=>by obtain ⟨u,q1,q2⟩:=h2.get (f:="within") rfl;exact ⟨x,dx,vs,u,e,h1,q1,q2⟩) hb
end
section
variable {P:Program}{w:World}{K:PySem.W.Frag}{mg:Str->Option Value}{base:Heap}{f:Addr}{fd:FuncData}
abbrev mQ:Stmt:=match top y8 with
 | .ClassDef _ _ _ b _ _ _ _ _ _ _=>b.getD 0 (.Pass ⟨0,0,0,0⟩)
 | s=>s
abbrev pd:List Str:=["self","kind","name","word","within"]
theorem Bn:aE pd pd (ag mQ):=⟨rfl,rfl,rfl,by decide +kernel,rfl,by decide +kernel,by decide +kernel⟩
def ER (C0:Addr):uR:=λK C ps Pd=>C=C0/\∃s:ay,ps=[⟨af,s.kind⟩,⟨af,s.name⟩,⟨ab,s.word⟩,⟨ab,s.within⟩]/\Pd=λfs=>fs=Et s
theorem DZ {C0:Addr}(HC:bh K C0 fg)(F:bw K "__init__" "Step.__init__" mQ f fd):cV P w K mg base dI 1 f fd pd (qZ (ER C0) K):=by
 have nd:=Bn.nd
 refine tK F Bn (λC qs Pd ⟨_,m,e,_⟩=>by rw [e];rfl) (λcdv A outer st H E C x dx qs Pd hr hS=>?_)
 obtain ⟨rfl,s,rfl,rfl⟩:=hS
 change WS _ _ [.ob ((eD C).bx [x,dx] []),.im af s.kind,.im af s.name,.im ab s.word,.im ab s.within] _ _
 refine aj (eO 0 HC (fX (by decide)) (aa 1 rfl) rfl rfl (by show 0 < 1000;decide) ?_)
 refine aj (eO 0 HC (fX (by decide)) (aa 2 rfl) rfl rfl (by show 1 < 1000;decide) ?_)
 refine aj (eO 0 HC (fX (by decide)) (aa 3 rfl) rfl rfl (by show 2 < 1000;decide) ?_)
 exact ai (eO 0 HC (fX (by decide)) (aa 4 rfl) rfl rfl (by show 3 < 1000;decide) ⟨_,rfl,rfl⟩)
abbrev uo:Stmt:=top rS
theorem zB:aE ["word"] ["word"] (ag uo):=⟨rfl,rfl,rfl,by decide +kernel,rfl,by decide +kernel,by decide +kernel⟩
def EG:cX:=λK ps T=>∃x:Str,ps=[⟨af,x⟩]/\bK x/\T=cF K cx (· =true)
theorem AQ {x:Str}(h:bK x){c:Str}(hc:c∈eE x):∃n,c=⟨#[n]⟩/\97<=n/\n<=122:=by
 unfold eE at hc
 obtain ⟨i,hi,rfl⟩:=List.mem_map.mp hc
 have hi:i < x.cps.size:=by simpa using hi
 refine ⟨x.cps.getD i 0,rfl,h.az _ ?_⟩
 rw [Array.getD_eq_getD_getElem?]
 simp [hi]
theorem Dz {n:Nat}(h:97<=n/\n<=122):(!decide ((⟨#[n]⟩:Str).cps.toList < ("a":Str).cps.toList))=true/\(!decide (("z":Str).cps.toList < (⟨#[n]⟩:Str).cps.toList))=true:=by
 have ea:("a":Str).cps.toList=[97]:=by decide +kernel
 have ez:("z":Str).cps.toList=[122]:=by decide +kernel
 rw [ea,ez]
 have e1:¬([n]:List Nat) < [97]:=by intro z;cases z with
  | rel h1=>omega
  | cons h1=>cases h1
 have e2:¬([122]:List Nat) < [n]:=by intro z;cases z with
  | rel h1=>omega
  | cons h1=>cases h1
 exact ⟨by rw [show (⟨#[n]⟩:Str).cps.toList=[n] from rfl,decide_eq_false e1];rfl,by rw [show (⟨#[n]⟩:Str).cps.toList=[n] from rfl,decide_eq_false e2];rfl⟩
theorem CK (M:cv K mg)(M2:g6 K mg)(F:bw K "is_name" "is_name" uo f fd)(hm:mg "is_name"=some (.ref f))(hb:Binds K fd ["word"] []):aG P w K mg base "is_name" 1 (aP EG K):=by
 have nd:=zB.nd
 have ndc:List.Nodup [("sign":Str)]:=by decide
 refine bu F zB hm hb (λqs T ⟨_,e,_⟩=>by rw [e];rfl) (λcdv A outer s H E qs T hr hS=>?_)
 obtain ⟨x,rfl,hx,rfl⟩:=hS
 obtain ⟨t,hmo⟩:=M2.most
 change WS _ _ [.im af x] _ _
 have hl:x.cps.size<=sizeLine:=Nat.le_trans hx.l8 (by decide)
 have hasc:x.cps.all (· < 128)=true:=by
  rw [Array.all_eq_true]
  intro i hi
  have:=hx.az x.cps[i] (by simp)
  exact decide_eq_true (by omega)
 have l1:=hx.l1
 have l8:=hx.l8
 refine ai (aW (AH (oW Aa Aa ev_int (x6 M.len (aa 0 rfl) hl) (iu hmo)) (λ_=>A0 (Ak M.all (aV.im (cE (own:=["sign"]) (fr:=[]) (ix:=[]) (ra:=af) (rb:=cx) (p:=λ_=>true) (f:=λ_=>true) (cu (so:=ag uo) (N0:=["word"]) rfl rfl (λx h=>bG h) (by decide +kernel)) (t8 (aa 0 rfl) hasc hl)
  (λC s H ex=>bg 0) (λx=>⟨.inr rfl,trivial⟩) (λC s H ex c hc=>fM) (λC s H ex c hc _=>?_)))))) ?_)
 ·obtain ⟨n,rfl,hn⟩:=AQ hx hc
  obtain ⟨q1,q2⟩:=Dz hn
  exact EV.cast (oW xF xF ar (aa 0 rfl) ar) (by rw [q1,q2];rfl)
 ·have e1:decide ((1:Int)<=(x.length:Int))=true:=decide_eq_true (by omega)
  have e2:decide ((x.length:Int)<=8)=true:=decide_eq_true (by omega)
  rw [e1,e2]
  simp
abbrev xQ:Stmt:=top lQ
theorem A6:aE ["words","word"] ["words","word"] (ag xQ):=⟨rfl,rfl,rfl,by decide +kernel,rfl,by decide +kernel,by decide +kernel⟩
def Ey:cX:=λK ps T=>∃(ws:List Str) (i:Nat),ps=[⟨ae af,ws⟩,⟨ab,(i:Int)⟩]/\i + 1 < ws.length/\bK (ws.getD (i + 1) "")/\T=cF K af (· =ws.getD (i + 1) "")
theorem D3 (M:cv K mg)(CI:aG P w K mg base "is_name" 1 (aP EG K))(F:bw K "name_behind" "name_behind" xQ f fd)(hm:mg "name_behind"=some (.ref f))(hb:Binds K fd ["words","word"] []):aG P w K mg base "name_behind" 2 (aP Ey K):=by
 have nd:=A6.nd
 refine bu F A6 hm hb (λqs T ⟨_,_,e,_⟩=>by rw [e];rfl) (λcdv A outer s H E qs T hr hS=>?_)
 obtain ⟨ws,i,rfl,hi,hn,rfl⟩:=hS
 change WS _ _ [.im (ae af) ws,.im ab (i:Int)] _ _
 have hat:cb ws ((i:Int) + 1)=some (ws.getD (i + 1) ""):=aY (xs:=ws) (i:=((i:Int) + 1)) "" (by omega) (by omega)
 refine aj (bq (TW.tv (wX (aA iY (bX (aa 1 rfl) ev_int) (gX M.len (aa 0 rfl))) (λ_=>tX (jz (gz (aI CI hr (ah (ba (aa 0 rfl) (bX (aa 1 rfl) ev_int) hat) ax) ⟨_,rfl,hn,rfl⟩)))))) (λh=>?_) (λh=>aT ?_))
 ·rw [decide_eq_false (show¬(i:Int) + 1=(ws.length:Int) by omega)] at h
  cases h
 ·exact ai (aW (ba (aa 0 rfl) (bX (aa 1 rfl) ev_int) hat) rfl)
abbrev w9:Stmt:=top oE
theorem BH:aE ["kind","opened"] ["kind","opened"] (ag w9):=⟨rfl,rfl,rfl,by decide +kernel,rfl,by decide +kernel,by decide +kernel⟩
def Ek:cX:=λK ps T=>∃(k:Str) (ks:List Str),ps=[⟨af,k⟩,⟨ae af,ks⟩]/\T=cF K cx (· =dG k ks)
theorem pW {ks:List Str}(h:ks≠[]):cb ks (-1)=some (ks.getLast?.getD ""):=by
 obtain ⟨l,x,rfl⟩:∃l x,ks=l++[x]:=⟨ks.dropLast,ks.getLast h,(List.dropLast_concat_getLast h).symm⟩
 unfold cb
 rw [show eJ (l++[x]).length (-1)=some l.length by unfold eJ;simp;omega]
 simp
theorem DL (M2:g6 K mg)(F:bw K "may_stand" "may_stand" w9 f fd)(hm:mg "may_stand"=some (.ref f))(hb:Binds K fd ["kind","opened"] []):aG P w K mg base "may_stand" 1 (aP Ek K):=by
 have nd:=BH.nd
 refine bu F BH hm hb (λqs T ⟨_,_,e,_⟩=>by rw [e];rfl) (λcdv A outer s H E qs T hr hS=>?_)
 obtain ⟨k,ks,rfl,rfl⟩:=hS
 change WS _ _ [.im af k,.im (ae af) ks] _ _
 refine aj (bq (jz (nZ (aa 1 rfl))) (λh=>?_) (λh=>aT ?_))
 ·have h:ks.isEmpty=true:=by simpa using h
  exact ai (aW (iy bS (aa 0 rfl) ar) (by unfold dG;rw [if_pos h]))
 have h0:¬ks.isEmpty=true:=by simpa using h
 have hne:ks≠[]:=λz=>h0 (by rw [z];rfl)
 refine aj (bq (aA bS (aa 0 rfl) ar) (λh=>?_) (λh=>aT ?_))
 ·have h:k="leave":=of_decide_eq_true h
  exact ai (aW (iy nR ar (aa 1 rfl)) (by unfold dG;rw [if_neg h0,if_pos h]))
 have h1:¬k="leave":=of_decide_eq_false h
 refine aj (bq (aA bS (aa 0 rfl) ar) (λh=>?_) (λh=>aT ?_))
 ·have h:k="else":=of_decide_eq_true h
  exact ai (aW (iy bS (ba (aa 1 rfl) (jy ev_int) (pW hne)) ar) (by unfold dG;rw [if_neg h0,if_neg h1,if_pos h]))
 have h2:¬k="else":=of_decide_eq_false h
 refine aj (bq (aA bS (aa 0 rfl) ar) (λh=>?_) (λh=>aT ?_))
 ·have h:k="end":=of_decide_eq_true h
  exact ai (aW (iy xj (ba (aa 1 rfl) (jy ev_int) (pW hne)) ar) (by unfold dG;rw [if_neg h0,if_neg h1,if_neg h2,if_pos h]))
 have h3:¬k="end":=of_decide_eq_false h
 exact ai (aW (iy hW (aa 0 rfl) (eB M2.sents)) (by unfold dG;rw [if_neg h0,if_neg h1,if_neg h2,if_neg h3]))
end
theorem pE (ws:List Str):∀i,(itG (gg ws) i ⟨[],[],0⟩).S.length=i/\i<=(itG (gg ws) i ⟨[],[],0⟩).w/\(itG (gg ws) i ⟨[],[],0⟩).O.length<=i
 | 0=>⟨rfl,Nat.le_refl _,Nat.le_refl _⟩
 | i + 1=>by
   obtain ⟨a,b,c⟩:=pE ws i
   rw [itG]
   generalize itG (gg ws) i ⟨[],[],0⟩=x at a b c
   unfold gg nxF
   refine ⟨by rw [List.length_append,a];rfl,?_,?_⟩
   ·dsimp only
    split<;>omega
   ·rw [List.length_append]
    have h1:(if p8 ws x∈closg then x.O.dropLast else x.O).length<=x.O.length:=by
     split
     ·rw [List.length_dropLast];omega
     ·exact Nat.le_refl _
    have h2:(if p8 ws x∈openg then [(x.S.length:Int)] else []).length<=1:=by split<;>simp
    omega
theorem vW {O:List Int}(h:O≠[]):cb O (-1)=some (O.getLast?.getD (-1)):=by
 obtain ⟨l,x,rfl⟩:∃l x,O=l++[x]:=⟨O.dropLast,O.getLast h,(List.dropLast_concat_getLast h).symm⟩
 unfold cb
 rw [show eJ (l++[x]).length (-1)=some l.length by unfold eJ;simp;omega]
 simp
theorem vE {O:List Int}(h:O≠[]):O[O.length - 1]?=some (O.getLast?.getD (-1)):=by
 obtain ⟨l,x,rfl⟩:∃l x,O=l++[x]:=⟨O.dropLast,O.getLast h,(List.dropLast_concat_getLast h).symm⟩
 simp
section
variable {P:Program}{w:World}{K:PySem.W.Frag}{mg:Str->Option Value}{base:Heap}{f:Addr}{fd:FuncData}
structure rm (P:Program) (w:World) (K:PySem.W.Frag) (mg:Str->Option Value) (base:Heap) (C:Addr):Prop where
 cl:bh K C fg
 ex:∃fi fdi,Mk K C fi/\cV P w K mg base dI 1 fi fdi pd (qZ (ER C) K)/\Binds K fdi pd []
 mg:mg "Step"=some (.ref C)
theorem yT {X:Cx}{Γ Γ1:Ga}{C:Addr}{e:Expr}{es:List Expr}{p pos:Pos}{s:ay}(G:rm X.prog X.w X.K X.mg X.base C)(hr:bA 2 X.A)(ha:HA X (e::es) Γ [⟨af,s.kind⟩,⟨af,s.name⟩,⟨ab,s.word⟩,⟨ab,s.within⟩] Γ1)
 (hg:Gl X "Step":=by rfl) (he:starEach (e::es) X.env=(false,eval e X.env)::starEach es X.env:=by rfl) (hpl:(backTo pos (starEach es X.env)).any (·.1)=false:=by rfl):EV X (.Call (.Name "Step" p) (e::es) [] pos) Γ (aO C) s Γ1:=by
 obtain ⟨fi,fdi,MK,SI,bi⟩:=G.ex
 exact qD MK SI hr G.mg bi ha ⟨rfl,s,rfl,rfl⟩ (λfs R x dx vs hP h1 h2=>by subst hP;exact ⟨x,dx,vs,rfl,h2,h1⟩) hg (by decide) he hpl
abbrev uH:Stmt:=top yy
abbrev EE:List Str:=["text","words","steps","opened","word","kind","name"]
theorem zQ:aE EE ["text"] (ag uH):=⟨rfl,rfl,rfl,by decide +kernel,rfl,by decide +kernel,by decide +kernel⟩
def Eu (C:Addr):cX:=λK ps T=>∃(ws:List Str) (n:Nat) (S:List ay),ps=[⟨af,Str.join " " ws⟩]/\ws≠[]/\ws.length<=240/\(∀w∈ws,dZ w)/\eo ws n ⟨[],[],0⟩ ⟨S,[],ws.length⟩/\T=cF K (ae (aO C)) (· =S)
theorem vX {ws:List Str}(h:∀w∈ws,dZ w)(hl:ws.length<=240):(Str.join " " ws).length<=sizeLine:=by
 have:=joinOk_length (qr hl h)
 rwa [qV] at this
theorem DM {C:Addr}(M:cv K mg)(M2:g6 K mg)(G:rm P w K mg base C)(CM:aG P w K mg base "may_stand" 1 (aP Ek K))(CN:aG P w K mg base "name_behind" 2 (aP Ey K))(F:bw K "read" "read" uH f fd)(hm:mg "read"=some (.ref f))(hb:Binds K fd ["text"] []):aG P w K mg base "read" 3 (aP (Eu C) K):=by
 have nd:=zQ.nd
 have ndc:List.Nodup [("number":Str),"steps"]:=by decide
 have CM:=CM.mono (show 1<=2 by decide)
 refine bu (k:=2) F zQ hm hb (λqs T ⟨_,_,_,e,_⟩=>by rw [e];rfl) (λcdv A outer s H E qs T hr hS=>?_)
 obtain ⟨ws,n,S,rfl,hne,hl,hw,hsim,rfl⟩:=hS
 obtain ⟨t,hno⟩:=M2.nost
 have hsp:Txt.split (Str.join " " ws) " "=ws:=by
  rw [wk]
  exact rQ hne λw h=>(hw w h).f
 change WS _ _ [.im af (Str.join " " ws),.no,.no,.no,.no,.no,.no] _ _
 generalize hj:Str.join " " ws=txt at hsp
 have htl:txt.length<=sizeLine:=by rw [← hj];exact vX hw hl
 refine aj (aZ 1 (y:=ws) (EV.cast (aV.im (tH (aa 0 rfl) ar (by decide +kernel) htl (by rw [hsp];exact aK (by omega)))) hsp) ?_)
 refine aj (cQ 2 (r:=aO C) (ys:=[]) (aL aN (Nat.zero_le _)) ?_)
 refine aj (cQ 3 (r:=ab) (ys:=[]) (aL aN (Nat.zero_le _)) ?_)
 refine aj (aZ 4 (y:=(0:Int)) ev_int ?_)
 change WS _ _ [.im af txt,.im (ae af) ws,.mu (aO C) [],.mu ab [],.im ab 0,.no,.no] _ _
 have hinv:=pE ws
 have hstep:∀i,itG (gg ws) (i + 1) ⟨[],[],0⟩=gg ws (itG (gg ws) i ⟨[],[],0⟩):=λi=>rfl
 have h0:itG (gg ws) 0 ⟨[],[],0⟩=⟨[],[],0⟩:=rfl
 obtain ⟨hend,hrd⟩:=hsim
 generalize hx:(λi=>itG (gg ws) i ⟨[],[],0⟩)=x at *
 have hxi:∀i,itG (gg ws) i ⟨[],[],0⟩=x i:=λi=>by rw [← hx]
 simp only [hxi] at hinv hstep h0 hend hrd
 refine bL (N1:=λΓ=>∃e5 e6,Γ=[.im af txt,.im (ae af) ws,.mu (aO C) S,.mu ab [],.im ab (ws.length:Int),e5,e6]) (mn (λk Γ=>∃i,k + i=n/\∃e5 e6,Γ=[.im af txt,.im (ae af) ws,.mu (aO C) (x i).S,.mu ab (x i).O,.im ab ((x i).w:Int),e5,e6]) (m0:=n) ⟨0,rfl,_,_,by rw [h0];rfl⟩ (λk Γ hI=>?_)) ?_
 ·obtain ⟨i,hki,e5,e6,rfl⟩:=hI
  obtain ⟨iS,iw,iO⟩:=hinv i
  refine ⟨decide (((x i).w:Int) < (ws.length:Int)),_,aA jK (aa 4 rfl) (gX M.len (aa 1 rfl)),λh=>?_,λh=>?_⟩
  ·have h:((x i).w:Int) < (ws.length:Int):=of_decide_eq_true h
   have hin:i < n:=by
    rcases Nat.lt_or_ge i n with z | z
    ·exact z
    ·exfalso
     have:i=n:=by omega
     rw [this,hend] at h
     exact absurd h (Int.lt_irrefl _)
   obtain ⟨rw_,rmay,rnm,ro⟩:=hrd i hin
   have hs:=hstep i
   generalize x i=y at iS iw iO rw_ rmay rnm ro hs h
   obtain ⟨Sy,Oy,wy⟩:=y
   dsimp only at iS iw iO rw_ rmay rnm ro h ⊢
   have hat:cb ws (wy:Int)=some (ws.getD wy ""):=aY (xs:=ws) (i:=(wy:Int)) "" (by omega) h
   refine aj (aZ 5 (y:=ws.getD wy "") (ba (aa 1 rfl) (aa 4 rfl) hat) ?_)
   rw [show gg ws ⟨Sy,Oy,wy⟩=nxF (ws.getD wy "") (ws.getD (wy + 1) "") ⟨Sy,Oy,wy⟩ from rfl] at hs
   change dG (ws.getD wy "") (Oy.map (aH Sy))=true at rmay
   change ws.getD wy ""∈named->wy + 1 < ws.length/\bK (ws.getD (wy + 1) "") at rnm
   generalize hkd:ws.getD wy ""=kd at rmay rnm hs
   change WS _ _ [.im af txt,.im (ae af) ws,.mu (aO C) Sy,.mu ab Oy,.im ab (wy:Int),.im af kd,e6] _ _
   have cc:(Oy.filter λ_=>true).map (aH Sy)=Oy.map (aH Sy):=by rw [List.filter_eq_self.mpr λ_ _=>rfl]
   refine aj (bq (TV.frz (zw (i:=2) (j:=3) (by decide) rfl rfl (aK (by omega)) (aK (by omega))) (jz (gz (aI CM hr (ah (aa 5 rfl) (ah (aV.im (cE (own:=["number"]) (fr:=["steps"]) (ix:=[2]) (ra:=ab) (rb:=af) (p:=λ_=>true) (f:=aH Sy) (cu (so:=ag uH) (N0:=EE) rfl rfl (λx h=>bG h) (by decide +kernel)) (cM (aa 3 rfl))
    (λC s H ex=>bg 0) (λx=>⟨.inr rfl,.inl rfl,trivial⟩) (λC s H ex c hc=>fM) (λC' s H ex o ho _=>eA (C:=C) G.cl (ba (aa 1 rfl) (aa 0 rfl) (aY (xs:=Sy) (i:=o) c6 (ro o ho).1 (ro o ho).2))))) ax)) ⟨kd,Oy.map (aH Sy),by rw [cc],rfl⟩)))) (λhh=>?_) (λ_=>aT ?_))
   ·rw [rmay] at hh;cases hh
   have hnm:kd∈named->wy + 1 < ws.length/\bK (ws.getD (wy + 1) ""):=rnm
   refine aj (aZ 6 (y:=if kd∈named then ws.getD (wy + 1) "" else "") (EV.cast (i7 (aA hW (aa 5 rfl) (eB M2.named)) (λhh=>aI CN hr (ah (aa 1 rfl) (ah (aa 4 rfl) ax)) ⟨ws,wy,rfl,(hnm (of_decide_eq_true hh)).1,(hnm (of_decide_eq_true hh)).2,rfl⟩) (λ_=>ar)) (by by_cases z:kd∈named<;>simp [z])) ?_)
   generalize hnam:(if kd∈named then ws.getD (wy + 1) "" else "")=nam
   change WS _ _ [.im af txt,.im (ae af) ws,.mu (aO C) Sy,.mu ab Oy,.im ab (wy:Int),.im af kd,.im af nam] _ _
   have hlast:(if (!Oy.isEmpty)=true then Oy.getLast?.getD (-1) else -1)=Oy.getLast?.getD (-1):=by cases Oy<;>rfl
   refine aj (ft 2 (y:=(⟨kd,nam,(wy:Int),Oy.getLast?.getD (-1)⟩:ay)) (yT (s:=⟨kd,nam,(wy:Int),Oy.getLast?.getD (-1)⟩) G hr (ah (aa 5 rfl) (ah (aa 6 rfl) (ah (aa 4 rfl) (ah (EV.cast (i7 (oi 3 rfl) (λhh=>va 3 (jy ev_int) rfl rfl (vW (λz=>by rw [z] at hh;cases hh))) (λ_=>iu hno)) hlast) ax))))) rfl rfl (Nat.lt_of_le_of_lt (show _<=1000 by omega) (by decide)) ?_)
   change WS _ _ [.im af txt,.im (ae af) ws,.mu (aO C) (Sy++[⟨kd,nam,(wy:Int),Oy.getLast?.getD (-1)⟩]),.mu ab Oy,.im ab (wy:Int),.im af kd,.im af nam] _ _
   have hS':(nxF kd (ws.getD (wy + 1) "") ⟨Sy,Oy,wy⟩).S=Sy++[⟨kd,nam,(wy:Int),Oy.getLast?.getD (-1)⟩]:=by unfold nxF kz;dsimp only;rw [hnam]
   rw [← hS']
   have hSl:(nxF kd (ws.getD (wy + 1) "") ⟨Sy,Oy,wy⟩).S.length=Sy.length + 1:=by rw [hS',List.length_append];rfl
   have hOe:(nxF kd (ws.getD (wy + 1) "") ⟨Sy,Oy,wy⟩).O=(if kd∈closg then Oy.dropLast else Oy)++(if kd∈openg then [(Sy.length:Int)] else []):=rfl
   have hwe:(nxF kd (ws.getD (wy + 1) "") ⟨Sy,Oy,wy⟩).w=wy + (if kd∈named then 2 else 1):=rfl
   generalize nxF kd (ws.getD (wy + 1) "") ⟨Sy,Oy,wy⟩=z at hs hS' hSl hOe hwe
   refine bL (N1:=λΓ=>Γ=[.im af txt,.im (ae af) ws,.mu (aO C) z.S,.mu ab (if kd∈closg then Oy.dropLast else Oy),.im ab (wy:Int),.im af kd,.im af nam]) (bq (aA hW (aa 5 rfl) (eB M2.closg)) (λhh=>?_) (λhh=>aT ?_)) ?_
   ·have hh:kd∈closg:=of_decide_eq_true hh
    have hOne:Oy≠[]:=λe=>by
     rw [e] at rmay
     have:kd="part":=of_decide_eq_true rmay
     rw [this] at hh
     exact absurd hh (by decide +kernel)
    refine ai (uc (uC 3 rfl (vE hOne)) ?_)
    rw [if_pos hh];rfl
   ·have hh:¬kd∈closg:=of_decide_eq_false hh
    rw [if_neg hh]
   rintro _ rfl
   have hOl:(if kd∈closg then Oy.dropLast else Oy).length<=Oy.length:=by
    split
    ·rw [List.length_dropLast];omega
    ·exact Nat.le_refl _
   generalize (if kd∈closg then Oy.dropLast else Oy)=O1 at hOe hOl
   refine bL (N1:=λΓ=>Γ=[.im af txt,.im (ae af) ws,.mu (aO C) z.S,.mu ab z.O,.im ab (wy:Int),.im af kd,.im af nam]) (bq (aA hW (aa 5 rfl) (eB M2.openg)) (λhh=>?_) (λhh=>aT ?_)) ?_
   ·have hh:kd∈openg:=of_decide_eq_true hh
    refine ai (ft 3 (EV.cast (y':=(Sy.length:Int)) (fY (qo 2 M.len rfl) ev_int) (by omega)) rfl rfl (Nat.lt_of_le_of_lt (show _<=1000 by omega) (by decide)) ?_)
    rw [hOe,if_pos hh];rfl
   ·have hh:¬kd∈openg:=of_decide_eq_false hh
    rw [hOe,if_neg hh,List.append_nil]
   rintro _ rfl
   refine ai (zU 4 (c:=if kd∈named then 2 else 1) (EV.cast (i7 (aA hW (aa 5 rfl) (eB M2.named)) (λ_=>ev_int) (λ_=>ev_int)) (by by_cases z:kd∈named<;>simp [z])) rfl ⟨k - 1,by omega,i + 1,by omega,.im af kd,.im af nam,?_⟩)
   rw [hs,hwe]
   by_cases q:kd∈named
   ·rw [if_pos q,if_pos q];rfl
   ·rw [if_neg q,if_neg q];rfl
  ·have h:¬((x i).w:Int) < (ws.length:Int):=of_decide_eq_false h
   have hin:i=n:=by
    rcases Nat.lt_or_ge i n with z | z
    ·exact absurd (by have:=(hrd i z).w;omega) h
    ·omega
   subst hin
   refine ⟨e5,e6,?_⟩
   rw [hend]
 rintro _ ⟨e5,e6,rfl⟩
 have hSn:S.length<=240:=by
  obtain ⟨a,b,c⟩:=hinv n
  rw [hend] at a b
  dsimp only at a b
  omega
 refine aj (bq (oi 3 rfl) (λhh=>by cases hh) (λ_=>aT ?_))
 refine WS.freeze 2 rfl (aK (by omega)) ?_
 exact ai (aW (aa 2 rfl) rfl)
end
end K1
namespace Fc
open PySem PySem.Spec L2
open PyProof.Rows hiding St
section
variable {X:Cx}{Γ Γ1 Γ2 Γ3:Ga}{α β γ δ:Type}{N:Ga->Prop}{T:RT}
theorem lV (i:Nat){x:Str}{p1 p2 pos:Pos}(h:N (Γ.set i (.di [])))
 (hN:X.N.Nodup:=by first | assumption | decide) (hi:X.N[i]?=some x:=by rfl) (hx:Loc X.env.scope x:=by first | exact Or.inl rfl | exact Or.inr rfl)
 (hs:swapsWith (.Dict [] [] p2) (some (.Name x p1)) pos.line X.env=pure false:=by rfl) (hf:X.fn x=true∨X.env.scope.names.lookup x=some .local:=by first | exact .inl rfl | exact .inr rfl):
 W1 X (.Assign [.Name x p1] (.Dict [] [] p2) pos) Γ N T:=λσ H0 R0 H R E D dn dr=>by
 refine sS (iL hN hi hx wx hs hf) λp hp=>?_
 have E1:=E.grow (Ext.dy E.sub hp (.dK (bH [])))
 exact dn _ _ R _ (E1.sr (u:=.dK (bH [])) (en:=.di []) i ⟨p,rfl,av,E.sub.free hp⟩ (E.ext.h.free hp) λj e _ q w=>E.off hp j e q w) (ak.refl _) h
theorem nI {R:Hp}:∀{xs:List Str} {vs:List V},dF R vs (xs.map PV.str)->vs=xs.map V.str
 | [],_,.nil=>rfl
 | x::xs,_,.cons h t=>by cases h;rw [nI t];rfl
theorem p7 {es:List Expr}{k:Nat}{pos:Pos}{xs:List Str}(h:EA X es Γ au (xs.map PV.str) Γ1)(hz:xs.length<=sizeLine):EV X (.Tuple es k pos) Γ oU xs Γ1:=
 EV.re (mm h (by rw [List.length_map];exact hz)) λK R v e=>by
   cases e with
   | tup hp pp=>rw [nI pp] at hp;exact ⟨_,rfl,cW.of hp⟩
end
end Fc
namespace K1
open PySem L2 Fc
open PySem.Spec hiding Row
open PyProof.Rows hiding St
theorem ru {A:Around}{k:Nat}(hr:bA k A):A.units + 1 < cLine:=by have:=hr.units;omega
def d8 (F:List (Int×Int))(z:Int×ay):List (Int×Int):=if z.2.kind∈closg then i9 F z.2.within z.1 else F
def cR (S:List ay):List (Int×Int):=(nums S).foldl d8 []
theorem vA {F:List (Int×Int)}{z:Int×ay}:(d8 F z).length<=F.length + 1:=by
 unfold d8
 split
 ·exact wg _ _ _
 ·omega
theorem BX (S:List ay)(i:Nat):(((nums S).take i).foldl d8 []).length<=i:=by
 induction i with
 | zero=>exact Nat.le_refl _
 | succ i ih=>
   rw [List.take_succ,List.foldl_append]
   cases e:(nums S)[i]? with
   | none=>exact Nat.le_succ_of_le ih
   | some z=>
     show (d8 _ z).length<=_
     exact Nat.le_trans vA (by omega)
abbrev bF (S:List ay)(o:Int):Int:=(S.getD o.toNat c6).within
def Ar (S:List ay)(n:Int)(kd:Str)(a:Int):Prop:=∃k:Nat,itG (bF S) k (bF S n)=a/\(∀j,j<=k->0<=itG (bF S) j (bF S n)/\itG (bF S) j (bF S n) < (S.length:Int))/\(∀j,j < k->aH S (itG (bF S) j (bF S n))≠kd)/\aH S a=kd
inductive c8 (S:List ay) (F:List (Int×Int)) (n:Int):List Int->Prop
 | row {c:Int} (h:aH S n="if"∨aH S n="while") (hc:bC F n=some c):c8 S F n [n + 1,c + 1]
 | els {c:Int} (h:aH S n="else") (hc:bC F n=some c):c8 S F n [c]
 | lev {a c:Int} (h:aH S n="leave") (ha:Ar S n "while" a) (hc:bC F a=some c):c8 S F n [c + 1]
 | bck {a c:Int} (h:aH S n="back") (ha:Ar S n "part" a) (hc:bC F a=some c):c8 S F n [c]
 | enw (h:aH S n="end") (h0:0<=bF S n) (h1:bF S n < (S.length:Int)) (hk:aH S (bF S n)="while"):c8 S F n [bF S n]
 | enp (h:aH S n="end") (h0:0<=bF S n) (h1:bF S n < (S.length:Int)) (hk:aH S (bF S n)="part"):c8 S F n []
 | ene (h:aH S n="end") (h0:0<=bF S n) (h1:bF S n < (S.length:Int)) (hk:aH S (bF S n)="else"):c8 S F n [n + 1]
 | oth (h:aH S n="part"∨aH S n="do"∨aH S n="call"):c8 S F n [n + 1]
section
variable {P:Program}{w:World}{K:PySem.W.Frag}{mg:Str->Option Value}{base:Heap}{f:Addr}{fd:FuncData}{C:Addr}
abbrev wY:Stmt:=top kG
abbrev nCS:List Str:=["steps","closing","number","step"]
theorem zM:aE nCS ["steps"] (ag wY):=⟨rfl,rfl,rfl,by decide +kernel,rfl,by decide +kernel,by decide +kernel⟩
def Cn (C:Addr):cX:=λK ps T=>∃S:List ay,ps=[⟨ae (aO C),S⟩]/\S.length<=1000/\T=cF K jn (· =cR S)
theorem DF (M:cv K mg)(M2:g6 K mg)(HC:bh K C fg)(F:bw K "closing_steps" "closing_steps" wY f fd)(hm:mg "closing_steps"=some (.ref f))(hb:Binds K fd ["steps"] []):aG P w K mg base "closing_steps" 1 (aP (Cn C) K):=by
 have nd:=zM.nd
 refine bu F zM hm hb (λqs T ⟨_,e,_⟩=>by rw [e];rfl) (λcdv A outer s H E qs T hr hS=>?_)
 obtain ⟨S,rfl,hl,rfl⟩:=hS
 change WS _ _ [.im (ae (aO C)) S,.no,.no,.no] _ _
 refine aj (lV 1 ?_)
 refine bL (N1:=λΓ=>∃e2 e3,Γ=[.im (ae (aO C)) S,.di (bW (cR S)),e2,e3]) (cj (λi Γ=>∃e2 e3,Γ=[.im (ae (aO C)) S,.di (bW (((nums S).take i).foldl d8 [])),e2,e3]) (gA M.enumerate (aa 0 rfl)) (eK 2 3) ⟨_,_,rfl⟩ (λi z Γ hz hΓ=>?_) (λΓ hΓ=>?_)) ?_
 ·obtain ⟨e2,e3,rfl⟩:=hΓ
  obtain ⟨n,st⟩:=z
  have fl:=BX S i
  have il:i < S.length:=by have:=(List.getElem?_eq_some_iff.mp hz).1;rwa [cI] at this
  have hnx:((nums S).take (i + 1)).foldl d8 []=d8 (((nums S).take i).foldl d8 []) (n,st):=by rw [List.take_succ,hz,List.foldl_append];rfl
  rw [hnx]
  generalize ((nums S).take i).foldl d8 []=Fd at fl
  change WS _ _ [.im (ae (aO C)) S,.di (bW Fd),.im ab n,.im (aO C) st] _ _
  refine ai (bq (aA hW (eA (C:=C) HC (aa 3 rfl)) (eB M2.closg)) (λh=>?_) (λh=>aT ⟨.im ab n,.im (aO C) st,?_⟩))
  ·have h:st.kind∈closg:=of_decide_eq_true h
   refine ai (Cb 1 (ru hr) (kP (C:=C) HC (aa 3 rfl)) (aa 2 rfl) rfl (Nat.lt_of_le_of_lt (show _<=1000 by omega) (by decide)) ⟨.im ab n,.im (aO C) st,?_⟩)
   unfold d8;rw [if_pos h];rfl
  ·have h:¬st.kind∈closg:=of_decide_eq_false h
   unfold d8;rw [if_neg h]
 ·obtain ⟨e2,e3,rfl⟩:=hΓ
  refine ⟨e2,e3,?_⟩
  rw [List.take_length];rfl
 rintro _ ⟨e2,e3,rfl⟩
 exact ai (pZ 1 rfl rfl)
abbrev xN:Stmt:=top tq
abbrev nAR:List Str:=["steps","number","kind","found"]
theorem AO:aE nAR ["steps","number","kind"] (ag xN):=⟨rfl,rfl,rfl,by decide +kernel,rfl,by decide +kernel,by decide +kernel⟩
def En (C:Addr):cX:=λK ps T=>∃(S:List ay) (n a:Int) (kd:Str),ps=[⟨ae (aO C),S⟩,⟨ab,n⟩,⟨af,kd⟩]/\0<=n/\n < (S.length:Int)/\Ar S n kd a/\T=cF K ab (· =a)
theorem DQ (HC:bh K C fg)(F:bw K "around" "around" xN f fd)(hm:mg "around"=some (.ref f))(hb:Binds K fd ["steps","number","kind"] []):aG P w K mg base "around" 1 (aP (En C) K):=by
 have nd:=AO.nd
 refine bu F AO hm hb (λqs T ⟨_,_,_,_,e,_⟩=>by rw [e];rfl) (λcdv A outer s H E qs T hr hS=>?_)
 obtain ⟨S,n,a,kd,rfl,n0,n1,⟨k,ha,hin,hne,hk⟩,rfl⟩:=hS
 change WS _ _ [.im (ae (aO C)) S,.im ab n,.im af kd,.no] _ _
 refine aj (aZ 3 (y:=bF S n) (kP (C:=C) HC (ba (aa 0 rfl) (aa 1 rfl) (aY (xs:=S) (i:=n) c6 n0 n1))) ?_)
 refine bL (N1:=λΓ=>Γ=[.im (ae (aO C)) S,.im ab n,.im af kd,.im ab a]) (mn (λm Γ=>∃i,m + i=k/\Γ=[.im (ae (aO C)) S,.im ab n,.im af kd,.im ab (itG (bF S) i (bF S n))]) (m0:=k) ⟨0,rfl,rfl⟩ (λm Γ hI=>?_)) ?_
 ·obtain ⟨i,hi,rfl⟩:=hI
  obtain ⟨o0,o1⟩:=hin i (by omega)
  have hs:itG (bF S) (i + 1) (bF S n)=bF S (itG (bF S) i (bF S n)):=rfl
  have hne':=hne i
  have hki:i=k->aH S (itG (bF S) i (bF S n))=kd/\itG (bF S) i (bF S n)=a:=λe=>by rw [e,ha];exact ⟨hk,rfl⟩
  generalize itG (bF S) i (bF S n)=o at o0 o1 hs hne' hki
  refine ⟨!decide (aH S o=kd),_,aA xj (eA (C:=C) HC (ba (aa 0 rfl) (aa 3 rfl) (aY (xs:=S) (i:=o) c6 o0 o1))) (aa 2 rfl),λh=>?_,λh=>?_⟩
  ·have h:¬aH S o=kd:=by simpa using h
   have ik:i < k:=by
    rcases Nat.lt_or_ge i k with z | z
    ·exact z
    ·exact absurd (hki (by omega)).1 h
   exact ai (aZ 3 (kP (C:=C) HC (ba (aa 0 rfl) (aa 3 rfl) (aY (xs:=S) (i:=o) c6 o0 o1))) ⟨m - 1,by omega,i + 1,by omega,by rw [hs];rfl⟩)
  ·have h:aH S o=kd:=by simpa using h
   have ik:i=k:=by
    rcases Nat.lt_or_ge i k with z | z
    ·exact absurd h (hne' z)
    ·omega
   rw [(hki ik).2]
 rintro _ rfl
 exact ai (aW (aa 3 rfl) rfl)
abbrev wV:Stmt:=top mZ
abbrev nLF:List Str:=["steps","closing","number","kind","ended"]
abbrev Ee:List Str:=["steps","closing","number"]
theorem BN:aE nLF Ee (ag wV):=⟨rfl,rfl,rfl,by decide +kernel,rfl,by decide +kernel,by decide +kernel⟩
def EN (C:Addr):cX:=λK ps T=>∃(S:List ay) (F:List (Int×Int)) (n:Int) (ls:List Int),ps=[⟨ae (aO C),S⟩,⟨jn,F⟩,⟨ab,n⟩]/\0<=n/\n < (S.length:Int)/\c8 S F n ls/\T=cF K (ae ab) (· =ls)
def qd (S:List ay)(n:Int):Str:=if aH S n="end" then aH S (bF S n) else ""
theorem Dj (HC:bh K C fg)(CA:aG P w K mg base "around" 1 (aP (En C) K))(F:bw K "leads_from" "leads_from" wV f fd)(hm:mg "leads_from"=some (.ref f))(hb:Binds K fd Ee []):aG P w K mg base "leads_from" 2 (aP (EN C) K):=by
 have nd:=BN.nd
 refine bu F BN hm hb (λqs T ⟨_,_,_,_,e,_⟩=>by rw [e];rfl) (λcdv A outer s H E qs T hr hS=>?_)
 obtain ⟨S,Fd,n,ls,rfl,n0,n1,hL,rfl⟩:=hS
 have hu:=ru hr
 have hat:cb S n=some (S.getD n.toNat c6):=aY (xs:=S) (i:=n) c6 n0 n1
 have hen:aH S n="end"->0<=bF S n/\bF S n < (S.length:Int):=λh=>by
  cases hL with
  | row g hc=>rcases g with g | g<;>rw [g] at h<;>exact absurd h (by decide +kernel)
  | els g hc=>rw [g] at h;exact absurd h (by decide +kernel)
  | lev g ha hc=>rw [g] at h;exact absurd h (by decide +kernel)
  | bck g ha hc=>rw [g] at h;exact absurd h (by decide +kernel)
  | enw g h0 h1 hk=>exact ⟨h0,h1⟩
  | enp g h0 h1 hk=>exact ⟨h0,h1⟩
  | ene g h0 h1 hk=>exact ⟨h0,h1⟩
  | oth g=>rcases g with g | g | g<;>rw [g] at h<;>exact absurd h (by decide +kernel)
 change WS _ _ [.im (ae (aO C)) S,.im jn Fd,.im ab n,.no,.no] _ _
 refine aj (aZ 3 (y:=aH S n) (eA (C:=C) HC (ba (aa 0 rfl) (aa 2 rfl) hat)) ?_)
 refine aj (aZ 4 (y:=qd S n) (EV.cast (i7 (x:=aH S (bF S n)) (aA bS (aa 3 rfl) ar) (λh=>eA (C:=C) HC (ba (aa 0 rfl) (kP (C:=C) HC (ba (aa 0 rfl) (aa 2 rfl) hat)) (aY (xs:=S) (i:=bF S n) c6 (hen (of_decide_eq_true h)).1 (hen (of_decide_eq_true h)).2))) (λ_=>ar)) (by unfold qd;by_cases h:aH S n="end"<;>simp [h])) ?_)
 change WS _ _ [.im (ae (aO C)) S,.im jn Fd,.im ab n,.im af (aH S n),.im af (qd S n)] _ _
 have en0:aH S n≠"end"->qd S n="":=λh=>if_neg h
 have en1:aH S n="end"->qd S n=aH S (bF S n):=λh=>if_pos h
 generalize hE:qd S n=ed at en0 en1
 have one_le:(1:Nat)<=sizeLine:=by decide
 refine aj (bq (aA hW (aa 3 rfl) (p7 (xs:=["if","while"]) (aq (EV.pS ar) (aq (EV.pS ar) aN)) (by show 2<=sizeLine;decide))) (λh=>?_) (λh=>aT ?_))
 ·have h:aH S n∈(["if","while"]:List Str):=of_decide_eq_true h
  cases hL with
  | row g hc=>exact ai (aW (aV.im (aL (r:=ab) (aq (bX (aa 2 rfl) ev_int) (aq (bX (jA hu (aa 1 rfl) (aa 2 rfl) hc) ev_int) aN)) (by show 2<=sizeLine;decide))) rfl)
  | els g hc=>rw [g] at h;exact absurd h (by decide +kernel)
  | lev g ha hc=>rw [g] at h;exact absurd h (by decide +kernel)
  | bck g ha hc=>rw [g] at h;exact absurd h (by decide +kernel)
  | enw g h0 h1 hk=>rw [g] at h;exact absurd h (by decide +kernel)
  | enp g h0 h1 hk=>rw [g] at h;exact absurd h (by decide +kernel)
  | ene g h0 h1 hk=>rw [g] at h;exact absurd h (by decide +kernel)
  | oth g=>rcases g with g | g | g<;>rw [g] at h<;>exact absurd h (by decide +kernel)
 have h1:¬aH S n∈(["if","while"]:List Str):=of_decide_eq_false h
 refine aj (bq (aA bS (aa 3 rfl) ar) (λh=>?_) (λh=>aT ?_))
 ·have h:aH S n="else":=of_decide_eq_true h
  cases hL with
  | row g hc=>rcases g with g | g<;>rw [g] at h<;>exact absurd h (by decide +kernel)
  | els g hc=>exact ai (aW (aV.im (aL (r:=ab) (aq (jA hu (aa 1 rfl) (aa 2 rfl) hc) aN) one_le)) rfl)
  | lev g ha hc=>rw [g] at h;exact absurd h (by decide +kernel)
  | bck g ha hc=>rw [g] at h;exact absurd h (by decide +kernel)
  | enw g h0 h1 hk=>rw [g] at h;exact absurd h (by decide +kernel)
  | enp g h0 h1 hk=>rw [g] at h;exact absurd h (by decide +kernel)
  | ene g h0 h1 hk=>rw [g] at h;exact absurd h (by decide +kernel)
  | oth g=>rcases g with g | g | g<;>rw [g] at h<;>exact absurd h (by decide +kernel)
 have h2:¬aH S n="else":=of_decide_eq_false h
 refine aj (bq (aA bS (aa 3 rfl) ar) (λh=>?_) (λh=>aT ?_))
 ·have h:aH S n="leave":=of_decide_eq_true h
  cases hL with
  | row g hc=>rcases g with g | g<;>rw [g] at h<;>exact absurd h (by decide +kernel)
  | els g hc=>rw [g] at h;exact absurd h (by decide +kernel)
  | lev g ha hc=>exact ai (aW (aV.im (aL (r:=ab) (aq (bX (jA hu (aa 1 rfl) (aI CA hr (ah (aa 0 rfl) (ah (aa 2 rfl) (ah ar ax))) ⟨S,n,_,_,rfl,n0,n1,ha,rfl⟩) hc) ev_int) aN) one_le)) rfl)
  | bck g ha hc=>rw [g] at h;exact absurd h (by decide +kernel)
  | enw g h0 h1 hk=>rw [g] at h;exact absurd h (by decide +kernel)
  | enp g h0 h1 hk=>rw [g] at h;exact absurd h (by decide +kernel)
  | ene g h0 h1 hk=>rw [g] at h;exact absurd h (by decide +kernel)
  | oth g=>rcases g with g | g | g<;>rw [g] at h<;>exact absurd h (by decide +kernel)
 have h3:¬aH S n="leave":=of_decide_eq_false h
 refine aj (bq (aA bS (aa 3 rfl) ar) (λh=>?_) (λh=>aT ?_))
 ·have h:aH S n="back":=of_decide_eq_true h
  cases hL with
  | row g hc=>rcases g with g | g<;>rw [g] at h<;>exact absurd h (by decide +kernel)
  | els g hc=>rw [g] at h;exact absurd h (by decide +kernel)
  | lev g ha hc=>rw [g] at h;exact absurd h (by decide +kernel)
  | bck g ha hc=>exact ai (aW (aV.im (aL (r:=ab) (aq (jA hu (aa 1 rfl) (aI CA hr (ah (aa 0 rfl) (ah (aa 2 rfl) (ah ar ax))) ⟨S,n,_,_,rfl,n0,n1,ha,rfl⟩) hc) aN) one_le)) rfl)
  | enw g h0 h1 hk=>rw [g] at h;exact absurd h (by decide +kernel)
  | enp g h0 h1 hk=>rw [g] at h;exact absurd h (by decide +kernel)
  | ene g h0 h1 hk=>rw [g] at h;exact absurd h (by decide +kernel)
  | oth g=>rcases g with g | g | g<;>rw [g] at h<;>exact absurd h (by decide +kernel)
 have h4:¬aH S n="back":=of_decide_eq_false h
 have hno:∀{k:Str},k≠""->aH S n≠"end"->ed≠k:=λhk h z=>hk (by rw [← z,en0 h])
 refine aj (bq (aA bS (aa 4 rfl) ar) (λh=>?_) (λh=>aT ?_))
 ·have h:ed="while":=of_decide_eq_true h
  cases hL with
  | row g hc=>exact absurd h (hno (by decide +kernel) (by rcases g with g | g<;>rw [g]<;>decide +kernel))
  | els g hc=>exact absurd g h2
  | lev g ha hc=>exact absurd g h3
  | bck g ha hc=>exact absurd g h4
  | enw g h0 h1 hk=>exact ai (aW (aV.im (aL (r:=ab) (aq (kP (C:=C) HC (ba (aa 0 rfl) (aa 2 rfl) hat)) aN) one_le)) rfl)
  | enp g h0 h1 hk=>rw [en1 g,hk] at h;exact absurd h (by decide +kernel)
  | ene g h0 h1 hk=>rw [en1 g,hk] at h;exact absurd h (by decide +kernel)
  | oth g=>exact absurd h (hno (by decide +kernel) (by rcases g with g | g | g<;>rw [g]<;>decide +kernel))
 have h5:¬ed="while":=of_decide_eq_false h
 cases hL with
 | row g hc=>exact absurd (by rcases g with g | g<;>rw [g]<;>decide +kernel) h1
 | els g hc=>exact absurd g h2
 | lev g ha hc=>exact absurd g h3
 | bck g ha hc=>exact absurd g h4
 | enw g h0 h1 hk=>exact absurd ((en1 g).trans hk) h5
 | enp g h0 h1 hk=>
   have e:ed="part":=(en1 g).trans hk
   exact ai (aW (y:=([]:List Int)) (EV.cast (i7 (y:=([]:List Int)) (aA bS (aa 4 rfl) ar) (λ_=>aV.im (aL (r:=ab) aN (Nat.zero_le _))) (λh=>absurd e (of_decide_eq_false h))) (by split<;>rfl)) rfl)
 | ene g h0 h1 hk=>
   have e:ed≠"part":=by rw [en1 g,hk];decide +kernel
   exact ai (aW (y:=[n + 1]) (EV.cast (i7 (x:=[n + 1]) (aA bS (aa 4 rfl) ar) (λh=>absurd (of_decide_eq_true h) e) (λ_=>aV.im (aL (r:=ab) (aq (bX (aa 2 rfl) ev_int) aN) one_le))) (by split<;>rfl)) rfl)
 | oth g=>
   have e:ed≠"part":=hno (by decide +kernel) (by rcases g with g | g | g<;>rw [g]<;>decide +kernel)
   exact ai (aW (y:=[n + 1]) (EV.cast (i7 (x:=[n + 1]) (aA bS (aa 4 rfl) ar) (λh=>absurd (of_decide_eq_true h) e) (λ_=>aV.im (aL (r:=ab) (aq (bX (aa 2 rfl) ev_int) aN) one_le))) (by split<;>rfl)) rfl)
abbrev uN:Stmt:=top pO
abbrev EZ:List Str:=["steps","closing"]
theorem BE:aE EZ ["steps"] (ag uN):=⟨rfl,rfl,rfl,by decide +kernel,rfl,by decide +kernel,by decide +kernel⟩
def se (S:List ay)(Ld:List (List Int)):Prop:=Ld.length=S.length/\∀n:Nat,n < S.length->c8 S (cR S) (n:Int) (Ld.getD n [])
def Ej (C:Addr):cX:=λK ps T=>∃(S:List ay) (Ld:List (List Int)),ps=[⟨ae (aO C),S⟩]/\S.length<=1000/\se S Ld/\T=cF K (ae (ae ab)) (· =Ld)
theorem vR (Ld:List (List Int)):((ups 0 Ld.length).filter λ_=>true).map (λn=>Ld.getD n.toNat [])=Ld:=by
 rw [List.filter_eq_self.mpr λ_ _=>rfl]
 refine List.ext_getElem? λi=>?_
 unfold ups
 rw [List.getElem?_map,List.getElem?_map]
 rcases Nat.lt_or_ge i Ld.length with h | h
 ·rw [List.getElem?_range h,List.getElem?_eq_getElem h]
  show some (Ld.getD (0 + (i:Int)).toNat [])=_
  rw [show (0 + (i:Int)).toNat=i by omega,List.getD_eq_getElem?_getD,List.getElem?_eq_getElem h];rfl
 ·rw [List.getElem?_eq_none (by simpa using h),List.getElem?_eq_none h];rfl
theorem Du (M:cv K mg)(CC:aG P w K mg base "closing_steps" 1 (aP (Cn C) K))(CF:aG P w K mg base "leads_from" 2 (aP (EN C) K))(F:bw K "leads_in" "leads_in" uN f fd)(hm:mg "leads_in"=some (.ref f))(hb:Binds K fd ["steps"] []):aG P w K mg base "leads_in" 3 (aP (Ej C) K):=by
 have nd:=BE.nd
 have ndc:List.Nodup [("number":Str),"steps","closing"]:=by decide
 have CC:=CC.mono (show 1<=2 by decide)
 refine bu (k:=2) F BE hm hb (λqs T ⟨_,_,e,_⟩=>by rw [e];rfl) (λcdv A outer s H E qs T hr hS=>?_)
 obtain ⟨S,Ld,rfl,hl,⟨hll,hL⟩,rfl⟩:=hS
 change WS _ _ [.im (ae (aO C)) S,.no] _ _
 refine aj (aZ 1 (y:=cR S) (aI CC hr (ah (aa 0 rfl) ax) ⟨S,rfl,hl,rfl⟩) ?_)
 change WS _ _ [.im (ae (aO C)) S,.im jn (cR S)] _ _
 have cc:=vR Ld
 rw [hll] at cc
 refine ai (aW (aV.im (cE (own:=["number"]) (fr:=["steps","closing"]) (ix:=[0,1]) (ra:=ab) (rb:=ae ab) (p:=λ_=>true) (f:=λn=>Ld.getD n.toNat []) (cu (so:=ag uN) (N0:=EZ) rfl rfl (λx h=>bG h) (by decide +kernel)) (dR M.range (gX M.len (aa 0 rfl)) ⟨by omega,by omega⟩)
  (λC s H ex=>bg 0) (λx=>⟨.inr rfl,.inl rfl,.inl rfl,trivial⟩) (λC s H ex c hc=>fM) (λC' s H ex o ho _=>?_))) ?_)
 ·obtain ⟨i,hi⟩:=List.mem_iff_getElem?.mp ho
  obtain ⟨il,rfl⟩:=fb hi
  have il:i < S.length:=by omega
  have:=hL i il
  rw [show (i:Int)=0 + (i:Int) by omega] at this
  exact aI CF hr (ah (aa 1 rfl) (ah (aa 2 rfl) (ah (aa 0 rfl) ax))) ⟨S,cR S,0 + (i:Int),_,rfl,by omega,by omega,by rw [show (0 + (i:Int)).toNat=i by omega];exact this,rfl⟩
 ·rw [show ((S.length:Int)).toNat=S.length by omega]
  exact cc
abbrev uw:Stmt:=top pP
abbrev Es:List Str:=["steps","closing"]
theorem zD:aE Es ["steps"] (ag uw):=⟨rfl,rfl,rfl,by decide +kernel,rfl,by decide +kernel,by decide +kernel⟩
abbrev iJ:=Str×Int×Int
def iB (p:iJ):PV:=.tup [.str p.1,.int p.2.1,.int p.2.2]
def BS (z:Int×ay):Bool:=decide (z.2.kind="part")
def Bt (S:List ay)(z:Int×ay):iJ:=(z.2.name,z.1,(bC (cR S) z.1).getD 0)
def c5 (S:List ay):List iJ:=((nums S).filter BS).map (Bt S)
def EM (C:Addr):cX:=λK ps T=>∃S:List ay,ps=[⟨ae (aO C),S⟩]/\S.length<=1000/\(∀n:Nat,n < S.length->aH S (n:Int)="part"->(bC (cR S) (n:Int)).isSome)/\T=cF K (ae au) (· =(c5 S).map iB)
theorem j4 {S:List ay}{z:Int×ay}(h:z∈nums S):∃n:Nat,n < S.length/\z.1=(n:Int)/\S.getD n c6=z.2:=by
 obtain ⟨i,hi⟩:=List.mem_iff_getElem?.mp h
 obtain ⟨e1,e2⟩:=eM hi
 exact ⟨i,(List.getElem?_eq_some_iff.mp e2).1,e1,by rw [List.getD_eq_getElem?_getD,e2];rfl⟩
theorem C9 (M:cv K mg)(HC:bh K C fg)(CC:aG P w K mg base "closing_steps" 1 (aP (Cn C) K))(F:bw K "parts_in" "parts_in" uw f fd)(hm:mg "parts_in"=some (.ref f))(hb:Binds K fd ["steps"] []):aG P w K mg base "parts_in" 2 (aP (EM C) K):=by
 have nd:=zD.nd
 have ndc:List.Nodup [("number":Str),"step","closing"]:=by decide
 refine bu (k:=1) F zD hm hb (λqs T ⟨_,e,_⟩=>by rw [e];rfl) (λcdv A outer s H E qs T hr hS=>?_)
 obtain ⟨S,rfl,hl,hp,rfl⟩:=hS
 change WS _ _ [.im (ae (aO C)) S,.no] _ _
 refine aj (aZ 1 (y:=cR S) (aI CC hr (ah (aa 0 rfl) ax) ⟨S,rfl,hl,rfl⟩) ?_)
 change WS _ _ [.im (ae (aO C)) S,.im jn (cR S)] _ _
 refine ai (aW (aV.im (cE (own:=["number","step"]) (fr:=["closing"]) (ix:=[1]) (ra:=fD ab (aO C)) (rb:=au) (p:=BS) (f:=λz=>iB (Bt S z)) (cu (so:=ag uw) (N0:=Es) rfl rfl (λx h=>bG h) (by decide +kernel)) (gA M.enumerate (aa 0 rfl))
  (λC s H ex=>eK 0 1) (λx=>⟨.inr rfl,.inr rfl,.inl rfl,trivial⟩) (λC' s H ex z hz=>?_) (λC' s H ex z hz hpz=>?_))) ?_)
 ·exact fO (aA bS (eA (C:=C) HC (aa 1 rfl)) ar)
 ·obtain ⟨n,nl,e1,e2⟩:=j4 hz
  have hk:aH S (n:Int)="part":=by
   unfold aH
   rw [show ((n:Nat):Int).toNat=n by omega,e2]
   exact of_decide_eq_true hpz
  have hs:=hp n nl hk
  rw [← e1] at hs
  have hc:bC (cR S) z.1=some ((bC (cR S) z.1).getD 0):=by
   cases q:bC (cR S) z.1 with
   | none=>rw [q] at hs;cases hs
   | some c=>rfl
  exact mm (aq (EV.pS (lh (C:=C) HC (aa 1 rfl))) (aq (EV.pI (aa 0 rfl)) (aq (EV.pI (jA (ru hr) (aa 2 rfl) (aa 0 rfl) hc)) aN))) (by show 3<=sizeLine;decide)
 ·unfold c5
  rw [List.map_map];rfl
end
end K1
namespace Fc
open PySem PySem.Spec L2
open PyProof.Rows hiding St
def xE (lo:Int)(n:Nat):It:=⟨λi _=>i < n,λi H x H'=>H'=H/\x= .int (lo - i),λi _=>n<=i⟩
theorem tV {P:Program}{w:World}{K:PySem.W.Frag}{tg:Expr}(it:Addr)(lo:Int)(n:Nat):Turn P w K tg (xE lo n) [it] it (λi h=>IsRangeIter h it (lo + (i:Nat) * (-1)) ((n:Int) - (i:Nat)) (-1)) where
 mem:=by simp
 obj:=λi h st b hb=>by
  have e:b=it:=by simpa using hb
  subst e
  exact ⟨_,st,λv z=>by
   have z':Data.fields _=Data.cell v:=z
   cases z'⟩
 keep:=λi h h' st k=>k it (by simp) _ st
 item:=by
  intro X hP hw hK hc i pins s σ H E I hf st hg
  subst hP hw hK
  obtain ⟨f0,f1,f2,f3,f4,f5⟩:=hf it (by simp)
  have W:=Walks.range (prog:=X.prog) (w:=X.w) (I.ok.hd hc) it lo (-1) n
  refine W.item i s _ _ hg st λv h' tk hv st' kk=>?_
  obtain ⟨t,rfl⟩:=hv
  have I1:Inv X pins σ H {s with heap:=h',toks:=tk}:=I.turned (λb o hb e=>kk b o (by simpa using hb) e) f0 f1 f3 f4 f5
  refine ⟨_,rfl,jT (s:={s with heap:=h',toks:=tk}) (n:="range_iterator") st' rfl rfl (by decide) ⟨.int (lo - i),H,I1,⟨t,?_⟩,⟨rfl,rfl⟩,st',λb hb=>(hf b hb).1⟩⟩
  rw [show lo + (i:Int) * (-1)=lo - (i:Int) by omega]
 done:=by
  intro X hP hw hK hc i pins s σ H E I hf st hg
  subst hP hw hK
  obtain ⟨f0,f1,f2,f3,f4,f5⟩:=hf it (by simp)
  exact wpAny_pyNext_range_end (I.ok.hd hc) st (by have:n<=i:=hg;omega) λh' eb=>⟨rfl,I.turned (t':=s.toks) (λb o hb e=>eb b o hb e) f0 f1 f3 f4 f5⟩
 self:=λ_ _ _ _ _ st h=>wpAny_pyIter_rangeiter st h
theorem mN {a b:Int}:Builtin.Range.rangeSize a b (-1)=((a - b).toNat:Int):=by
 unfold Builtin.Range.rangeSize
 rw [if_neg (by decide)]
 split
 ·rw [show -(-1:Int)=1 by decide,Int.ediv_one];omega
 ·omega
theorem small_down {a b:Int}(ha: -(2 ^ 40)<=a)(ha':a < 2 ^ 40)(hb: -(2 ^ 40)<=b)(hb':b < 2 ^ 40):Builtin.Range.small a b (-1)=true:=by
 unfold Builtin.Range.small
 rw [mN]
 simp only [Builtin.Range.rangeFitsLong,Bool.and_eq_true,Bool.or_eq_true,decide_eq_true_eq,beq_iff_eq,show¬(-1:Int) > 0 by decide,if_false]
 omega
section
variable {X:Cx}{tg:Expr}{Γ Γ1 Γ2 Γ3:Ga}
def C1 (ta:TA):TI:=λσ H R=>ta σ H λvs H1=>∃i j:Int,vs=[.int i,.int j,.int (-1)]/\(-(2 ^ 40)<=i/\i < 2 ^ 40/\ -(2 ^ 40)<=j/\j < 2 ^ 40)/\R (xE i (i - j).toNat) H1
theorem zc {pins:List (Addr×Obj)}{σ:St}{H:Hp}{s:Shared}{R:It->Hp->Prop}{E:Value->Shared->Prop}{lo hi:Int}{t u v:Tok}{tk:Nat}(I:Inv X pins σ H s)(h1: -(2 ^ 40)<=lo)(h2:lo < 2 ^ 40)(h3: -(2 ^ 40)<=hi)(h4:hi < 2 ^ 40)
 (q:R (xE lo (lo - hi).toNat) H):wpAny (model X.prog X.w) X.A (pyIter (.ref s.heap.objs.size)) (BO X pins σ tg R) E {s with heap:=s.heap.push {cls:=.type "range",data:=.fields #[.int lo t,.int hi u,.int (-1) v]},toks:=tk}:=by
 refine wpAny_pyIter_range (IsRange.new ..) (small_down h1 h2 h3 h4) ?_
 have I1:Inv X pins σ H {s with heap:=s.heap.push {cls:=.type "range",data:=.fields #[.int lo t,.int hi u,.int (-1) v]},toks:=tk}:=I.kept λb o e=>Heap.get?_push_of_some _ e
 refine ⟨(s.heap.push {cls:=.type "range",data:=.fields #[.int lo t,.int hi u,.int (-1) v]}).objs.size,[(s.heap.push {cls:=.type "range",data:=.fields #[.int lo t,.int hi u,.int (-1) v]}).objs.size],_,_,H,rfl,
  I1.kept (t':=tk) λb o e=>Heap.get?_push_of_some _ e,tV _ lo (lo - hi).toNat,?_,λb hb=>?_,q⟩
 ·have e1:lo + ((0:Nat):Int) * (-1)=lo:=by simp
  have e2:(((lo - hi).toNat:Nat):Int) - ((0:Nat):Int)=Builtin.Range.rangeSize lo hi (-1):=by rw [mN];simp
  show IsRangeIter _ _ (lo + ((0:Nat):Int) * (-1)) ((((lo - hi).toNat:Nat):Int) - ((0:Nat):Int)) (-1)
  rw [e1,e2]
  exact Heap.get?_push_size _ rfl
 ·have e:b=(s.heap.push {cls:=.type "range",data:=.fields #[.int lo t,.int hi u,.int (-1) v]}).objs.size:=by simpa using hb
  subst e
  exact I1.eR (Nat.le_refl _) (I1.hok.fresh (Nat.le_refl _))
theorem sF {a b c:Expr}{ta:TA}{p pos:Pos}(hg:Gl X "range")(hm:X.mg "range"=none)(ha:PA X [a,b,c] ta)(hs:starEach [a,b,c] X.env=(false,eval a X.env)::starEach [b,c] X.env:=by rfl)(hpl:(backTo pos (starEach [b,c] X.env)).any (·.1)=false:=by rfl):
 PI X tg (.Call (.Name "range" p) [a,b,c] [] pos) (C1 ta):=by
 intro pins s σ H R I h
 refine Call_ (eW I hg hm boot_range (PyProof.Rows.callWith_type1 (aF (ha pos pins s σ H _ I h) λus s1 ⟨vs,H1,I1,r1,q1⟩=>?_) hs hpl))
 obtain ⟨i,j,e,⟨q1,q2,q3,q4⟩,q⟩:=q1
 subst e
 cases r1 with
 | cons r rr=>
   cases rr with
   | cons r' rr=>
     cases rr with
     | cons r'' rr=>
       cases rr
       obtain ⟨t,rfl⟩:=r
       obtain ⟨t',rfl⟩:=r'
       obtain ⟨t'',rfl⟩:=r''
       exact call_range_3 (by decide) (zc I1 q1 q2 q3 q4 q) (.inl (PyProof.noPylong_of_log2 (by decide +kernel)))
def downs (lo:Int)(n:Nat):List Int:=(List.range n).map λ(k:Nat)=>lo - (k:Int)
theorem eT (lo:Int)(n:Nat):(downs lo n).length=n:=by unfold downs;rw [List.length_map,List.length_range]
theorem nG {lo:Int}{n i:Nat}{x:Int}(h:(downs lo n)[i]?=some x):i < n/\x=lo - (i:Int):=by
 have hi:i < n:=by have:=(List.getElem?_eq_some_iff.mp h).1;rwa [eT] at this
 refine ⟨hi,?_⟩
 unfold downs at h
 rw [List.getElem?_map,List.getElem?_range hi] at h
 exact (Option.some.inj h).symm
theorem vt {K:PySem.W.Frag}{R1:Hp}(lo:Int)(n:Nat):Src K (xE lo n) R1 ab (downs lo n):=λH' R' sR sH i=>⟨λx hx=>by
 obtain ⟨h1,rfl⟩:=nG hx
 refine ⟨h1,λv H2 hy=>?_⟩
 obtain ⟨rfl,rfl⟩:=hy
 exact ⟨R',Ext.refl sH,rfl⟩,λhi=>by rw [eT] at hi;exact hi⟩
theorem uy {a b c:Expr}{p1 p2:Pos}{m n:Int}(hm:X.mg "range"=none)(ha:HA X [a,b,c] Γ [⟨ab,m⟩,⟨ab,n⟩,⟨ab, -1⟩] Γ1)(hn: -1000000<=m/\m<=1000000/\ -1000000<=n/\n<=1000000)
 (hs:starEach [a,b,c] X.env=(false,eval a X.env)::starEach [b,c] X.env:=by rfl) (hpl:(backTo p2 (starEach [b,c] X.env)).any (·.1)=false:=by rfl) (hg:Gl X "range":=by rfl):IV X tg (.Call (.Name "range" p1) [a,b,c] [] p2) Γ ab (downs m (m - n).toNat) Γ1:=by
 refine ⟨_,sF hg hm jm hs hpl,λσ H0 R0 H R E Rq q=>ha σ H0 R0 H R E _ λvs H1 R1 E1 s1 e1=>?_⟩
 have e:vs=[.int m,.int n,.int (-1)]:=by
  cases e1 with
  | cons a1 t=>cases t with
    | cons a2 t=>cases t with
      | cons a3 t=>cases t;cases a1;cases a2;cases a3;rfl
 subst e
 exact ⟨m,n,rfl,⟨by omega,by omega,by omega,by omega⟩,q _ H1 R1 E1 s1 (by rw [eT];exact Nat.le_trans (show (m - n).toNat<=2000000 by omega) (by decide)) (vt m (m - n).toNat)⟩
end
end Fc
namespace Fc.ZT
open PySem PySem.Spec PyProof.Rows
section
variable {prog:Program}{w:World}{A:Around}{E:Value->Shared->Prop}{s:Shared}
theorem qQ {i l:Addr}{its:Array Value}(hh:A.handled=none)(hne:i≠l):Dr prog w A i l its (λk h=>h.IsListIter i l k/\h.IsList l its) where
 up:=λ⟨⟨o,ho,r⟩,⟨o',ho',r'⟩⟩ hk=>⟨⟨o,hk _ (.inl rfl) o ho,r⟩,⟨o',hk _ (.inr rfl) o' ho',r'⟩⟩
 there:=λ⟨⟨o,ho,_⟩,_⟩=>Heap.lt_size ho
 item:=λ{k x s Q E} ⟨hit,ht⟩ hx hQ=>wpAny_nextOf_list_item hit ht hx λh' h1 h2=>hQ h' ⟨h1,ht.extBut h2.extBut (Ne.symm hne)⟩ h2
 done:=λ{k s Q E} ⟨hit,ht⟩ hx hE=>wpAny_nextOf_list_end hh hit ht hx λh' e h1 h2=>hE h' e h1 h2
end
abbrev zhX (h:Heap)(l1 l2:Addr):Heap:=((((h.push {cls:=.type "tuple_iterator",data:=.fields #[.ref l1,.int 0 0]}).push {cls:=.type "list_iterator",data:=.fields #[.ref l2,.int 0 0]}).push {cls:=.type "tuple",data:=.seq #[.ref h.objs.size,.ref (h.objs.size + 1)]}).push {cls:=.type "tuple",data:=.seq #[.none,.none]}).push {cls:=.type "zip",data:=.fields #[.none,.bool false,.bool false,.ref (h.objs.size + 2),.ref (h.objs.size + 3)]}
theorem vG (l1 l2:Addr)(xs ys:Array Value):Meets (Builtin.«zip.__new__» ⟨[.type "zip",.ref l1,.ref l2],[]⟩) (λ_ R s=>s.heap.IsTuple l1 xs/\s.heap.IsList l2 ys/\R (.ok (.ret (.ref (s.heap.objs.size + 4)))) {s with heap:=zhX s.heap l1 l2}):=
 .of_wp λprog w A R s h=>by
  obtain ⟨hp,g,d,tk,os⟩:=s;obtain ⟨hl1,hl2,h⟩:=h
  have hsub:isSubtype (.type "zip") (.type "zip")=pure true:=by rw [isSubtype_type];kernel_rfl
  have hL1:Heap.IsTuple (Shared.heap ⟨hp,g,d,tk,os⟩) l1 xs:=hl1
  have hL2:Heap.IsList (Shared.heap ⟨hp.push {cls:=.type "tuple_iterator",data:=.fields #[.ref l1,.int 0 0]},g,d,tk,os⟩) l2 ys:=Heap.IsList.push hl2 _
  wp_walk using wpAny_pyIter_tuple hL1,wpAny_pyIter_list hL2
  refine ⟨_,rfl,?_⟩
  simp only [Heap.size_push]
  exact h
section
variable {prog:Program}{w:World}{A:Around}{E:Value->Shared->Prop}{s:Shared}
theorem vf {l1 l2:Addr}{xs ys:Array Value}{Q:Value->Shared->Prop}(hl1:s.heap.IsTuple l1 xs)(hl2:s.heap.IsList l2 ys)
 (h:∀h',IsZip h' (s.heap.objs.size + 4) (s.heap.objs.size + 2) (s.heap.objs.size + 3) .none->IsPair h' (s.heap.objs.size + 2) (.ref s.heap.objs.size) (.ref (s.heap.objs.size + 1))->IsPair h' (s.heap.objs.size + 3) .none .none->h'.IsTupleIter s.heap.objs.size l1 0->h'.IsListIter (s.heap.objs.size + 1) l2 0->
  (∀c o,s.heap.get? c=some o->h'.get? c=some o)->Q (.ref (s.heap.objs.size + 4)) {s with heap:=h'}):wpAny (model prog w) A (call (.type "zip") [.ref l1,.ref l2]) Q E s:=by
 refine callType_new F.called_zip (by decide) (F.typeCall_zip_2 _ _) (F.newCall_zip_2 _ _) (λobj=>F.args_object_init_3 obj _ _) F.entry_zip_new (vG l1 l2 xs ys) ⟨hl1,hl2,?_⟩
 have at_:∀(h:Heap) (o:Obj) (n:Nat),h.objs.size=n->o.isFreed=false->(h.push o).get? n=some o:=λh o n e f=>by subst e;exact Heap.get?_push_size _ f
 have g5:=at_ ((((s.heap.push {cls:=.type "tuple_iterator",data:=.fields #[.ref l1,.int 0 0]}).push {cls:=.type "list_iterator",data:=.fields #[.ref l2,.int 0 0]}).push {cls:=.type "tuple",data:=.seq #[.ref s.heap.objs.size,.ref (s.heap.objs.size + 1)]}).push {cls:=.type "tuple",data:=.seq #[.none,.none]}) {cls:=.type "zip",data:=.fields #[.none,.bool false,.bool false,.ref (s.heap.objs.size + 2),.ref (s.heap.objs.size + 3)]} (s.heap.objs.size + 4) (by simp [Heap.size_push]) rfl
 have g4:=at_ (((s.heap.push {cls:=.type "tuple_iterator",data:=.fields #[.ref l1,.int 0 0]}).push {cls:=.type "list_iterator",data:=.fields #[.ref l2,.int 0 0]}).push {cls:=.type "tuple",data:=.seq #[.ref s.heap.objs.size,.ref (s.heap.objs.size + 1)]}) {cls:=.type "tuple",data:=.seq #[.none,.none]} (s.heap.objs.size + 3) (by simp [Heap.size_push]) rfl
 have g3:=at_ ((s.heap.push {cls:=.type "tuple_iterator",data:=.fields #[.ref l1,.int 0 0]}).push {cls:=.type "list_iterator",data:=.fields #[.ref l2,.int 0 0]}) {cls:=.type "tuple",data:=.seq #[.ref s.heap.objs.size,.ref (s.heap.objs.size + 1)]} (s.heap.objs.size + 2) (by simp [Heap.size_push]) rfl
 have g2:=at_ (s.heap.push {cls:=.type "tuple_iterator",data:=.fields #[.ref l1,.int 0 0]}) {cls:=.type "list_iterator",data:=.fields #[.ref l2,.int 0 0]} (s.heap.objs.size + 1) (by simp [Heap.size_push]) rfl
 have g1:=at_ s.heap {cls:=.type "tuple_iterator",data:=.fields #[.ref l1,.int 0 0]} s.heap.objs.size rfl rfl
 have p:=@Heap.get?_push_of_some
 exact ⟨⟨_,g5,rfl⟩,h _ g5 (p _ (p _ g3)) (p _ g4) ⟨_,p _ (p _ (p _ (p _ g1))),rfl,rfl⟩ ⟨_,p _ (p _ (p _ g2)),rfl,rfl⟩ λc o x=>p _ (p _ (p _ (p _ (p _ x))))⟩
end
end Fc.ZT
namespace Fc
open PySem PySem.Spec L2
open PyProof.Rows hiding St
section
variable {X:Cx}{Γ Γ1 Γ2 Γ3:Ga}{α β γ δ:Type}{N:Ga->Prop}{T:RT}
variable {es:List Expr}{tp:Pos}
def Aj (K:PySem.W.Frag)(a b:Addr):It:=
 ⟨λi H=>∃xs ys x y,cW K H a xs/\aM K H b ys/\xs[i]?=some x/\ys[i]?=some y,
  λi H v H'=>∃p x y,H p=none/\v= .ref p/\H'=upd H p (.tup [x,y])/\(∀xs,cW K H a xs->xs[i]?=some x)/\∀ys,aM K H b ys->ys[i]?=some y,
  λi H=>∃xs ys,cW K H a xs/\aM K H b ys/\(xs.length<=i∨ys.length<=i)⟩
def El (z TI TO i1 i2 a b:Addr)(i:Nat)(h:Heap):Prop:=
 IsZip h z TI TO .none/\IsPair h TI (.ref i1) (.ref i2)/\(∃u v,IsPair h TO u v)/\h.IsTupleIter i1 a i/\h.IsListIter i2 b i/\a≠TO/\b≠TO
theorem Ep {h:Heap}{z TI TO i1 i2 a b:Addr}{i:Nat}{xs ys:Array Value}(F:oI z TI TO i1 i2)(st:El z TI TO i1 i2 a b i h)(pa:IsTup h a xs)(pb:PlainL h b ys):ZipApart z TI TO i1 i2 a b:=by
 obtain ⟨hz,_,⟨u,v,hTO⟩,⟨o1,e1,c1,_⟩,⟨o2,e2,c2,_⟩,n1,n2⟩:=st
 exact ⟨F.TIz,F.TOz,F.i1z,F.i2z,F.TITO,F.TIi1,F.TIi2,F.TOi1,F.TOi2,F.i12,
  tup_ne pa hz (by simp),n1,tup_ne pa e1 (by rw [c1];simp),tup_ne pa e2 (by rw [c2];simp),
  cO pb hz (by simp),cO pb hTO (by simp),cO pb e1 (by rw [c1];simp),cO pb e2 (by rw [c2];simp)⟩
theorem t6 {P:Program}{w:World}{K:PySem.W.Frag}{k:Nat}(a b z TI TO i1 i2:Addr)(F:oI z TI TO i1 i2):Turn P w K (.Tuple es k tp) (Aj K a b) [z,TI,TO,i1,i2] z (El z TI TO i1 i2 a b) where
 mem:=by simp
 obj:=λi h st c hc=>by
  obtain ⟨hz,hTI,⟨u,v,hTO⟩,⟨o1,e1,c1,d1⟩,⟨o2,e2,c2,d2⟩,_⟩:=st
  simp only [List.mem_cons,List.not_mem_nil,or_false] at hc
  rcases hc with rfl | rfl | rfl | rfl | rfl
  ·exact ⟨_,hz,λv q=>by cases q⟩
  ·exact ⟨_,hTI,λv q=>by cases q⟩
  ·exact ⟨_,hTO,λv q=>by cases q⟩
  ·exact ⟨o1,e1,λv q=>by rw [d1] at q;cases q⟩
  ·exact ⟨o2,e2,λv q=>by rw [d2] at q;cases q⟩
 keep:=λi h h' st kk=>by
  obtain ⟨hz,hTI,⟨u,v,hTO⟩,h1,h2,n1,n2⟩:=st
  exact ⟨kk z (by simp) _ hz,kk TI (by simp) _ hTI,⟨u,v,kk TO (by simp) _ hTO⟩,h1.imp λo q=>⟨kk i1 (by simp) o q.1,q.2⟩,h2.imp λo q=>⟨kk i2 (by simp) o q.1,q.2⟩,n1,n2⟩
 item:=by
  intro X hP hw hK hc i pins s σ H E I hf st hg
  subst hP hw hK
  obtain ⟨xs,ys,x,y,hq,hq',hx,hy⟩:=hg
  obtain ⟨its,r,pl,hz⟩:=I.tuple hq
  obtain ⟨its',r',pl',hz'⟩:=I.list hq'
  obtain ⟨u,hu,rx⟩:=r.get hx
  obtain ⟨u',hu',ry⟩:=r'.get hy
  have D:=Ep F st pl pl'
  have hh:=I.ok.hd hc
  obtain ⟨hz0,hTI,⟨c,d,hTO⟩,h1,h2,n1,n2⟩:=st
  have hn:H s.heap.objs.size=none:=I.hok.fresh (Nat.le_refl _)
  refine ZT.yn D (ZT.nH (A:=X.A.in1) hh (Ne.symm D.l1i1)) (ZT.qQ (A:=X.A.in1) hh (Ne.symm D.l2i2)) hz0 hTI hTO ⟨h1,pl⟩ ⟨h2,pl'.isList⟩ (x:=u) (y:=u') (by simpa using hu) (by simpa using hu') λh' a1 a2 a3 a4 a5 hk=>?_
  refine ⟨_,rfl,?_⟩
  refine wpAny_letOwnedTupleGo_zip (s:={s with heap:=h'}) a1 λh3 hz3 hs3=>?_
  have lt:∀{c o},s.heap.get? c=some o->c≠s.heap.objs.size:=λe=>Nat.ne_of_lt (Heap.lt_size e)
  have hk2:∀b o,b∉[z,TI,TO,i1,i2]->s.heap.get? b=some o->h3.get? b=some o:=λb o hb q=>by
   simp only [List.mem_cons,List.not_mem_nil,or_false,not_or] at hb
   exact hs3.extBut b o hb.1 (hk b o hb.1 hb.2.2.1 hb.2.2.2.1 hb.2.2.2.2 q)
  have I1:Inv X pins σ H {s with heap:=h3,toks:=s.toks}:=gw I hk2 hf
  have hT2:h3.get? s.heap.objs.size=some {cls:=.type "tuple",data:=.seq #[u,u']}:=hs3.extBut _ _ (Ne.symm (lt hz0)) a5
  have I2:Inv X pins σ (upd H s.heap.objs.size (.tup [x,y])) {s with heap:=h3,toks:=s.toks}:=
   adopt I1 (I.eR (Nat.le_refl _) hn) (I.sz) ⟨by show 2<=sizeLine;decide,[u,u'],.cons rx (.cons ry .nil),⟨_,hT2,rfl,_,rfl⟩⟩
  refine ⟨.ref s.heap.objs.size,_,I2,rfl,⟨s.heap.objs.size,x,y,hn,rfl,rfl,λzs hzs=>?_,λzs hzs=>?_⟩,⟨hz3,?_,⟨_,_,hs3.extBut _ _ F.TOz a2⟩,a3.1.extBut hs3.extBut F.i1z,a4.1.extBut hs3.extBut F.i2z,n1,n2⟩,λb hb=>?_⟩
  ·rw [I.mD hzs hq];exact hx
  ·rw [I.fq hzs hq'];exact hy
  ·exact hs3.extBut _ _ F.TIz (hk _ _ F.TIz F.TITO F.TIi1 F.TIi2 hTI)
  ·have hlt:b≠s.heap.objs.size:=by
    simp only [List.mem_cons,List.not_mem_nil,or_false] at hb
    rcases hb with rfl | rfl | rfl | rfl | rfl
    ·exact lt hz0
    ·exact lt hTI
    ·exact lt hTO
    ·obtain ⟨_,e,_⟩:=h1;exact lt e
    ·obtain ⟨_,e,_⟩:=h2;exact lt e
   rw [aw hlt]
   exact (hf b hb).1
 done:=by
  intro X hP hw hK hc i pins s σ H E I hf st hg
  subst hP hw hK
  obtain ⟨xs,ys,hq,hq',hx⟩:=hg
  obtain ⟨its,r,pl,hz⟩:=I.tuple hq
  obtain ⟨its',r',pl',hz'⟩:=I.list hq'
  have D:=Ep F st pl pl'
  have hh:=I.ok.hd hc
  obtain ⟨hz0,hTI,⟨c,d,hTO⟩,h1,h2,n1,n2⟩:=st
  have l1:=r.length
  have l2:=r'.length
  refine ZT.zR D (ZT.nH (A:=X.A.in1) hh (Ne.symm D.l1i1)) (ZT.qQ (A:=X.A.in1) hh (Ne.symm D.l2i2)) hz0 hTI hTO ⟨h1,pl⟩ ⟨h2,pl'.isList⟩ (hx.imp (λq=>by simp;omega) λq=>by simp;omega) λh' hk=>⟨rfl,?_⟩
  refine gw (t':=s.toks) I (λb o hb q=>?_) hf
  simp only [List.mem_cons,List.not_mem_nil,or_false,not_or] at hb
  exact hk b o hb.1 hb.2.2.1 hb.2.2.2.1 hb.2.2.2.2 q
 self:=λ_ _ _ _ _ st h=>wpAny_pyIter_zip st.1 h
def Cz (K:PySem.W.Frag)(ta:TA):TI:=λσ H R=>ta σ H λvs H1=>∃a b xs ys,vs=[.ref a,.ref b]/\cW K H1 a xs/\aM K H1 b ys/\R (Aj K a b) H1
theorem yi {a b:Expr}{ta:TA}{p pos:Pos}{k:Nat}(hg:Gl X "zip")(hm:X.mg "zip"=none)(ha:PA X [a,b] ta)(hs:starEach [a,b] X.env=[(false,eval a X.env),(false,eval b X.env)]:=by rfl)(hs2:starEach [b] X.env=[(false,eval b X.env)]:=by rfl):PI X (.Tuple es k tp) (.Call (.Name "zip" p) [a,b] [] pos) (Cz X.K ta):=by
 intro pins s σ H R I h
 refine Call_ (eW I hg hm boot_zip (PyProof.Rows.callWith_type1 (aF (ha pos pins s σ H _ I h) λus s1 ⟨vs,H1,I1,r1,q1⟩=>?_) (by rw [hs,hs2]) (by rw [hs2];rfl)))
 obtain ⟨l,l',xs,ys,e,hq,hq',q⟩:=q1
 subst e
 cases r1 with
 | cons r rr=>
   cases rr with
   | cons r' rr=>
     cases rr
     cases r
     cases r'
     obtain ⟨its,_,pl,_⟩:=I1.tuple hq
     obtain ⟨its',_,pl',_⟩:=I1.list hq'
     have ll:l < s1.heap.objs.size:=by obtain ⟨o,e,_⟩:=pl;exact Heap.lt_size e
     have ll':l' < s1.heap.objs.size:=by obtain ⟨o,n,e,_⟩:=pl';exact Heap.lt_size e
     refine ZT.vf pl pl'.isList λh' a1 a2 a3 a4 a5 hk=>?_
     refine wpAny_pyIter_zip a1 ?_
     have I2:Inv X pins σ H1 {s1 with heap:=h'}:=I1.kept (t':=s1.toks) hk
     have ff:∀b,s1.heap.objs.size<=b->gR X pins H1 b:=λb hb=>I1.eR hb (I1.hok.fresh hb)
     refine ⟨s1.heap.objs.size + 4,[s1.heap.objs.size + 4,s1.heap.objs.size + 2,s1.heap.objs.size + 3,s1.heap.objs.size,s1.heap.objs.size + 1],_,_,H1,rfl,I2,t6 l l' _ _ _ _ _ (Bv _),⟨a1,a2,⟨_,_,a3⟩,a4,a5,Nat.ne_of_lt (Nat.lt_of_lt_of_le ll (Nat.le_add_right _ 3)),Nat.ne_of_lt (Nat.lt_of_lt_of_le ll' (Nat.le_add_right _ 3))⟩,λb hb=>?_,q⟩
     simp only [List.mem_cons,List.not_mem_nil,or_false] at hb
     rcases hb with rfl | rfl | rfl | rfl | rfl
     ·exact ff _ (Nat.le_add_right _ 4)
     ·exact ff _ (Nat.le_add_right _ 2)
     ·exact ff _ (Nat.le_add_right _ 3)
     ·exact ff _ (Nat.le_refl _)
     ·exact ff _ (Nat.le_add_right _ 1)
theorem yf {a b:Expr}{p pos:Pos}{k:Nat}{ys:List Str}{r:Rep α}{xs:List α}(hm:X.mg "zip"=none)(ha:EV X a Γ oU ys Γ1)(hb:EV X b Γ1 (ae r) xs Γ2)(hs:starEach [a,b] X.env=[(false,eval a X.env),(false,eval b X.env)]:=by rfl)(hs2:starEach [b] X.env=[(false,eval b X.env)]:=by rfl)(hg:Gl X "zip":=by rfl):
 IV X (.Tuple es k tp) (.Call (.Name "zip" p) [a,b] [] pos) Γ (fD af r) (ys.zip xs) Γ2:=by
 refine ⟨_,yi hg hm (aR aJ (aR aJ bt hs2) (by rw [hs,hs2])) hs hs2,λσ H0 R0 H R E Rq q=>ha σ H0 R0 H R E _ λv H1 R1 E1 s1 e1=>hb σ H0 R0 H1 R1 E1 _ λv' H2 R2 E2 s2 e2=>?_⟩
 obtain ⟨a,rfl,hq0⟩:=oU.mono (K:=X.K) s2 e1
 obtain ⟨b,vs,rfl,hp,pp,hz⟩:=e2
 have up:∀{R' H':Hp},ak R2 R'->ak R' H'->cW X.K H' a (ys.map V.str):=λsR sH=>hq0.imp (λh=>h.imp (λq=>sH _ _ (sR _ _ q)) λ⟨o,q⟩=>⟨o,sH _ _ (sR _ _ q)⟩) id
 refine ⟨a,b,_,vs,rfl,up (ak.refl _) E2.sub,aM.of (E2.sub _ _ hp),q _ H2 R2 E2 (s1.trans s2) (by rw [List.length_zip];exact Nat.le_trans (Nat.min_le_right _ _) hz) λH' R' sR sH i=>⟨λy hy=>?_,λhi=>?_⟩⟩
 ·have hq:aM X.K H' b vs:=aM.of (sH _ _ (sR _ _ hp))
  have hq':=up sR sH
  obtain ⟨e1,e2⟩:=gH hy
  obtain ⟨v,hv,hr⟩:=cT pp e2
  have hv':(ys.map V.str)[i]?=some (V.str y.1):=by rw [List.getElem?_map,e1];rfl
  refine ⟨⟨_,vs,_,v,hq',hq,hv',hv⟩,λv2 H3 hyl=>?_⟩
  obtain ⟨p,x,x',hpn,rfl,rfl,hy,hy'⟩:=hyl
  have t1:=hy _ hq'
  have t2:=hy' vs hq
  rw [hv'] at t1
  rw [hv] at t2
  cases t1
  cases t2
  have s3:ak R' (upd R' p (.tup [.str y.1,v])):=ak.fresh (sH.free hpn) _
  exact ⟨upd R' p (.tup [.str y.1,v]),Ext.fresh sH hpn _,p,_,_,rfl,av,rfl,r.mono s3 (r.mono sR hr)⟩
 ·refine ⟨_,vs,up sR sH,aM.of (sH _ _ (sR _ _ hp)),?_⟩
  rw [List.length_zip] at hi
  rw [List.length_map,pp.length]
  omega
end
section
variable {X:Cx}{Γ Γ1 Γ2 Γ3:Ga}{α β γ δ:Type}{N:Ga->Prop}{T:RT}
theorem aV.cst {e:Expr}{r:Rep α}{xs ys:List α}(h:aV X e Γ r xs Γ1)(q:xs=ys):aV X e Γ r ys Γ1:=q▸h
theorem yO {e f:Expr}{x:Str}{p1 ap cp:Pos}{D:List (Str×List Str)}{k:Str}{zs:List Str}(hD:jd X.prog X.w X.K X.mg x D)(he:EV X e Γ af k Γ1)(hf:EV X f Γ1 oU zs Γ2)(hg:Gl X x:=by rfl)(hd:(x==("__debug__":Str))=false:=by decide)(m:M2 X (.Name x p1) "get" ap e f cp:=by exact ⟨rfl,rfl,rfl,rfl⟩):EV X (.Call (.Attribute (.Name x p1) "get" ap) [e,f] [] cp) Γ oU ((de D k).getD zs) Γ2:=by
 intro σ H0 R0 H R E Q q
 obtain ⟨a,o,vs,hm,hk,hdo,hs,hp⟩:=hD
 have pe:PE X (.Call (.Attribute (.Name x p1) "get" ap) [e,f] [] cp) (λσ H Q=>eP X e σ H λy H1=>y= .str k/\eP X f σ H1 λz H2=>(∀b,de D k≠none->valueAt vs (Sum.inr k:Key)=some (.ref b)->Q (.ref b) H2)/\(de D k=none->Q z H2)):=by
  intro pins s σ H Q I h
  refine wpAny_Call_method m.base m.few m.line PySem.F.plainAttrs_dict PySem.F.slot_dict_get PySem.F.type_dict_get (aF (gC (v:=.ref a) hg hm rfl hd pins s σ H (λv H2=>v= .ref a/\H2=H) I ⟨rfl,rfl⟩) λu s1 ⟨x1,H1,I1,rx,e3,e4⟩=>?_)
  subst e3;subst e4
  obtain rfl:u=Value.ref a:=rx
  have dd:s1.heap.DictOf (bB X.prog X.w) a vs:=Heap.dictOf_iff.mpr ⟨o,I1.g7 a o hk,hdo⟩
  refine ⟨dd.typeIs,λb q=>?_,?_⟩
  ·cases q
   obtain ⟨ob,_,_,h1,h2,_⟩:=dd
   exact ⟨ob,h1,h2.2.1⟩
  rw [m.trees]
  refine Calls.callWith_builtin rfl (Calls.evalArgs_plain (Calls.spliced_cons (aF (h pins s1 I1) λiv s2 ⟨y,H2,I2,ry,ey,q2⟩=>
   Calls.spliced_cons (aF (q2 pins s2 I2) λfv s3 ⟨z,H3,I3,rz,q3,q4⟩=>Calls.spliced_nil ?_))))
  subst ey
  have dd3:s3.heap.DictOf (bB X.prog X.w) a vs:=Heap.dictOf_iff.mpr ⟨o,I3.g7 a o hk,hdo⟩
  refine call_meetsIn PySem.F.slot_dict_get dd3.typeIs PySem.F.entry_dict_get (PySem.F.args_dict_get_3 _ _ _) (meets_dict_get_default (bB X.prog X.w) a (gk (k:=Sum.inr k) ry) hs fv) ⟨_,dd3.mapOf,?_⟩
  rcases nr (x:=k) hp with ⟨h1,h2⟩ | ⟨ys,b,h1,h2,_⟩
  ·rw [h2];exact ⟨z,_,I3.tok _,rz,q4 h1⟩
  ·rw [h2];exact ⟨.ref b,_,I3.tok _,rfl,q3 b (by rw [h1];exact Option.some_ne_none _) h2⟩
 refine eS pe (he σ H0 R0 H R E _ λv H1 R1 E1 s1 e1=>⟨e1,hf σ H0 R0 H1 R1 E1 _ λv2 H2 R2 E2 s2 e2=>⟨λb hb hv=>?_,λhn=>?_⟩⟩)
 ·rcases nr (x:=k) hp with ⟨h1,h2⟩ | ⟨ys,b',h1,h2,o',its,n,h3⟩
  ·exact absurd h1 hb
  ·rw [hv] at h2;cases h2
   refine q _ H2 R2 E2 (s1.trans s2) ?_
   rw [h1]
   exact ⟨b,rfl,.inr ⟨o',its,n,h3⟩⟩
 ·refine q _ H2 R2 E2 (s1.trans s2) ?_
  rw [hn];exact e2
end
end Fc
namespace K1
open PySem L2 Fc
open PySem.Spec hiding Row
open PyProof.Rows hiding St
abbrev fH:List (Str×List Str):=[("do",["do"]),("call",["call"]),("if",["yes","no"]),("while",["yes","no"])]
def bD (k:Str):Bool:=(de fH k).isSome
def kM (S:List ay)(Ld:List (List Int))(td:List Int)(n:Int):List Int:=
 if (Ld.getD n.toNat []).isEmpty=false/\bD (aH S n)=false then td.set n.toNat (td.getD ((Ld.getD n.toNat []).getD 0 0).toNat 0) else td
theorem yb {S:List ay}{Ld:List (List Int)}{td:List Int}{n:Int}:(kM S Ld td n).length=td.length:=by
 unfold kM;split
 ·rw [List.length_set]
 ·rfl
def sdF (S:List ay)(Ld:List (List Int))(i:Nat):List Int:=((downs ((S.length:Int) - 1) S.length).take i).foldl (kM S Ld) (ups 0 S.length)
theorem gJ {S:List ay}{Ld:List (List Int)}{i:Nat}(h:i < S.length):sdF S Ld (i + 1)=kM S Ld (sdF S Ld i) ((S.length:Int) - 1 - (i:Int)):=by
 have hd:(downs ((S.length:Int) - 1) S.length)[i]?=some ((S.length:Int) - 1 - (i:Int)):=by
  unfold downs
  rw [List.getElem?_map,List.getElem?_range h];rfl
 unfold sdF
 rw [List.take_succ,hd,List.foldl_append];rfl
theorem gD {S:List ay}{Ld:List (List Int)}:∀i,i<=S.length->(sdF S Ld i).length=S.length
 | 0,_=>bE _ _
 | i + 1,h=>by rw [gJ h,yb];exact gD i (by omega)
abbrev cP (S:List ay)(Ld:List (List Int)):List Int:=sdF S Ld S.length
def o9 (S:List ay)(Ld:List (List Int)):Prop:=Ld.length=S.length/\∀ls∈Ld,∀l∈ls,0<=l/\l < (S.length:Int)
section
variable {P:Program}{w:World}{K:PySem.W.Frag}{mg:Str->Option Value}{base:Heap}{f:Addr}{fd:FuncData}{C:Addr}
abbrev xh:Stmt:=top n8
abbrev nST:List Str:=["steps","leads","told","number"]
theorem Bz:aE nST ["steps","leads"] (ag xh):=⟨rfl,rfl,rfl,by decide +kernel,rfl,by decide +kernel,by decide +kernel⟩
def ED (C:Addr):cX:=λK ps T=>∃(S:List ay) (Ld:List (List Int)),ps=[⟨ae (aO C),S⟩,⟨ae (ae ab),Ld⟩]/\S.length<=1000/\o9 S Ld/\T=cF K (ae ab) (· =cP S Ld)
theorem DD (M:cv K mg)(HC:bh K C fg)(RW:jd P w K mg "ROW_WORDS" fH)(F:bw K "stands_in" "stands_in" xh f fd)(hm:mg "stands_in"=some (.ref f))(hb:Binds K fd ["steps","leads"] []):aG P w K mg base "stands_in" 1 (aP (ED C) K):=by
 have nd:=Bz.nd
 refine bu F Bz hm hb (λqs T ⟨_,_,e,_⟩=>by rw [e];rfl) (λcdv A outer s H E qs T hr hS=>?_)
 obtain ⟨S,Ld,rfl,hl,⟨hll,hin⟩,rfl⟩:=hS
 change WS _ _ [.im (ae (aO C)) S,.im (ae (ae ab)) Ld,.no,.no] _ _
 refine aj (cQ 2 (r:=ab) (ys:=ups 0 S.length) (aV.cst (m5 M.list M.range (gX M.len (aa 0 rfl)) ⟨by omega,by omega⟩) (by rw [show ((S.length:Int)).toNat=S.length by omega])) ?_)
 refine bL (N1:=λΓ=>∃e3,Γ=[.im (ae (aO C)) S,.im (ae (ae ab)) Ld,.mu ab (cP S Ld),e3]) (cj (λi Γ=>∃e3,Γ=[.im (ae (aO C)) S,.im (ae (ae ab)) Ld,.mu ab (sdF S Ld i),e3]) (uy M.range (ah (fY (gX M.len (aa 0 rfl)) ev_int) (ah (jy ev_int) (ah (jy ev_int) ax))) ⟨by omega,by omega,by omega,by omega⟩) (bg 3) ⟨_,rfl⟩ (λi n Γ hn hΓ=>?_) (λΓ hΓ=>?_)) ?_
 ·obtain ⟨e3,rfl⟩:=hΓ
  obtain ⟨il,rfl⟩:=nG hn
  have il:i < S.length:=by omega
  rw [gJ il]
  have tl:=gD (S:=S) (Ld:=Ld) i (by omega)
  generalize sdF S Ld i=td at tl
  generalize hnn:(S.length:Int) - 1 - (i:Int)=n
  have n0:0<=n:=by omega
  have n1:n < (S.length:Int):=by omega
  change WS _ _ [.im (ae (aO C)) S,.im (ae (ae ab)) Ld,.mu ab td,.im ab n] _ _
  have hat:cb Ld n=some (Ld.getD n.toNat []):=aY (xs:=Ld) (i:=n) [] n0 (by omega)
  have hm2:Ld.getD n.toNat []∈Ld:=by
   rw [List.getD_eq_getElem?_getD,List.getElem?_eq_getElem (show n.toNat < Ld.length by omega)]
   exact List.getElem_mem _
  refine ai (bq (TW.tv (cC (nZ (ba (aa 1 rfl) (aa 3 rfl) hat)) (λ_=>c9 (uG RW (eA (C:=C) HC (ba (aa 0 rfl) (aa 3 rfl) (aY (xs:=S) (i:=n) c6 n0 n1))))))) (λh=>?_) (λh=>aT ⟨.im ab n,?_⟩))
  ·have h:(Ld.getD n.toNat []).isEmpty=false/\bD (aH S n)=false:=by simpa [bD,aH] using h
   have hls:=hin _ hm2
   obtain ⟨l,r,hlr⟩:∃l r,Ld.getD n.toNat []=l::r:=by
    cases e:Ld.getD n.toNat [] with
    | nil=>rw [e] at h;exact absurd h.1 (by decide)
    | cons l r=>exact ⟨l,r,rfl⟩
   have e0:(Ld.getD n.toNat []).getD 0 0=l:=by rw [hlr];rfl
   have hl0:cb (Ld.getD n.toNat []) 0=some l:=by rw [hlr,lA (by decide) (by simp)];rfl
   obtain ⟨l0,l1⟩:=hls l (by rw [hlr];exact List.mem_cons_self)
   refine ai (qp 2 (y:=td.getD l.toNat 0) (j:=n.toNat) (va 2 (ba (ba (aa 1 rfl) (aa 3 rfl) hat) ev_int hl0) rfl rfl (aY (xs:=td) (i:=l) 0 l0 (by omega))) (aa 3 rfl) rfl rfl (uS n0 (by omega)) ⟨.im ab n,?_⟩)
   unfold kM
   rw [if_pos h,e0];rfl
  ·have h:¬((Ld.getD n.toNat []).isEmpty=false/\bD (aH S n)=false):=by
    intro z
    unfold bD at z
    unfold aH at z
    rw [z.1,z.2] at h
    exact absurd h (by decide)
   unfold kM
   rw [if_neg h]
 ·obtain ⟨e3,rfl⟩:=hΓ
  rw [eT,show ((S.length:Int) - 1 - -1).toNat=S.length by omega]
  exact ⟨e3,rfl⟩
 rintro _ ⟨e3,rfl⟩
 refine WS.freeze 2 rfl (aK (by rw [gD S.length (Nat.le_refl _)];omega)) ?_
 exact ai (aW (aa 2 rfl) rfl)
abbrev Rw:=Int×Int×Str×Str
def f9 (r:Rw):PV:=.tup [.int r.1,.int r.2.1,.str r.2.2.1,.str r.2.2.2]
def jj (Ld:List (List Int))(z:Int×ay):List (Str×Int):=((de fH z.2.kind).getD []).zip (Ld.getD z.1.toNat [])
def mJ (St:List Int)(z:Int×ay)(y:Str×Int):Rw:=(z.1,St.getD y.2.toNat 0,y.1,z.2.name)
def dW (Ld:List (List Int))(St:List Int)(z:Int×ay):List Rw:=(jj Ld z).map (mJ St z)
def g9 (S:List ay)(Ld:List (List Int))(St:List Int):List Rw:=(nums S).flatMap (dW Ld St)
theorem qA (Ld:List (List Int))(z:Int×ay):(jj Ld z).length<=2:=by
 unfold jj
 rw [List.length_zip]
 refine Nat.le_trans (Nat.min_le_left _ _) ?_
 unfold de
 split
 ·decide
 unfold de
 split
 ·decide
 unfold de
 split
 ·decide
 unfold de
 split
 ·decide
 ·exact Nat.zero_le _
theorem km {α β:Type}{f:α->List β}{n:Nat}(h:∀x,(f x).length<=n):∀xs:List α,(xs.flatMap f).length<=n * xs.length
 | []=>Nat.zero_le _
 | x::xs=>by
   rw [List.flatMap_cons,List.length_append,List.length_cons,Nat.mul_succ]
   have:=h x
   have:=km h xs
   omega
theorem lj (Ld:List (List Int))(St:List Int)(z:Int×ay):(dW Ld St z).length<=2:=by unfold dW;rw [List.length_map];exact qA Ld z
abbrev xy:Stmt:=top rF
abbrev nRI:List Str:=["steps","leads","stands","told","number","step","word","lead"]
abbrev EU:List Str:=["steps","leads","stands"]
theorem zO:aE nRI EU (ag xy):=⟨rfl,rfl,rfl,by decide +kernel,rfl,by decide +kernel,by decide +kernel⟩
def EO (C:Addr):cX:=λK ps T=>∃(S:List ay) (Ld:List (List Int)) (St:List Int),ps=[⟨ae (aO C),S⟩,⟨ae (ae ab),Ld⟩,⟨ae ab,St⟩]/\S.length<=1000/\o9 S Ld/\St.length=S.length/\T=cF K (ae au) (· =(g9 S Ld St).map f9)
theorem DK (M:cv K mg)(HC:bh K C fg)(RW:jd P w K mg "ROW_WORDS" fH)(F:bw K "rows_in" "rows_in" xy f fd)(hm:mg "rows_in"=some (.ref f))(hb:Binds K fd EU []):aG P w K mg base "rows_in" 1 (aP (EO C) K):=by
 have nd:=zO.nd
 refine bu F zO hm hb (λqs T ⟨_,_,_,e,_⟩=>by rw [e];rfl) (λcdv A outer s H E qs T hr hS=>?_)
 obtain ⟨S,Ld,St,rfl,hl,⟨hll,hin⟩,hst,rfl⟩:=hS
 change WS _ _ [.im (ae (aO C)) S,.im (ae (ae ab)) Ld,.im (ae ab) St,.no,.no,.no,.no,.no] _ _
 refine aj (cQ 3 (r:=au) (ys:=[]) (aL aN (Nat.zero_le _)) ?_)
 refine bL (N1:=λΓ=>∃e4 e5 e6 e7,Γ=[.im (ae (aO C)) S,.im (ae (ae ab)) Ld,.im (ae ab) St,.mu au ((g9 S Ld St).map f9),e4,e5,e6,e7]) (cj (λi Γ=>∃e4 e5 e6 e7,Γ=[.im (ae (aO C)) S,.im (ae (ae ab)) Ld,.im (ae ab) St,.mu au ((((nums S).take i).flatMap (dW Ld St)).map f9),e4,e5,e6,e7]) (gA M.enumerate (aa 0 rfl)) (eK 4 5) ⟨_,_,_,_,rfl⟩ (λi z Γ hz hΓ=>?_) (λΓ hΓ=>?_)) ?_
 ·obtain ⟨e4,e5,e6,e7,rfl⟩:=hΓ
  obtain ⟨n,nl,e1,e2⟩:=j4 (List.mem_of_getElem? hz)
  have il:i < S.length:=by have:=(List.getElem?_eq_some_iff.mp hz).1;rwa [cI] at this
  have fl:=km (lj Ld St) ((nums S).take i)
  have hti:((nums S).take i).length<=i:=by rw [List.length_take];omega
  have hnx:((nums S).take (i + 1)).flatMap (dW Ld St)=((nums S).take i).flatMap (dW Ld St)++dW Ld St z:=by
   rw [List.take_succ,hz,List.flatMap_append];simp
  rw [hnx]
  generalize ((nums S).take i).flatMap (dW Ld St)=rs at fl
  have rl:rs.length<=2000:=by omega
  obtain ⟨zn,zs⟩:=z
  dsimp only at e1 e2
  subst e1
  change WS _ _ [.im (ae (aO C)) S,.im (ae (ae ab)) Ld,.im (ae ab) St,.mu au (rs.map f9),.im ab (n:Int),.im (aO C) zs,e6,e7] _ _
  have hat:cb Ld (n:Int)=some (Ld.getD n []):=aY (xs:=Ld) (i:=(n:Int)) [] (by omega) (by omega)
  have hm2:Ld.getD n []∈Ld:=by
   rw [List.getD_eq_getElem?_getD,List.getElem?_eq_getElem (show n < Ld.length by omega)]
   exact List.getElem_mem _
  have hls:=hin _ hm2
  have hzl:=qA Ld ((n:Int),zs)
  have hzz:jj Ld ((n:Int),zs)=((de fH zs.kind).getD []).zip (Ld.getD n []):=rfl
  refine ai (cj (λj Γ=>∃e6 e7,Γ=[.im (ae (aO C)) S,.im (ae (ae ab)) Ld,.im (ae ab) St,.mu au ((rs++((jj Ld ((n:Int),zs)).take j).map (mJ St ((n:Int),zs))).map f9),.im ab (n:Int),.im (aO C) zs,e6,e7]) (yf M.zip (yO RW (eA (C:=C) HC (aa 5 rfl)) (p7 (xs:=[]) aN (Nat.zero_le _))) (ba (aa 1 rfl) (aa 4 rfl) hat)) (eK 6 7) ⟨e6,e7,by rw [List.take_zero,List.map_nil,List.append_nil]⟩ (λj y Γ hy hΓ=>?_) (λΓ hΓ=>?_))
  ·obtain ⟨e6,e7,rfl⟩:=hΓ
   rw [← hzz] at hy
   have hjl:j < (jj Ld ((n:Int),zs)).length:=(List.getElem?_eq_some_iff.mp hy).1
   have htj:(((jj Ld ((n:Int),zs)).take j).map (mJ St ((n:Int),zs))).length<=2:=by rw [List.length_map,List.length_take];omega
   have hnj:((jj Ld ((n:Int),zs)).take (j + 1)).map (mJ St ((n:Int),zs))=((jj Ld ((n:Int),zs)).take j).map (mJ St ((n:Int),zs))++[mJ St ((n:Int),zs) y]:=by
    rw [List.take_succ,hy,List.map_append];rfl
   rw [hnj]
   have hyl:y.2∈Ld.getD n []:=by
    rw [hzz] at hy
    exact (List.of_mem_zip (List.mem_of_getElem? hy)).2
   obtain ⟨y0,y1⟩:=hls y.2 hyl
   generalize ((jj Ld ((n:Int),zs)).take j).map (mJ St ((n:Int),zs))=ts at htj
   obtain ⟨yw,yl⟩:=y
   change WS _ _ [.im (ae (aO C)) S,.im (ae (ae ab)) Ld,.im (ae ab) St,.mu au ((rs++ts).map f9),.im ab (n:Int),.im (aO C) zs,.im af yw,.im ab yl] _ _
   refine ai (ft 3 (y:=f9 (mJ St ((n:Int),zs) (yw,yl))) (mm (aq (EV.pI (aa 4 rfl)) (aq (EV.pI (ba (aa 2 rfl) (aa 7 rfl) (aY (xs:=St) (i:=yl) 0 y0 (by omega)))) (aq (EV.pS (aa 6 rfl)) (aq (EV.pS (lh (C:=C) HC (aa 5 rfl))) aN)))) (by show 4<=sizeLine;decide)) rfl rfl (Nat.lt_of_le_of_lt (show _<=3000 by rw [List.length_map,List.length_append];omega) (by decide)) ⟨.im af yw,.im ab yl,?_⟩)
   rw [← List.append_assoc,List.map_append (l₁:=rs++ts)]
   rfl
  ·obtain ⟨e6,e7,rfl⟩:=hΓ
   refine ⟨.im ab (n:Int),.im (aO C) zs,e6,e7,?_⟩
   rw [← hzz,List.take_length]
   rfl
 ·obtain ⟨e4,e5,e6,e7,rfl⟩:=hΓ
  refine ⟨e4,e5,e6,e7,?_⟩
  rw [List.take_length];rfl
 rintro _ ⟨e4,e5,e6,e7,rfl⟩
 have fl:=km (lj Ld St) (nums S)
 rw [cI] at fl
 refine WS.freeze 3 rfl (aK (by rw [List.length_map];unfold g9;omega)) ?_
 exact ai (aW (aa 3 rfl) rfl)
end
structure iG where
 S:List ay
 parts:List iJ
 Ld:List (List Int)
 St:List Int
 rows:List Rw
abbrev d0:List Str:=["steps","parts","leads","stands","rows"]
theorem cz {x:Str}(h:decide (x∈d0)=true):x∈d0:=of_decide_eq_true h
def E8 (C:Addr)(s:iG):gN:=[("steps",(ae (aO C)).at_ s.S),("parts",(ae au).at_ (s.parts.map iB)),("leads",(ae (ae ab)).at_ s.Ld),("stands",(ae ab).at_ s.St),("rows",(ae au).at_ (s.rows.map f9))]
def a7 (C D:Addr):Rep iG:=⟨λK R v s=>∃x dx vs,v= .ref x/\R x=some (.ins D dx vs)/\d9 (E8 C s) K R vs,λs ⟨x,dx,vs,e,h1,h2⟩=>⟨x,dx,vs,e,s _ _ h1,h2.mono s⟩⟩
section
variable {X:Cx}{Γ Γ1:Ga}{C D:Addr}{e:Expr}{pos:Pos}{s:iG}
theorem sh (hC:bh X.K D d0)(he:EV X e Γ (a7 C D) s Γ1)(hb:attributeBase e "steps" X.env (eval e X.env)=eval e X.env:=by rfl):EV X (.Attribute e "steps" pos) Γ (ae (aO C)) s.S Γ1:=gu hC (cz (by decide)) he (λK R v ⟨x,dx,vs,e,h1,h2⟩=>by obtain ⟨u,q1,q2⟩:=h2.get (f:="steps") rfl;exact ⟨x,dx,vs,u,e,h1,q1,q2⟩) hb
theorem gq (hC:bh X.K D d0)(he:EV X e Γ (a7 C D) s Γ1)(hb:attributeBase e "parts" X.env (eval e X.env)=eval e X.env:=by rfl):EV X (.Attribute e "parts" pos) Γ (ae au) (s.parts.map iB) Γ1:=gu hC (cz (by decide)) he (λK R v ⟨x,dx,vs,e,h1,h2⟩=>by obtain ⟨u,q1,q2⟩:=h2.get (f:="parts") rfl;exact ⟨x,dx,vs,u,e,h1,q1,q2⟩) hb
theorem D2 (hC:bh X.K D d0)(he:EV X e Γ (a7 C D) s Γ1)(hb:attributeBase e "leads" X.env (eval e X.env)=eval e X.env:=by rfl):EV X (.Attribute e "leads" pos) Γ (ae (ae ab)) s.Ld Γ1:=gu hC (cz (by decide)) he (λK R v ⟨x,dx,vs,e,h1,h2⟩=>by obtain ⟨u,q1,q2⟩:=h2.get (f:="leads") rfl;exact ⟨x,dx,vs,u,e,h1,q1,q2⟩) hb
theorem DI (hC:bh X.K D d0)(he:EV X e Γ (a7 C D) s Γ1)(hb:attributeBase e "stands" X.env (eval e X.env)=eval e X.env:=by rfl):EV X (.Attribute e "stands" pos) Γ (ae ab) s.St Γ1:=gu hC (cz (by decide)) he (λK R v ⟨x,dx,vs,e,h1,h2⟩=>by obtain ⟨u,q1,q2⟩:=h2.get (f:="stands") rfl;exact ⟨x,dx,vs,u,e,h1,q1,q2⟩) hb
theorem rh (hC:bh X.K D d0)(he:EV X e Γ (a7 C D) s Γ1)(hb:attributeBase e "rows" X.env (eval e X.env)=eval e X.env:=by rfl):EV X (.Attribute e "rows" pos) Γ (ae au) (s.rows.map f9) Γ1:=gu hC (cz (by decide)) he (λK R v ⟨x,dx,vs,e,h1,h2⟩=>by obtain ⟨u,q1,q2⟩:=h2.get (f:="rows") rfl;exact ⟨x,dx,vs,u,e,h1,q1,q2⟩) hb
end
structure pK (S:List ay) (Ld:List (List Int)):Prop where
 l:S.length<=240
 ld:se S Ld
 li:o9 S Ld
 pt:∀n:Nat,n < S.length->aH S (n:Int)="part"->(bC (cR S) (n:Int)).isSome
def fG (S:List ay)(Ld:List (List Int)):iG:=⟨S,c5 S,Ld,cP S Ld,g9 S Ld (cP S Ld)⟩
def oF (x:Str)(S:List ay):Prop:=∃(ws:List Str) (n:Nat),x=Str.join " " ws/\ws≠[]/\ws.length<=240/\(∀w∈ws,dZ w)/\eo ws n ⟨[],[],0⟩ ⟨S,[],ws.length⟩
section
variable {P:Program}{w:World}{K:PySem.W.Frag}{mg:Str->Option Value}{base:Heap}{f:Addr}{fd:FuncData}{C D:Addr}
abbrev mY:Stmt:=match top wG with
 | .ClassDef _ _ _ b _ _ _ _ _ _ _=>b.getD 0 (.Pass ⟨0,0,0,0⟩)
 | s=>s
abbrev nC:List Str:=["self","text"]
theorem AW:aE nC nC (ag mY):=⟨rfl,rfl,rfl,by decide +kernel,rfl,by decide +kernel,by decide +kernel⟩
def E6 (C D0:Addr):uR:=λK D ps Pd=>D=D0/\∃(x:Str) (S:List ay) (Ld:List (List Int)),ps=[⟨af,x⟩]/\oF x S/\pK S Ld/\Pd=λfs=>fs=E8 C (fG S Ld)
theorem DS (HD:bh K D d0)(CR:aG P w K mg base "read" 3 (aP (Eu C) K))(CP:aG P w K mg base "parts_in" 2 (aP (EM C) K))(CL:aG P w K mg base "leads_in" 3 (aP (Ej C) K))(CS:aG P w K mg base "stands_in" 1 (aP (ED C) K))(CW:aG P w K mg base "rows_in" 1 (aP (EO C) K))(F:bw K "__init__" "Spots.__init__" mY f fd):cV P w K mg base dI 4 f fd nC (qZ (E6 C D) K):=by
 have nd:=AW.nd
 have CP:=CP.mono (show 2<=3 by decide)
 have CS:=CS.mono (show 1<=3 by decide)
 have CW:=CW.mono (show 1<=3 by decide)
 refine tK (k:=3) F AW (λD qs Pd ⟨_,_,_,_,e,_⟩=>by rw [e];rfl) (λcdv A outer st H E D' x dx qs Pd hr hS=>?_)
 obtain ⟨rfl,tx,S,Ld,rfl,⟨ws,n,et,hne,hl,hw,hsim⟩,hOk,rfl⟩:=hS
 have l1000:S.length<=1000:=by have:=hOk.l;omega
 change WS _ _ [.ob ((eD D').bx [x,dx] []),.im af tx] _ _
 refine aj (eO 0 HD (cz (by decide)) (aI (y:=S) (r:=ae (aO C)) CR hr (ah (aa 1 rfl) ax) ⟨ws,n,S,by rw [et],hne,hl,hw,hsim,rfl⟩) rfl rfl (by show 0 < 1000;decide) ?_)
 refine aj (eO 0 HD (cz (by decide)) (aI CP hr (ah (jb 0 HD (cz (by decide)) rfl rfl) ax) ⟨S,rfl,l1000,hOk.pt,rfl⟩) rfl rfl (by show 1 < 1000;decide) ?_)
 refine aj (eO 0 HD (cz (by decide)) (aI CL hr (ah (jb 0 HD (cz (by decide)) rfl rfl) ax) ⟨S,Ld,rfl,l1000,hOk.ld,rfl⟩) rfl rfl (by show 2 < 1000;decide) ?_)
 refine aj (eO 0 HD (cz (by decide)) (aI CS hr (ah (jb 0 HD (cz (by decide)) rfl rfl) (ah (jb 0 HD (cz (by decide)) rfl rfl) ax)) ⟨S,Ld,rfl,l1000,hOk.li,rfl⟩) rfl rfl (by show 3 < 1000;decide) ?_)
 exact ai (eO 0 HD (cz (by decide)) (aI CW hr (ah (jb 0 HD (cz (by decide)) rfl rfl) (ah (jb 0 HD (cz (by decide)) rfl rfl) (ah (jb 0 HD (cz (by decide)) rfl rfl) ax))) ⟨S,Ld,cP S Ld,rfl,l1000,hOk.li,gD S.length (Nat.le_refl _),rfl⟩) rfl rfl (by show 4 < 1000;decide) ⟨_,rfl,rfl⟩)
structure og (P:Program) (w:World) (K:PySem.W.Frag) (mg:Str->Option Value) (base:Heap) (C D:Addr):Prop where
 cl:bh K D d0
 ex:∃fi fdi,Mk K D fi/\cV P w K mg base dI 4 fi fdi nC (qZ (E6 C D) K)/\Binds K fdi nC []
 mg:mg "Spots"=some (.ref D)
theorem vk {X:Cx}{Γ Γ1:Ga}{C D:Addr}{e:Expr}{p pos:Pos}{x:Str}{S:List ay}{Ld:List (List Int)}(G:og X.prog X.w X.K X.mg X.base C D)(hr:bA 5 X.A)(ha:HA X [e] Γ [⟨af,x⟩] Γ1)(hx:oF x S)(hk:pK S Ld)
 (hg:Gl X "Spots":=by rfl) (he:starEach [e] X.env=(false,eval e X.env)::starEach [] X.env:=by rfl) (hpl:(backTo pos (starEach [] X.env)).any (·.1)=false:=by rfl):EV X (.Call (.Name "Spots" p) [e] [] pos) Γ (a7 C D) (fG S Ld) Γ1:=by
 obtain ⟨fi,fdi,MK,SI,bi⟩:=G.ex
 exact qD MK SI hr G.mg bi ha ⟨rfl,x,S,Ld,rfl,hx,hk,rfl⟩ (λfs R x dx vs hP h1 h2=>by subst hP;exact ⟨x,dx,vs,rfl,h2,h1⟩) hg (by decide) he hpl
end
end K1
namespace Fc
open PySem PySem.Spec L2
open PyProof.Rows hiding St
def EL (K:PySem.W.Frag)(a:Addr)(n:Nat):It:=
 ⟨λi H=>∃xs,aM K H a xs/\xs.length=n/\i < n,λi H x H'=>H'=H/\∀xs,aM K H a xs->xs[n - 1 - i]?=some x,λi _=>n<=i⟩
theorem vB {P:Program}{w:World}{K:PySem.W.Frag}{tg:Expr}(a it:Addr)(n:Nat):Turn P w K tg (EL K a n) [it] it (λi h=>i<=n/\h.IsRevIter it a ((n:Int) - 1 - (i:Int))) where
 mem:=by simp
 obj:=λi h st b hb=>by
  have e:b=it:=by simpa using hb
  subst e
  obtain ⟨_,o,e,c,d⟩:=st
  exact ⟨o,e,λv z=>by rw [d] at z;cases z⟩
 keep:=λi h h' st k=>⟨st.1,st.2.at λo e=>k it (by simp) o e⟩
 item:=by
  intro X hP hw hK hc i pins s σ H E I hf st hg
  subst hP hw hK
  obtain ⟨xs,hq,hl,hi⟩:=hg
  obtain ⟨its,rv,p,hz⟩:=I.list hq
  have hx:xs[n - 1 - i]?=some xs[n - 1 - i]:=List.getElem?_eq_getElem (by omega)
  obtain ⟨u,hu,ru⟩:=rv.get hx
  obtain ⟨f0,f1,f2,f3,f4,f5⟩:=hf it (by simp)
  have st0:s.heap.IsRevIter it a (((n - 1 - i:Nat)):Int):=by rw [show (((n - 1 - i:Nat)):Int)=(n:Int) - 1 - (i:Int) by omega];exact st.2
  refine wpAny_pyNext_rev_item st0 p.isList (x:=u) (by simpa using hu) λh' st' sb=>?_
  have I1:Inv X pins σ H {s with heap:=h'}:=I.turned (t':=s.toks) (λb o hb e=>(sb.2 b hb).trans e) f0 f1 f3 f4 f5
  have st2:h'.IsRevIter it a ((n:Int) - 1 - ((i + 1:Nat):Int)):=by rw [show (n:Int) - 1 - ((i + 1:Nat):Int)=(((n - 1 - i:Nat)):Int) - 1 by omega];exact st'
  obtain ⟨o,e,c,d⟩:=id st2
  exact ⟨u,rfl,jT (s:={s with heap:=h'}) e c d (by decide) ⟨_,H,I1,ru,⟨rfl,λys hy=>by rw [I.fq hy hq];exact hx⟩,⟨by omega,st2⟩,λb hb=>(hf b hb).1⟩⟩
 done:=by
  intro X hP hw hK hc i pins s σ H E I hf st hg
  subst hP hw hK
  obtain ⟨f0,f1,f2,f3,f4,f5⟩:=hf it (by simp)
  obtain ⟨hin,st⟩:=st
  have e:(n:Int) - 1 - (i:Int)= -1:=by have:n<=i:=hg;omega
  rw [e] at st
  exact wpAny_pyNext_rev_end (I.ok.hd hc) st λh' eb=>⟨rfl,I.turned (t':=s.toks) (λb o hb e=>eb b o hb e) f0 f1 f3 f4 f5⟩
 self:=λ_ _ _ _ _ st h=>wpAny_pyIter_revIter st.2 h
section
variable {X:Cx}{Γ Γ1 Γ2 Γ3:Ga}{α β γ δ:Type}{N:Ga->Prop}{T:RT}{tg:Expr}
variable {pos:Pos}{x:Str}{e:Expr}{p1:Pos}
def FP (K:PySem.W.Frag)(ta:TA):TI:=λσ H R=>ta σ H λvs H1=>∃a xs,vs=[.ref a]/\aM K H1 a xs/\R (EL K a xs.length) H1
theorem Cc {a:Expr}{ta:TA}{p:Pos}(hg:Gl X "reversed")(hm:X.mg "reversed"=none)(ha:PA X [a] ta)(hs:starEach [a] X.env=[(false,eval a X.env)]:=by rfl):PI X tg (.Call (.Name "reversed" p) [a] [] pos) (FP X.K ta):=by
 intro pins s σ H R I h
 refine Call_ (eW I hg hm PyProof.Rows.boot_reversed (PyProof.Rows.callWith_type1 (aF (ha pos pins s σ H _ I h) λus s1 ⟨vs,H1,I1,r1,q1⟩=>?_) hs rfl))
 obtain ⟨l,xs,e,hq,q⟩:=q1
 subst e
 cases r1 with
 | cons r rr=>
   cases rr
   cases r
   obtain ⟨its,rv,pl,hz⟩:=I1.list hq
   have hl:=rv.length
   refine call_reversed_list pl.isList ?_
   have I2:Inv X pins σ H1 {s1 with heap:=s1.heap.push (revObj l ((its.toArray.size:Int) - 1))}:=I1.kept (t':=s1.toks) λb o e=>Heap.get?_push_of_some _ e
   have it0:(s1.heap.push (revObj l ((its.toArray.size:Int) - 1))).IsRevIter s1.heap.objs.size l ((xs.length:Int) - 1 - ((0:Nat):Int)):=⟨_,Heap.get?_push_size _ rfl,rfl,by
    rw [show ((xs.length:Int) - 1 - ((0:Nat):Int))=((its.toArray.size:Int) - 1) by simp;omega];rfl⟩
   refine wpAny_pyIter_revIter it0 ?_
   refine ⟨s1.heap.objs.size,[s1.heap.objs.size],_,_,H1,rfl,I2,vB l _ xs.length,⟨Nat.zero_le _,it0⟩,λb hb=>?_,q⟩
   have e:b=s1.heap.objs.size:=by simpa using hb
   subst e
   exact I1.eR (Nat.le_refl _) (I1.hok.fresh (Nat.le_refl _))
theorem AV {a:Expr}{p:Pos}{r:Rep α}{xs:List α}(hm:X.mg "reversed"=none)(ha:EV X a Γ (ae r) xs Γ1)(hs:starEach [a] X.env=[(false,eval a X.env)]:=by rfl)(hg:Gl X "reversed":=by rfl):IV X tg (.Call (.Name "reversed" p) [a] [] pos) Γ r xs.reverse Γ1:=by
 refine ⟨_,Cc hg hm (aR aJ bt hs) hs,λσ H0 R0 H R E Rq q=>ha σ H0 R0 H R E _ λv H1 R1 E1 s1 e1=>?_⟩
 obtain ⟨a,vs,rfl,hp,pp,z⟩:=e1
 have hvl:=pp.length
 refine ⟨a,vs,rfl,aM.of (E1.sub _ _ hp),q _ H1 R1 E1 s1 (by rw [List.length_reverse];exact z) λH' R' sR sH i=>⟨λx hx=>?_,λhi=>?_⟩⟩
 ·have hq:aM X.K H' a vs:=aM.of (sH _ _ (sR _ _ hp))
  have hi:i < xs.length:=by have:=(List.getElem?_eq_some_iff.mp hx).1;rwa [List.length_reverse] at this
  rw [List.getElem?_reverse hi] at hx
  obtain ⟨v,hv,hr⟩:=cT pp hx
  refine ⟨⟨vs,hq,rfl,by omega⟩,λv' H2 hy=>?_⟩
  obtain ⟨rfl,hy⟩:=hy
  have:=hy vs hq
  rw [show vs.length - 1 - i=xs.length - 1 - i by omega,hv] at this
  cases this
  exact ⟨R',Ext.refl sH,r.mono sR hr⟩
 ·rw [List.length_reverse] at hi
  show vs.length<=i
  omega
theorem sy (i:Nat){ap cp:Pos}{r:Rep α}{xs ys:List α}(he:EV X e Γ (ae r) ys Γ1)(hΓ:Γ[i]?=some (.mu r xs))(hΓ1:Γ1[i]?=some (.mu r xs))(hz:xs.length + ys.length<=sizeLine)(h:N (Γ1.set i (.mu r (xs++ys))))
 (hN:X.N[i]?=some x:=by rfl) (hv:cy X.env.scope x:=by first | exact Or.inl rfl | exact Or.inr (Or.inl rfl) | exact Or.inr (Or.inr rfl))
 (hd:(x==("__debug__":Str))=false:=by decide) (hcd:(x==("__classdict__":Str))=false:=by decide)
 (hsw:swapsWith (.Call (.Attribute (.Name x p1) "extend" ap) [e] [] cp) none pos.line X.env=pure false:=by rfl)
 (hbase:attributeBase (.Name x p1) "extend" X.env (eval (.Name x p1) X.env)=eval (.Name x p1) X.env:=by rfl)
 (hfew:((backTo cp (starEach [e] X.env)).all (λx=> !x.1)&&(backToKw cp (keywordEach [] X.env)).all (λx=>x.1.isSome)
  &&decide ([e].length + ([]:List Keyword).length + (if ([]:List Keyword).isEmpty then 0 else 1) < 30))=true:=by rfl)
 (hline:(ap.endLine==cp.line)=true:=by rfl) (hs:starEach [e] X.env=(false,eval e X.env)::starEach [] X.env:=by rfl):W1 X (.Expr (.Call (.Attribute (.Name x p1) "extend" ap) [e] [] cp) pos) Γ N T:=λσ H0 R0 H R E D dn dr=>by
 obtain ⟨a,vs,ea,ha,hR,pp⟩:=E.ent i _ hΓ
 refine sS (gx (iT PySem.F.plainAttrs_list PySem.F.slot_list_extend PySem.F.type_list_extend sL (bc hN hv hd hcd) (aR aJ bt hs) hbase hfew hline hs rfl) hsw) ?_
 refine ⟨.ref a,at_of ea,.inl ⟨rfl,vs,aM.of ha⟩,he σ H0 R0 H R E _ λu H1 R1 E1 s1 e1=>?_⟩
 obtain ⟨b,ws,rfl,hb,pw,hw⟩:=e1
 obtain ⟨a',vs',ea',ha',hR',pp'⟩:=E1.ent i _ hΓ1
 rw [ea] at ea';cases ea'
 refine ⟨a,b,vs',ws,rfl,rfl,ha',E1.sub _ _ hb,by rw [pp'.length,pw.length];exact hz,?_⟩
 exact dn σ _ R1 _ (E1.upd (en:=.mu r (xs++ys)) hΓ1 rfl ea hR' ⟨a,_,rfl,av,hR',dw pp' pw⟩) s1 h
theorem qt {d:Expr}{kvs:List (Int×V)}{k:Int}(hu:X.A.units + 1 < cLine)(he:EV X e Γ ab k Γ1)(hd:EV X d Γ1 eX kvs Γ2)(hm:behindInMarks .NotIn d=false:=by first | exact pJ _ | with_unfolding_all rfl):TV X (.Compare e [.NotIn] [d] pos) Γ (!fA kvs k) Γ2:=by
 intro σ H0 R0 H R E Q q
 refine tS (jJ (jx hu aJ aJ) hm) (he σ H0 R0 H R E _ λv H1 R1 E1 s1 e1=>hd σ H0 R0 H1 R1 E1 _ λu H2 R2 E2 s2 e2=>?_)
 cases e1
 obtain ⟨p,rfl,hp⟩:=e2
 refine ⟨p,_,rfl,eY.k (k:=Sum.inl k) (E2.sub _ _ hp),_,rfl,?_⟩
 rw [lI]
 exact q H2 R2 E2 (s1.trans s2)
abbrev oq (ks:List Str):List (Key×V):=ks.map λk=>(Sum.inr k,V.bl true)
def kj (a:Addr)(ks:List Str):qi where
 fp:=[a]
 R:=λK H R v=>v= .ref a/\H a=some (.dK (oq ks))
 loc:=λhH hR ⟨e,h1⟩=>⟨e,(hH a (by simp)).trans h1⟩
 has:=λ⟨e,h1⟩ b hb=>by rw [List.mem_singleton.mp hb,h1];exact Option.some_ne_none _
theorem WS.De (i:Nat){sts:List Stmt}(hΓ:Γ[i]?=some (.di []))(h:∀a,WS X sts (Γ.set i (.ob (kj a []))) N T):WS X sts Γ N T:=λσ H0 R0 H R E D dn dr=>by
 obtain ⟨a,ea,ha,hR⟩:=E.ent i _ hΓ
 refine h a σ H0 R0 H R (E.tell hΓ ⟨⟨.ref a,ea,rfl,ha⟩,λb hb=>?_⟩ λb w=>?_) D dn dr
 ·rw [List.mem_singleton.mp hb];exact hR
 ·rw [show b=a from List.mem_singleton.mp w];exact bR.mpr ea
theorem vL (k:Str):∀ks:List Str,b0 (oq ks) (Sum.inr k:Key)=if k∈ks then some (.bl true) else none
 | []=>rfl
 | x::ks=>by
   by_cases e:x=k
   ·show b0 ((Sum.inr x,V.bl true)::oq ks) _=_
    rw [cD (p:=((Sum.inr x:Key),V.bl true)) (by rw [e]),if_pos (by rw [e];exact List.mem_cons_self)]
   ·show b0 ((Sum.inr x,V.bl true)::oq ks) _=_
    rw [ck (p:=((Sum.inr x:Key),V.bl true)) (λz=>e (Sum.inr.inj z)),vL k ks]
    by_cases h:k∈ks
    ·rw [if_pos h,if_pos (List.mem_cons_of_mem _ h)]
    ·rw [if_neg h,if_neg λz=>by rcases List.mem_cons.mp z with q | q;exact e q.symm;exact h q]
theorem yv (i:Nat){ke ve:Expr}{p2:Pos}{a:Addr}{ks:List Str}{k:Str}(hu:X.A.units + 1 < cLine)(hk:EV X ke Γ af k Γ)(hv:PE X ve (tC (.bl true)))(hΓ:Γ[i]?=some (.ob (kj a ks)))(hn:k∉ks)(hz:ks.length < sizeLine)(h:N (Γ.set i (.ob (kj a (ks++[k])))))
 (hN:X.N[i]?=some x:=by rfl) (hvi:cy X.env.scope x:=by first | exact Or.inl rfl | exact Or.inr (Or.inl rfl) | exact Or.inr (Or.inr rfl))
 (hd:(x==("__debug__":Str))=false:=by decide) (hcd:(x==("__classdict__":Str))=false:=by decide)
 (hs:swapsWith ve (some (.Subscript (.Name x p1) ke p2)) pos.line X.env=pure false:=by rfl):W1 X (.Assign [.Subscript (.Name x p1) ke p2] ve pos) Γ N T:=λσ H0 R0 H R E D dn dr=>by
 refine sS (lS hu (bc hN hvi hd hcd) aJ hv hs) ?_
 obtain ⟨⟨v,ea,rfl,ha⟩,hR⟩:=E.ent i _ hΓ
 refine ⟨.ref a,at_of ea,hk σ H0 R0 H R E _ λu H1 R1 E1 s1 e1=>?_⟩
 obtain ⟨⟨v,ea',rfl,ha'⟩,hR'⟩:=E1.ent i _ hΓ
 cases e1
 refine ⟨a,_,rfl,kx.k (k:=Sum.inr k) ha' (by rw [List.length_map];exact hz),?_⟩
 rw [kq (.bl true) (by rw [vL,if_neg hn])]
 have e:oq ks++[((Sum.inr k:Key),V.bl true)]=oq (ks++[k]):=by unfold oq;rw [List.map_append];rfl
 rw [e]
 exact dn σ _ R1 _ (E1.me (en:=.ob (kj a (ks++[k]))) hΓ (a:=a) (by show a∈[a];simp) ⟨⟨.ref a,ea',rfl,av⟩,hR'⟩ λc w=>.inl w) s1 h
theorem wC (i:Nat){a:Addr}{ks:List Str}{k:Str}(hu:X.A.units + 1 < cLine)(he:EV X e Γ af k Γ)(hΓ:Γ[i]?=some (.ob (kj a ks)))(hN:X.N[i]?=some x:=by rfl)(hv:cy X.env.scope x:=by first | exact Or.inl rfl | exact Or.inr (Or.inl rfl) | exact Or.inr (Or.inr rfl))
 (hd:(x==("__debug__":Str))=false:=by decide) (hcd:(x==("__classdict__":Str))=false:=by decide):TV X (.Compare e [.NotIn] [.Name x p1] pos) Γ (!decide (k∈ks)) Γ:=by
 intro σ H0 R0 H R E Q q
 refine tS (jJ (jx hu aJ (bc hN hv hd hcd)) (by with_unfolding_all rfl)) (he σ H0 R0 H R E _ λv H1 R1 E1 s1 e1=>?_)
 obtain ⟨⟨v,ea,rfl,ha⟩,hR⟩:=E1.ent i _ hΓ
 cases e1
 refine ⟨.ref a,at_of ea,a,_,rfl,eY.k (k:=Sum.inr k) ha,_,rfl,?_⟩
 rw [vL]
 have e:(if k∈ks then some (V.bl true) else none).isSome=decide (k∈ks):=by by_cases h:k∈ks<;>simp [h]
 rw [e]
 exact q H1 R1 E1 s1
end
section
variable {prog:Program}{w:World}{K:Type} [DecidableEq K]{knd:KeyKind prog w K}{A:Around}{E:Value->Shared->Prop}{s:Shared}
theorem vM {d:Addr}{kvs:List (K×Value)}{k:K}{key dflt:Value}{Q:Value->Shared->Prop}(hkey:knd.is k key=true)(hm:s.heap.DictOf knd d kvs)
 (hthere:∀v,valueAt kvs k=some v->Q v {s with toks:=s.toks + 1})
 (hnew:valueAt kvs k=none->∀h',h'.DictOf knd d (stored kvs k dflt)->Heap.SameBut d s.heap h'->Q dflt {s with heap:=h',toks:=s.toks + 1})
 (hsz:kvs.length<=sizeLine):wpAny (model prog w) A (dictSetDefault d key dflt) Q E s:=by
 have hmap:=hm.mapOf
 obtain ⟨o,es,ep,ho,hc,hd,hk,hp,hn⟩:=hm
 have hes:es.size<=sizeLine:=by
  have e1:=hp.length
  have e2:es.toList.length=es.size:=by simp
  omega
 obtain ⟨o2,es2,ep2,ho2,hc2,hd2,hk2,hf⟩:=hmap
 rw [ho] at ho2;cases ho2
 rw [hd] at hd2;cases hd2
 unfold dictSetDefault
 try with_reducible refine wpAny_holding ?_
 refine wpAny_bind (knd.pyHash hkey ?_)
 refine wpAny_bind (wpAny_dictFind_of (s:={s with toks:=s.toks + 1}) hkey ho hd hk ?_)
 have hidx:(es.findIdx? λe=>knd.is k e.key)=kvs.findIdx? λkv=>decide (kv.1=k):=by
  rw [← hp.findIdx k];obtain ⟨l⟩:=es;simp
 cases hi:es.findIdx? λe=>knd.is k e.key with
 | some i=>
   have hfk:valueAt kvs k=(es[i]?).map (·.val):=by rw [← hf k,findBy_of_findIdx?,hi]
   refine wpAny_bind (wpAny_dictEntries (s:={s with toks:=s.toks + 1}) ho hd ?_)
   cases he:es[i]? with
   | none=>
     exfalso
     have:=Array.findIdx?_eq_some_iff_findIdx_eq.mp hi
     have hlt:i < es.size:=this.1
     rw [Array.getElem?_eq_getElem hlt] at he
     exact nomatch he
   | some e=>
     rw [he] at hfk
     exact wpAny_bind (wpAny_rule (wpAny_pure (hthere e.val hfk)))
 | none=>
   have hfk:valueAt kvs k=none:=by rw [← hf k,findBy_of_findIdx?,hi]
   have hnot:k∉kvs.map (·.1):=not_mem_of_findIdx_none (hidx▸hi)
   have hany:¬(kvs.any λkv=>decide (kv.1=k))=true:=by
    rw [List.any_eq_true];rintro ⟨kv,hkv,he⟩
    exact hnot (List.mem_map.mpr ⟨kv,hkv,of_decide_eq_true he⟩)
   refine wpAny_bind (wpAny_rule (wpAny_bind (wpAny_updateDictKeys (hz:=hes) (s:={s with toks:=s.toks + 1}) ho hd (wpAny_pure (hnew hfk _ ⟨_,_,ep + 1,Heap.get?_update_self _ ho (Obj.isFreed_of_dict (Obj.data_mapDictKeys hd _)),
    hc.mapDictKeys _,Obj.data_mapDictKeys hd _,hk.push hkey _,?_,?_⟩ (Heap.SameBut.update ..))))))
   ·rw [stored,if_neg hany]
    have:=hp.append hkey (knd.hash k) dflt
    obtain ⟨l⟩:=es
    simpa using this
   ·rw [stored,if_neg hany,List.map_append,List.nodup_append]
    refine ⟨hn,by simp,?_⟩
    intro a ha b hb
    simp only [List.map_cons,List.map_nil,List.mem_singleton] at hb
    subst hb
    exact λe=>hnot (e▸ha)
theorem wa {d:Addr}{kvs:List (K×Value)}{k:K}{key:Value}(hkey:knd.is k key=true)(hd:(d==sysModules)=false)(dflt:Value)(hsz:kvs.length<=sizeLine):
 MeetsIn prog w (Builtin.«dict.setdefault» ⟨[.ref d,key,dflt],[]⟩) (λ_ R s=>s.heap.DictOf knd d kvs/\
  (∀v,valueAt kvs k=some v->R (.ok (.ret v)) {s with toks:=s.toks + 1})/\
  (valueAt kvs k=none->∀h',h'.DictOf knd d (stored kvs k dflt)->Heap.SameBut d s.heap h'->R (.ok (.ret dflt)) {s with heap:=h',toks:=s.toks + 1})):=
 .of_wp λA R s ⟨hm,h1,h2⟩=>by
  unfold Builtin.«dict.setdefault»
  refine wpAny_bind ?_
  unfold Builtin.Dict.keyAndDefault
  refine wpAny_bind (wpAny_notOrdered_dict hm.mapOf.typeIs ?_)
  show wpAny _ _ (pure (d,key,some dflt)) _ _ s
  refine wpAny_pure ?_
  show wpAny _ _ (if (d==sysModules)=true then _ else (dictSetDefault d key dflt >>=_)) _ _ s
  rw [if_neg (by rw [hd];exact Bool.false_ne_true)]
  exact wpAny_bind (vM hkey hm (λv hv=>wpAny_pure ⟨v,rfl,h1 v hv⟩) (λhn h' hm' hs'=>wpAny_pure ⟨dflt,rfl,h2 hn h' hm' hs'⟩) hsz)
end
section
variable {X:Cx}{Γ Γ1 Γ2 Γ3:Ga}{α β γ δ:Type}{N:Ga->Prop}{T:RT}{tg:Expr}
variable {x:Str}{pos:Pos}
def Dt:V->List V->Hp->VK->Prop:=λx vs H Q=>∃(a:Addr) (F:List (Int×Int)) (k v:Int),x= .ref a/\vs=[.int k,.int v]/\H a=some (.dK (bH (bW F)))/\F.length < sizeLine/\∀u,Q u (if (bC F k).isSome then H else upd H a (.dK (bH (bW (F++[(k,v)])))))
theorem yH:uE X "dict.setdefault" Dt:=by
 intro pins s σ H x vs u us Q I rx rv h
 obtain ⟨a,F,k,v,rfl,rfl,hH,hz,q⟩:=h
 cases rx
 obtain ⟨u1,u2,rfl,⟨t,rfl⟩,⟨t2,rfl⟩⟩:=vals2 rv
 obtain ⟨z,hd,kvs,rel,dd⟩:=rA I.hok hH
 have hzl:kvs.length<=sizeLine:=by rw [← rel.length];exact z
 have hval:=rel.val (Sum.inl k:Key)
 rw [iK] at hval
 refine call_meetsIn PySem.F.slot_dict_setdefault dd.typeIs PySem.F.entry_dict_setdefault (PySem.F.args_dict_setdefault_3 _ _ _) (wa (knd:=bB X.prog X.w) (kvs:=kvs) (gk (k:=Sum.inl k) (u:=.int k t) ⟨t,rfl⟩) hd (.int v t2) hzl) ⟨dd,λw' hw=>?_,λhn h' dd' hs=>?_⟩
 ·cases e:bC F k with
  | none=>rw [e,hw] at hval;cases hval
  | some y=>
    rw [e,hw] at hval
    have:=q (.int y)
    rw [e,if_pos (show (some y).isSome=true from rfl)] at this
    exact ⟨.int y,H,I.tok _,hval,this⟩
 ·cases e:bC F k with
  | some y=>rw [e,hn] at hval;cases hval
  | none=>
    have:=q (.int v)
    rw [e,if_neg (by decide)] at this
    have hput:putK (bH (bW F)) (Sum.inl k:Key) (.int v)=bH (bW (F++[(k,v)])):=by
     rw [pD];unfold i9;rw [e,if_neg (by decide)]
    have hl:(bH (bW (F++[(k,v)]))).length<=sizeLine:=by unfold bH bW;simp;omega
    refine ⟨.int v,_,jR I (by rw [hH];exact True.intro) hs (let ⟨q,_,_,hq,_⟩:=dd';⟨q,hq⟩) (pH hl hd ?_ dd'),⟨t2,rfl⟩,this⟩
    rw [← hput]
    exact rel.put (Sum.inl k:Key) ⟨t2,rfl⟩
theorem set_same.{u}{A:Type u}{l:List A}{i:Nat}{x:A}(h:l[i]?=some x):l.set i x=l:=by
 refine List.ext_getElem? λj=>?_
 by_cases e:i=j
 ·subst e;rw [List.getElem?_set_self (List.getElem?_eq_some_iff.mp h).1,h]
 ·rw [List.getElem?_set_ne e]
theorem Co (i:Nat){e f:Expr}{p1 ap cp:Pos}{F:List (Int×Int)}{k v:Int}(he:EV X e Γ ab k Γ)(hf:EV X f Γ ab v Γ)(hΓ:Γ[i]?=some (.di (bW F)))(hz:F.length < sizeLine)(h:N (Γ.set i (.di (bW (if (bC F k).isSome then F else F++[(k,v)])))))
 (hN:X.N[i]?=some x:=by rfl) (hv:cy X.env.scope x:=by first | exact Or.inl rfl | exact Or.inr (Or.inl rfl) | exact Or.inr (Or.inr rfl))
 (hd:(x==("__debug__":Str))=false:=by decide) (hcd:(x==("__classdict__":Str))=false:=by decide)
 (hsw:swapsWith (.Call (.Attribute (.Name x p1) "setdefault" ap) [e,f] [] cp) none pos.line X.env=pure false:=by rfl)
 (hbase:attributeBase (.Name x p1) "setdefault" X.env (eval (.Name x p1) X.env)=eval (.Name x p1) X.env:=by rfl)
 (hfew:((backTo cp (starEach [e,f] X.env)).all (λx=> !x.1)&&(backToKw cp (keywordEach [] X.env)).all (λx=>x.1.isSome)
  &&decide ([e,f].length + ([]:List Keyword).length + (if ([]:List Keyword).isEmpty then 0 else 1) < 30))=true:=by rfl)
 (hline:(ap.endLine==cp.line)=true:=by rfl) (hs:starEach [e,f] X.env=(false,eval e X.env)::starEach [f] X.env:=by rfl) (hs2:starEach [f] X.env=(false,eval f X.env)::starEach [] X.env:=by rfl) (hpl:(backTo cp (starEach [f] X.env)).any (·.1)=false:=by rfl):
 W1 X (.Expr (.Call (.Attribute (.Name x p1) "setdefault" ap) [e,f] [] cp) pos) Γ N T:=λσ H0 R0 H R E D dn dr=>by
 obtain ⟨a,ea,ha,hR⟩:=E.ent i _ hΓ
 refine sS (gx (iT PySem.F.plainAttrs_dict PySem.F.slot_dict_setdefault PySem.F.type_dict_setdefault yH (bc hN hv hd hcd) (aR aJ (aR aJ bt hs2) hs) hbase hfew hline hs hpl) hsw) ?_
 refine ⟨.ref a,at_of ea,.inr (.inr (.inl ⟨rfl,.inl ⟨_,ha⟩⟩)),he σ H0 R0 H R E _ λv1 H1 R1 E1 s1 q1=>hf σ H0 R0 H1 R1 E1 _ λv2 H2 R2 E2 s2 q2=>?_⟩
 cases q1
 cases q2
 obtain ⟨a',ea',ha',hR'⟩:=E2.ent i _ hΓ
 rw [ea] at ea';cases ea'
 refine ⟨a,F,k,v,rfl,rfl,ha',hz,λu=>?_⟩
 cases q:(bC F k).isSome with
 | true=>
   rw [q,if_pos rfl] at h
   rw [if_pos rfl]
   refine dn σ H2 R2 _ E2 (s1.trans s2) ?_
   rwa [set_same hΓ] at h
 | false=>
   rw [q,if_neg (by decide)] at h
   rw [if_neg (by decide)]
   exact dn σ _ R2 _ (E2.upd (en:=.di (bW (F++[(k,v)]))) hΓ rfl ea hR' ⟨a,rfl,av,hR'⟩) (s1.trans s2) h
def kW (X:Cx)(e:Expr)(Γ:Ga)(k:Int):Prop:=∀(σ:St) (H0 R0 H R:Hp),ao X.K σ H0 R0 H R Γ->∀(H':Hp) (Q:VK),ak R H'->Q (.int k) H'->eP X e σ H' Q
theorem pQ (i:Nat){y:Int}(hΓ:Γ[i]?=some (.im ab y))(hN:X.N[i]?=some x:=by rfl)(hv:cy X.env.scope x:=by first | exact Or.inl rfl | exact Or.inr (Or.inl rfl) | exact Or.inr (Or.inr rfl))
 (hd:(x==("__debug__":Str))=false:=by decide) (hcd:(x==("__classdict__":Str))=false:=by decide):kW X (.Name x pos) Γ y:=λσ H0 R0 H R E H' Q s q=>by
 obtain ⟨v,e,h⟩:=E.ent i _ hΓ
 cases h
 exact eS (bc hN hv hd hcd) ⟨_,at_of e,q⟩
theorem yx (i:Nat){ke ve le ue:Expr}{p1 p2:Pos}{k l v u:Int}(hk:kW X ke Γ k)(hl:kW X le Γ l)(hv:PE X ve (tC (.int v)))(hu:PE X ue (tC (.int u)))(hkl:k≠l)(h:N (Γ.set i (.di (bW [(k,v),(l,u)]))))
 (hN:X.N.Nodup:=by first | assumption | decide) (hi:X.N[i]?=some x:=by rfl) (hx:Loc X.env.scope x:=by first | exact Or.inl rfl | exact Or.inr rfl)
 (hs:swapsWith (.Dict [some ke,some le] [ve,ue] p2) (some (.Name x p1)) pos.line X.env=pure false:=by rfl) (hf:X.fn x=true∨X.env.scope.names.lookup x=some .local:=by first | exact .inl rfl | exact .inr rfl):
 W1 X (.Assign [.Name x p1] (.Dict [some ke,some le] [ve,ue] p2) pos) Γ N T:=λσ H0 R0 H R E D dn dr=>by
 refine sS (iL hN hi hx (yX (oN aJ hv (oN aJ hu yd)) rfl rfl (by simp) (by simp)) hs hf) λp hp=>?_
 have sR:ak R (upd H p (.dK [])):=E.sub.trans (ak.fresh hp _)
 refine hk σ H0 R0 H R E _ _ sR ?_
 refine hl σ H0 R0 H R E _ _ sR ?_
 refine ⟨av,[(Sum.inl k,.int v),(Sum.inl l,.int u)],rfl,(by show 2<=15;decide),?_⟩
 have E1:=E.grow (Ext.dy E.sub hp (.dK (bH (bW [(k,v),(l,u)]))))
 have e:upd (upd H p (.dK [])) p (.dK (iF [] [(Sum.inl k,.int v),(Sum.inl l,.int u)]))=upd H p (.dK (bH (bW [(k,v),(l,u)]))):=by
  rw [xY]
  congr 2
  show putK [((Sum.inl k:Key),V.int v)] (Sum.inl l) (.int u)=_
  rw [kq (.int u) (by
   rw [ck (p:=((Sum.inl k:Key),V.int v)) (λz=>hkl (Sum.inl.inj z))];rfl)]
  rfl
 rw [e]
 exact dn _ _ R _ (E1.sr (u:=.dK (bH (bW [(k,v),(l,u)]))) (en:=.di (bW [(k,v),(l,u)])) i ⟨p,rfl,av,E.sub.free hp⟩ (E.ext.h.free hp) λj e _ q w=>E.off hp j e q w) (ak.refl _) h
theorem yN {iter:Expr}{xs:List PV}(hz:xs.length<=sizeLine)(h:EV X iter Γ au (.tup xs) Γ1):IV X tg iter Γ au xs Γ1:=by
 refine ⟨_,B0 aJ,λσ H0 R0 H R E Rq q=>h σ H0 R0 H R E _ λv H1 R1 E1 s1 e1=>?_⟩
 cases e1 with
 | @tup a vs _ hp pp=>
   have hq0:∀H' R':Hp,ak R1 R'->ak R' H'->cW X.K H' a vs:=λH' R' sR sH=>cW.of (sH _ _ (sR _ _ hp))
   refine ⟨a,rfl,⟨_,hq0 H1 R1 (ak.refl _) E1.sub⟩,q _ H1 R1 E1 s1 hz λH' R' sR sH i=>⟨λx hx=>?_,λhi=>⟨_,hq0 H' R' sR sH,by rw [pp.pair.length];exact hi⟩⟩⟩
   obtain ⟨v,hv,hr⟩:=cT pp.pair hx
   refine ⟨⟨_,_,hq0 H' R' sR sH,hv⟩,λv2 H2 hy=>?_⟩
   obtain ⟨rfl,hy⟩:=hy
   have:=hy _ (hq0 _ R' sR sH)
   rw [hv] at this
   cases this
   exact ⟨R',Ext.refl sH,hr.mono sR⟩
end
end Fc
namespace K1
open PySem L2 Fc
open PySem.Spec hiding Row
open PyProof.Rows hiding St
theorem A4 {α:Type}{xs:List α}{i:Nat}(h:i<=xs.length):cut xs none (some (i:Int))=xs.take i:=by
 have e:HT.sIx xs.length xs.length (some (i:Int))=i:=by
  show (if (i:Int) < 0 then ((i:Int) + (xs.length:Int)).toNat else min (i:Int).toNat xs.length)=i
  rw [if_neg (by omega)];omega
 unfold cut
 rw [e];rfl
theorem kS {α:Type}{xs:List α}{i:Nat}:cut xs (some (i:Int)) none=xs.drop i:=by
 have e:HT.sIx xs.length 0 (some (i:Int))=min i xs.length:=by
  show (if (i:Int) < 0 then ((i:Int) + (xs.length:Int)).toNat else min (i:Int).toNat xs.length)=_
  rw [if_neg (by omega)];rfl
 have e2:HT.sIx xs.length xs.length none=xs.length:=rfl
 unfold cut
 rw [e,e2]
 rcases Nat.lt_or_ge i xs.length with h | h
 ·rw [Nat.min_eq_left (by omega),List.take_of_length_le (by rw [List.length_drop];omega)]
 ·rw [Nat.min_eq_right h,List.drop_of_length_le (Nat.le_refl _),List.drop_of_length_le h,List.take_nil]
theorem lE:∀(n:Nat) (l:List Int),l.Nodup->(∀x∈l,0<=x/\x < (n:Int))->l.length<=n
 | 0,l,_,h=>by
   cases l with
   | nil=>exact Nat.le_refl _
   | cons x r=>have:=h x List.mem_cons_self;omega
 | n + 1,l,nd,h=>by
   by_cases q:(n:Int)∈l
   ·have:=lE n (l.erase (n:Int)) (nd.erase _) λx hx=>by
     have hm:=(nd.mem_erase_iff.mp hx)
     have:=h x hm.2
     have:=hm.1
     omega
    rw [List.length_erase_of_mem q] at this
    omega
   ·have:=lE n l nd λx hx=>by
     have:=h x hx
     have:x≠(n:Int):=λe=>q (e▸hx)
     omega
    omega
def fZ (F:List (Int×Int))(k:Int):List (Int×Int):=if (bC F k).isSome then F else F++[(k,(F.length:Int))]
def qM (p:iJ)(r:Rw):Bool:=decide (p.2.1 < r.1)&&decide (r.1 < p.2.2)
def gb (p:iJ)(F:List (Int×Int))(r:Rw):List (Int×Int):=if qM p r then fZ (fZ F r.1) r.2.1 else F
def iI (s:iG)(p:iJ):List (Int×Int):=s.rows.foldl (gb p) [(s.St.getD p.2.1.toNat 0,0),(p.2.2,1)]
def Reach (s:iG)(fd:List Int):Prop:=(∀p∈s.parts,p.2.1∈fd)/\∀n∈fd,∀l∈s.Ld.getD n.toNat [],l∈fd
structure Good (s:iG):Prop where
 l:s.S.length<=240
 pl:s.parts.length<=4
 pn:(s.parts.map (·.1)).Nodup
 pv:∀p∈s.parts,0<=p.2.1/\p.2.1 < (s.S.length:Int)
 li:o9 s.S s.Ld
 l2:∀ls∈s.Ld,ls.length<=2
 sl:s.St.length=s.S.length
 sn:((s.S.filter λt=>decide (t.kind=("part":Str))).map (·.name)).Nodup
 ca:∀(n:Nat) (t:ay),s.S[n]?=some t->t.kind="call"->∃(m:Nat) (u:ay),n < m/\s.S[m]?=some u/\u.kind="part"/\u.name=t.name
 ct:∀fd,Reach s fd->∀n:Nat,n < s.S.length->aH s.S (n:Int)∈sents->(n:Int)∈fd
 nc:∀p∈s.parts.drop 1,∃t∈s.S,t.kind="call"/\t.name=p.1
 eb:∀p∈s.parts,s.St.getD p.2.1.toNat 0≠p.2.2
 rl:s.rows.length<=30
 rk:∀r∈s.rows,(0<=r.1/\r.1 < (s.S.length:Int))/\aH s.S r.1∈sents
 pc:∀p∈s.parts,(iI s p).length<=16
def tT:PV->Str
 | .tup (.str x::_)=>x
 | _=>""
theorem tE (p:iJ):tT (iB p)=p.1:=rfl
section
variable {P:Program}{w:World}{K:PySem.W.Frag}{mg:Str->Option Value}{base:Heap}{f:Addr}{fd:FuncData}{C D:Addr}
abbrev uD:Stmt:=top nh
theorem BA:aE ["spots","parts"] ["spots","parts"] (ag uD):=⟨rfl,rfl,rfl,by decide +kernel,rfl,by decide +kernel,by decide +kernel⟩
def qk (C D:Addr):cX:=λK ps T=>∃s:iG,ps=[⟨a7 C D,s⟩,⟨ae au,[]⟩]/\T=cF K (ae ab) (· =[])
theorem DG (F:bw K "name_words" "name_words" uD f fd)(hm:mg "name_words"=some (.ref f))(hb:Binds K fd ["spots","parts"] []):aG P w K mg base "name_words" 1 (aP (qk C D) K):=by
 have nd:=BA.nd
 have ndc:List.Nodup [("part":Str),"spots"]:=by decide
 refine bu F BA hm hb (λqs T ⟨_,e,_⟩=>by rw [e];rfl) (λcdv A outer st H E qs T hr hS=>?_)
 obtain ⟨s,rfl,rfl⟩:=hS
 change WS _ _ [.im (a7 C D) s,.im (ae au) []] _ _
 exact ai (aW (aV.im (cE (own:=["part"]) (fr:=["spots"]) (ix:=[0]) (ra:=au) (rb:=ab) (p:=λ_=>true) (f:=λ_=>0) (cu (so:=ag uD) (N0:=["spots","parts"]) rfl rfl (λx h=>bG h) (by decide +kernel)) (cM (aa 1 rfl))
  (λC s H ex=>bg 0) (λx=>⟨.inr rfl,.inl rfl,trivial⟩) (λC' s H ex c hc=>fM) (λC' s H ex o ho _=>by cases ho))) rfl)
abbrev qR:Stmt:=top l6
abbrev Av:List Str:=["spots","names"]
theorem B2:aE Av ["spots"] (ag qR):=⟨rfl,rfl,rfl,by decide +kernel,rfl,by decide +kernel,by decide +kernel⟩
def fh (C D:Addr):cX:=λK ps T=>∃s:iG,ps=[⟨a7 C D,s⟩]/\Good s/\T=cF K (ae ab) (· =[])
theorem fV {α β:Type}{xs:List α}{p:α->Bool}{f:α->β}(h:∀x∈xs,p x=false):(xs.filter p).map f=[]:=by
 rw [List.filter_eq_nil_iff.mpr λx hx=>by rw [h x hx];decide];rfl
theorem yt {xs:List Str}(h:xs.Nodup){i:Nat}{x:Str}(hx:xs[i]?=some x):x∉xs.take i:=by
 intro hm
 obtain ⟨j,hj⟩:=List.mem_iff_getElem?.mp hm
 obtain ⟨jl,ej⟩:=List.getElem?_eq_some_iff.mp hj
 obtain ⟨il,ei⟩:=List.getElem?_eq_some_iff.mp hx
 rw [List.length_take] at jl
 rw [List.getElem_take] at ej
 have:=(List.getElem_inj (h₀:=by omega) (h₁:=il) h).mp (ej.trans ei.symm)
 omega
theorem Dv (M:cv K mg)(HD:bh K D d0)(CN:aG P w K mg base "name_words" 1 (aP (qk C D) K))(F:bw K "named_again" "named_again" qR f fd)(hm:mg "named_again"=some (.ref f))(hb:Binds K fd ["spots"] []):aG P w K mg base "named_again" 2 (aP (fh C D) K):=by
 have nd:=B2.nd
 have ndc:List.Nodup [("part":Str)]:=by decide
 have ndc2:List.Nodup [("place":Str),"part","names"]:=by decide
 refine bu (k:=1) F B2 hm hb (λqs T ⟨_,e,_⟩=>by rw [e];rfl) (λcdv A outer st H E qs T hr hS=>?_)
 obtain ⟨s,rfl,hG,rfl⟩:=hS
 change WS _ _ [.im (a7 C D) s,.no] _ _
 have hnm:((s.parts.map iB).filter λ_=>true).map tT=s.parts.map (·.1):=by rw [List.filter_eq_self.mpr λ_ _=>rfl,List.map_map];rfl
 refine aj (aZ 1 (y:=s.parts.map (·.1)) (EV.cast (aV.im (cE (own:=["part"]) (fr:=[]) (ix:=[]) (ra:=au) (rb:=af) (p:=λ_=>true) (f:=tT) (cu (so:=ag qR) (N0:=Av) rfl rfl (λx h=>bG h) (by decide +kernel)) (cM (gq (C:=C) HD (aa 0 rfl)))
  (λC s H ex=>bg 0) (λx=>⟨.inr rfl,trivial⟩) (λC' s H ex c hc=>fM) (λC' s H ex o ho _=>by
   obtain ⟨p,_,rfl⟩:=List.mem_map.mp ho
   exact EV.sP (x:=p.1) (dP (aa 0 rfl) ev_int rfl)))) hnm) ?_)
 change WS _ _ [.im (a7 C D) s,.im (ae af) (s.parts.map (·.1))] _ _
 refine ai (aW (y:=([]:List Int)) (aI CN hr (ah (aa 0 rfl) (ah (x:=([]:List PV)) (EV.cast (aV.im (cE (own:=["place","part"]) (fr:=["names"]) (ix:=[1]) (ra:=fD ab au) (rb:=au) (p:=λz=>decide (tT z.2∈cut (s.parts.map (·.1)) none (some z.1))) (f:=λz=>z.2) (cu (so:=ag qR) (N0:=Av) rfl rfl (λx h=>bG h) (by decide +kernel)) (gA M.enumerate (gq (C:=C) HD (aa 0 rfl)))
  (λC s H ex=>eK 0 1) (λx=>⟨.inr rfl,.inr rfl,.inl rfl,trivial⟩) (λC' s H ex z hz=>?_) (λC' s H ex z hz _=>aa 1 rfl))) ?_) ax)) ⟨s,rfl,rfl⟩) rfl)
 ·obtain ⟨i,hi⟩:=List.mem_iff_getElem?.mp hz
  obtain ⟨e1,e2⟩:=eM hi
  rw [List.getElem?_map] at e2
  obtain ⟨p,_,ep⟩:=Option.map_eq_some_iff.mp e2
  obtain ⟨zn,zp⟩:=z
  dsimp only at e1 ep
  subst ep
  exact fO (aA nR (EV.sP (x:=p.1) (dP (aa 1 rfl) ev_int rfl)) (aV.im (hV (aa 2 rfl) ov_none (ov_some (aa 0 rfl)))))
 ·refine fV λz hz=>?_
  obtain ⟨i,hi⟩:=List.mem_iff_getElem?.mp hz
  obtain ⟨e1,e2⟩:=eM hi
  rw [List.getElem?_map] at e2
  obtain ⟨p,hp,ep⟩:=Option.map_eq_some_iff.mp e2
  rw [e1,← ep,tE]
  have il:=(List.getElem?_eq_some_iff.mp hp).1
  rw [A4 (by rw [List.length_map];omega)]
  exact decide_eq_false (yt hG.pn (by rw [List.getElem?_map,hp];rfl))
end
end K1
namespace Fc
open PySem PySem.Spec L2
open PyProof.Rows hiding St
section
variable {X:Cx}{Γ Γ1 Γ2 Γ3:Ga}{α β γ δ:Type}{N:Ga->Prop}{T:RT}
theorem wI (i:Nat){x:Str}{p p1 pos:Pos}{F:List (Int×Int)}(hm:X.mg "len"=none)(hΓ:Γ[i]?=some (.di (bW F)))(hN:X.N[i]?=some x:=by rfl)(hv:cy X.env.scope x:=by first | exact Or.inl rfl | exact Or.inr (Or.inl rfl) | exact Or.inr (Or.inr rfl))
 (hd:(x==("__debug__":Str))=false:=by decide) (hcd:(x==("__classdict__":Str))=false:=by decide) (hs:starEach [.Name x p1] X.env=[(false,eval (.Name x p1) X.env)]:=by rfl) (hg:Gl X "len":=by rfl):EV X (.Call (.Name "len" p) [.Name x p1] [] pos) Γ ab (F.length:Int) Γ:=by
 intro σ H0 R0 H R E Q q
 obtain ⟨a,ea,ha,hR⟩:=E.ent i _ hΓ
 refine eS (dk mS hg hm PySem.boot_len (aR (bc hN hv hd hcd) bt hs) (by decide) (by decide) hs) ⟨.ref a,at_of ea,a,_,rfl,ha,?_⟩
 unfold bH bW
 rw [List.length_map,List.length_map]
 exact q _ H R E (ak.refl _) rfl
end
end Fc
namespace K1
open PySem L2 Fc
open PySem.Spec hiding Row
open PyProof.Rows hiding St
section
variable {P:Program}{w:World}{K:PySem.W.Frag}{mg:Str->Option Value}{base:Heap}{f:Addr}{fd:FuncData}{C D:Addr}
abbrev xB:Stmt:=top ky
abbrev nCA:List Str:=["spots","found","behind","step"]
theorem As:aE nCA ["spots"] (ag xB):=⟨rfl,rfl,rfl,by decide +kernel,rfl,by decide +kernel,by decide +kernel⟩
def pnS (S:List ay):List Str:=(S.filter λt=>decide (t.kind=("part":Str))).map (·.name)
theorem iR (a b:List ay):pnS (a++b)=pnS a++pnS b:=by unfold pnS;rw [List.filter_append,List.map_append]
theorem zH {S:List ay}(h:(pnS S).Nodup):(pnS S.reverse).Nodup:=by
 unfold pnS at h ⊢
 rw [List.filter_reverse,List.map_reverse]
 exact List.pairwise_reverse.mpr (h.imp λz=>Ne.symm z)
theorem D7 (M:cv K mg)(HC:bh K C fg)(HD:bh K D d0)(F:bw K "called_astray" "called_astray" xB f fd)(hm:mg "called_astray"=some (.ref f))(hb:Binds K fd ["spots"] []):aG P w K mg base "called_astray" 1 (aP (fh C D) K):=by
 have nd:=As.nd
 refine bu F As hm hb (λqs T ⟨_,e,_⟩=>by rw [e];rfl) (λcdv A outer st H E qs T hr hS=>?_)
 obtain ⟨s,rfl,hG,rfl⟩:=hS
 have hu:=ru hr
 have hl:=hG.l
 have hnd:=zH (S:=s.S) hG.sn
 change WS _ _ [.im (a7 C D) s,.no,.no,.no] _ _
 refine aj (cQ 1 (r:=ab) (ys:=[]) (aL aN (Nat.zero_le _)) ?_)
 refine aj (lV 2 ?_)
 refine WS.De 2 rfl λa=>?_
 change WS _ _ [.im (a7 C D) s,.mu ab [],.ob (kj a []),.no] _ _
 refine bL (N1:=λΓ=>∃ks e3,Γ=[.im (a7 C D) s,.mu ab [],.ob (kj a ks),e3]) (cj (λi Γ=>∃e3,Γ=[.im (a7 C D) s,.mu ab [],.ob (kj a (pnS (s.S.reverse.take i))),e3]) (AV M.reversed (sh (C:=C) HD (aa 0 rfl))) (bg 3) ⟨_,rfl⟩ (λi t Γ ht hΓ=>?_) (λΓ hΓ=>?_)) ?_
 ·obtain ⟨e3,rfl⟩:=hΓ
  have il:i < s.S.length:=by have:=(List.getElem?_eq_some_iff.mp ht).1;rwa [List.length_reverse] at this
  have hnx:pnS (s.S.reverse.take (i + 1))=pnS (s.S.reverse.take i)++pnS [t]:=by rw [List.take_succ,ht,iR];rfl
  have hsub:(pnS (s.S.reverse.take (i + 1))).Nodup:=by
   have:pnS s.S.reverse=pnS (s.S.reverse.take (i + 1))++pnS (s.S.reverse.drop (i + 1)):=by rw [← iR,List.take_append_drop]
   rw [this] at hnd
   exact (List.nodup_append.mp hnd).1
  have hkl:(pnS (s.S.reverse.take i)).length<=240:=by
   unfold pnS
   rw [List.length_map]
   refine Nat.le_trans (List.length_filter_le _ _) ?_
   rw [List.length_take];omega
  have hcall:t.kind="call"->t.name∈pnS (s.S.reverse.take i):=λhk=>by
   rw [List.getElem?_reverse il] at ht
   obtain ⟨m,u,hm',hu',hk',hn'⟩:=hG.ca _ t ht hk
   have ml:=(List.getElem?_eq_some_iff.mp hu').1
   unfold pnS
   refine List.mem_map.mpr ⟨u,List.mem_filter.mpr ⟨List.mem_of_getElem? (i:=s.S.length - 1 - m) ?_,decide_eq_true hk'⟩,hn'⟩
   rw [List.getElem?_take,if_pos (by omega),List.getElem?_reverse (by omega),show s.S.length - 1 - (s.S.length - 1 - m)=m by omega]
   exact hu'
  rw [hnx]
  generalize pnS (s.S.reverse.take i)=ks at hnx hkl hcall
  rw [hnx] at hsub
  change WS _ _ [.im (a7 C D) s,.mu ab [],.ob (kj a ks),.im (aO C) t] _ _
  refine bL (N1:=λΓ=>Γ=[.im (a7 C D) s,.mu ab [],.ob (kj a (ks++pnS [t])),.im (aO C) t]) (bq (aA bS (eA (C:=C) HC (aa 3 rfl)) ar) (λh=>?_) (λh=>aT ?_)) ?_
  ·have h:t.kind="part":=of_decide_eq_true h
   have hp:pnS [t]=[t.name]:=by unfold pnS;rw [List.filter_cons_of_pos (by simpa using h)];rfl
   rw [hp] at hsub ⊢
   refine ai (yv 2 hu (lh (C:=C) HC (aa 3 rfl)) rW rfl (λz=>?_) (Nat.lt_of_le_of_lt hkl (by decide)) rfl)
   exact (List.nodup_append.mp hsub).2.2 t.name z t.name (List.mem_singleton.mpr rfl) rfl
  ·have h:¬t.kind="part":=of_decide_eq_false h
   have hp:pnS [t]=[]:=by unfold pnS;rw [List.filter_cons_of_neg (by simpa using h)];rfl
   rw [hp,List.append_nil]
  rintro _ rfl
  refine ai (bq (TW.tv (cC (aA bS (eA (C:=C) HC (aa 3 rfl)) ar) (λ_=>c9 (wC 2 hu (lh (C:=C) HC (aa 3 rfl)) rfl)))) (λh=>?_) (λh=>aT ⟨.im (aO C) t,rfl⟩))
  exfalso
  obtain ⟨h1,h2⟩:=Bool.and_eq_true_iff.mp h
  have h1:t.kind="call":=of_decide_eq_true h1
  rw [decide_eq_true (List.mem_append_left _ (hcall h1))] at h2
  cases h2
 ·obtain ⟨e3,rfl⟩:=hΓ
  exact ⟨_,e3,rfl⟩
 rintro _ ⟨ks,e3,rfl⟩
 refine WS.freeze 1 rfl (Nat.zero_le _) ?_
 exact ai (aW (aa 1 rfl) rfl)
abbrev sQ:Stmt:=top r9
abbrev Ez:List Str:=["spots","found","waiting","number"]
theorem Ac:aE Ez ["spots"] (ag sQ):=⟨rfl,rfl,rfl,by decide +kernel,rfl,by decide +kernel,by decide +kernel⟩
def dT (fd:List Int):List (Int×V):=fd.map λk=>(k,V.bl true)
theorem jN (fd:List Int)(k:Int):fA (dT fd) k=decide (k∈fd):=by
 unfold fA dT
 rw [List.any_map]
 by_cases h:k∈fd
 ·rw [decide_eq_true h,List.any_eq_true]
  exact ⟨k,h,by simp⟩
 ·rw [decide_eq_false h]
  rw [List.any_eq_false]
  intro x hx
  have:x≠k:=λe=>h (e▸hx)
  simpa using this
def Cm (C D:Addr):cX:=λK ps T=>∃s:iG,ps=[⟨a7 C D,s⟩]/\Good s/\T=cF K eX (λkvs=>∃fd,kvs=dT fd/\Reach s fd)
structure CtI (s:iG) (fd wt:List Int):Prop where
 nd:fd.Nodup
 fv:∀n∈fd,0<=n/\n < (s.S.length:Int)
 wv:∀n∈wt,0<=n/\n < (s.S.length:Int)
 st:∀p∈s.parts,p.2.1∈fd∨p.2.1∈wt
 cl:∀n∈fd,∀l∈s.Ld.getD n.toNat [],l∈fd∨l∈wt
def wq:PV->Int
 | .tup (_:: .int n::_)=>n
 | _=>0
theorem D1 (M:cv K mg)(HD:bh K D d0)(F:bw K "come_to" "come_to" sQ f fd)(hm:mg "come_to"=some (.ref f))(hb:Binds K fd ["spots"] []):aG P w K mg base "come_to" 1 (aP (Cm C D) K):=by
 have nd:=Ac.nd
 have ndc:List.Nodup [("part":Str)]:=by decide
 refine bu F Ac hm hb (λqs T ⟨_,e,_⟩=>by rw [e];rfl) (λcdv A outer st H E qs T hr hS=>?_)
 obtain ⟨s,rfl,hG,rfl⟩:=hS
 have hu:=ru hr
 have hl:=hG.l
 obtain ⟨hll,hin⟩:=hG.li
 have hpl:=hG.pl
 change WS _ _ [.im (a7 C D) s,.no,.no,.no] _ _
 refine aj (lV 1 ?_)
 have hst:((s.parts.map iB).filter λ_=>true).map wq=s.parts.map (·.2.1):=by rw [List.filter_eq_self.mpr λ_ _=>rfl,List.map_map];rfl
 refine aj (n9 2 (own:=["part"]) (fr:=[]) (ix:=[]) (ra:=au) (rb:=ab) (p:=λ_=>true) (f:=wq) (cu (so:=ag sQ) (N0:=Ez) rfl rfl (λx h=>bG h) (by decide +kernel)) (cM (gq (C:=C) HD (aa 0 rfl)))
  (λC s H ex=>bg 0) (λx=>⟨.inr rfl,trivial⟩) (λC' s H ex c hc=>fM) (λC' s H ex o ho _=>by
   obtain ⟨p,_,rfl⟩:=List.mem_map.mp ho
   exact EV.iP (n:=p.2.1) (dP (aa 0 rfl) ev_int rfl)) ?_)
 rw [hst]
 change WS _ _ [.im (a7 C D) s,.di (dT []),.mu ab (s.parts.map (·.2.1)),.no] _ _
 refine bL (N1:=λΓ=>∃fd e3,Γ=[.im (a7 C D) s,.di (dT fd),.mu ab [],e3]/\Reach s fd) (mn (λm Γ=>∃fd wt e3,Γ=[.im (a7 C D) s,.di (dT fd),.mu ab wt,e3]/\CtI s fd wt/\3 * (s.S.length - fd.length) + wt.length=m/\m<=1000) (m0:=3 * s.S.length + s.parts.length) ⟨[],s.parts.map (·.2.1),.no,rfl,⟨List.nodup_nil,(λn h=>by cases h),(λn h=>?_),(λp hp=>.inr (List.mem_map.mpr ⟨p,hp,rfl⟩)),(λn h=>by cases h)⟩,by rw [List.length_map];rfl,by omega⟩ (λm Γ hI=>?_)) ?_
 ·obtain ⟨p,hp,rfl⟩:=List.mem_map.mp h
  exact hG.pv p hp
 ·obtain ⟨fd,wt,e3,rfl,hC,hmm,hm1⟩:=hI
  have fl:=lE s.S.length fd hC.nd hC.fv
  refine ⟨!wt.isEmpty,_,oi 2 rfl,λh=>?_,λh=>?_⟩
  ·have hne:wt≠[]:=λz=>by rw [z] at h;cases h
   obtain ⟨wi,n,rfl⟩:∃l x,wt=l++[x]:=⟨wt.dropLast,wt.getLast hne,(List.dropLast_concat_getLast hne).symm⟩
   rw [List.length_append,List.length_singleton] at hmm
   obtain ⟨n0,n1⟩:=hC.wv n (List.mem_append_right _ (List.mem_singleton.mpr rfl))
   refine aj (aZ 3 (y:=n) (uC 2 rfl (by simp)) ?_)
   rw [show (wi++[n]).dropLast=wi by simp]
   change WS _ _ [.im (a7 C D) s,.di (dT fd),.mu ab wi,.im ab n] _ _
   refine ai (bq (yV 1 true hu (aa 3 rfl) rfl) (λh=>?_) (λh=>aT ?_))
   ·have hnf:n∉fd:=by rw [if_pos rfl,jN] at h;simpa using h
    have hat:cb s.Ld n=some (s.Ld.getD n.toNat []):=aY (xs:=s.Ld) (i:=n) [] n0 (by omega)
    have hm2:s.Ld.getD n.toNat []∈s.Ld:=by
     rw [List.getD_eq_getElem?_getD,List.getElem?_eq_getElem (show n.toNat < s.Ld.length by omega)]
     exact List.getElem_mem _
    have h2:=hG.l2 _ hm2
    have hls:=hin _ hm2
    have fl2:=lE s.S.length (fd++[n]) (fo hC.nd hnf) λx hx=>by
     rcases List.mem_append.mp hx with z | z
     ·exact hC.fv x z
     ·rw [List.mem_singleton.mp z];exact ⟨n0,n1⟩
    rw [List.length_append,List.length_singleton] at fl2
    refine aj (uA 1 hu (aa 3 rfl) rW rfl (by rw [jN];exact decide_eq_false hnf) (by unfold dT;rw [List.length_map];exact Nat.lt_of_le_of_lt (show _<=1000 by omega) (by decide)) ?_)
    have e:dT fd++[(n,V.bl true)]=dT (fd++[n]):=by unfold dT;rw [List.map_append];rfl
    rw [e]
    change WS _ _ [.im (a7 C D) s,.di (dT (fd++[n])),.mu ab wi,.im ab n] _ _
    refine ai (sy 2 (ba (D2 (C:=C) HD (aa 0 rfl)) (aa 3 rfl) hat) rfl rfl (aK (by omega)) ⟨3 * (s.S.length - (fd++[n]).length) + (wi++s.Ld.getD n.toNat []).length,by rw [List.length_append,List.length_append,List.length_singleton];omega,fd++[n],wi++s.Ld.getD n.toNat [],.im ab n,rfl,⟨fo hC.nd hnf,λx hx=>?_,λx hx=>?_,λp hp=>?_,λx hx l hl'=>?_⟩,rfl,by rw [List.length_append,List.length_append,List.length_singleton];omega⟩)
    ·rcases List.mem_append.mp hx with z | z
     ·exact hC.fv x z
     ·rw [List.mem_singleton.mp z];exact ⟨n0,n1⟩
    ·rcases List.mem_append.mp hx with z | z
     ·exact hC.wv x (List.mem_append_left _ z)
     ·exact hls x z
    ·rcases hC.st p hp with z | z
     ·exact .inl (List.mem_append_left _ z)
     ·rcases List.mem_append.mp z with z | z
      ·exact .inr (List.mem_append_left _ z)
      ·exact .inl (List.mem_append_right _ z)
    ·rcases List.mem_append.mp hx with z | z
     ·rcases hC.cl x z l hl' with q | q
      ·exact .inl (List.mem_append_left _ q)
      ·rcases List.mem_append.mp q with q | q
       ·exact .inr (List.mem_append_left _ q)
       ·exact .inl (List.mem_append_right _ q)
     ·rw [List.mem_singleton.mp z] at hl'
      exact .inr (List.mem_append_right _ hl')
   ·have hnf:n∈fd:=by rw [if_pos rfl,jN] at h;simpa using h
    refine ⟨3 * (s.S.length - fd.length) + wi.length,by omega,fd,wi,.im ab n,rfl,⟨hC.nd,hC.fv,λx hx=>hC.wv x (List.mem_append_left _ hx),λp hp=>?_,λx hx l hl'=>?_⟩,rfl,by omega⟩
    ·rcases hC.st p hp with z | z
     ·exact .inl z
     ·rcases List.mem_append.mp z with z | z
      ·exact .inr z
      ·rw [List.mem_singleton.mp z];exact .inl hnf
    ·rcases hC.cl x hx l hl' with q | q
     ·exact .inl q
     ·rcases List.mem_append.mp q with q | q
      ·exact .inr q
      ·rw [List.mem_singleton.mp q];exact .inl hnf
  ·have hwt:wt=[]:=by cases wt with
    | nil=>rfl
    | cons _ _=>cases h
   subst hwt
   exact ⟨fd,e3,rfl,λp hp=>(hC.st p hp).resolve_right (by simp),λn hn l hl'=>(hC.cl n hn l hl').resolve_right (by simp)⟩
 rintro _ ⟨fd,e3,rfl,hR⟩
 exact ai (B5 1 rfl ⟨fd,rfl,hR⟩)
abbrev qI:Stmt:=top mz
abbrev Cj:List Str:=["spots","known","lost"]
theorem Ce:aE Cj ["spots"] (ag qI):=⟨rfl,rfl,rfl,by decide +kernel,rfl,by decide +kernel,by decide +kernel⟩
theorem CG (M:cv K mg)(M2:g6 K mg)(HC:bh K C fg)(HD:bh K D d0)(CT:aG P w K mg base "come_to" 1 (aP (Cm C D) K))(F:bw K "not_come_to" "not_come_to" qI f fd)(hm:mg "not_come_to"=some (.ref f))(hb:Binds K fd ["spots"] []):aG P w K mg base "not_come_to" 2 (aP (fh C D) K):=by
 have nd:=Ce.nd
 have ndc:List.Nodup [("number":Str),"step","known"]:=by decide
 have ndc2:List.Nodup [("step":Str)]:=by decide
 refine bu (k:=1) F Ce hm hb (λqs T ⟨_,e,_⟩=>by rw [e];rfl) (λcdv A outer st H E qs T hr hS=>?_)
 obtain ⟨s,rfl,hG,rfl⟩:=hS
 have hu:=ru hr
 have hl:=hG.l
 change WS _ _ [.im (a7 C D) s,.no,.no] _ _
 refine aj (qB 1 CT hr (ah (aa 0 rfl) ax) ⟨s,rfl,hG,rfl⟩ ?_)
 rintro _ ⟨fd,rfl,hR⟩
 change WS _ _ [.im (a7 C D) s,.im eX (dT fd),.no] _ _
 refine aj (n9 2 (own:=["number","step"]) (fr:=["known"]) (ix:=[1]) (ra:=fD ab (aO C)) (rb:=aO C) (p:=λz=> !fA (dT fd) z.1) (f:=λz=>z.2) (cu (so:=ag qI) (N0:=Cj) rfl rfl (λx h=>bG h) (by decide +kernel)) (gA M.enumerate (sh (C:=C) HD (aa 0 rfl)))
  (λC s H ex=>eK 0 1) (λx=>⟨.inr rfl,.inr rfl,.inl rfl,trivial⟩) (λC' s H ex z hz=>fO (qt hu (aa 0 rfl) (aa 2 rfl))) (λC' s H ex z hz _=>aa 1 rfl) ?_)
 have lz:(((nums s.S).filter λz=> !fA (dT fd) z.1).map λz=>z.2).length<=240:=by
  rw [List.length_map]
  refine Nat.le_trans (List.length_filter_le _ _) ?_
  rw [cI];exact hl
 refine WS.freeze 2 rfl (aK (by omega)) ?_
 refine ai (aW (aV.im (cE (own:=["step"]) (fr:=[]) (ix:=[]) (ra:=aO C) (rb:=ab) (p:=λt=>decide (t.kind∈sents)) (f:=λt=>t.word) (cu (so:=ag qI) (N0:=Cj) rfl rfl (λx h=>bG h) (by decide +kernel)) (cM (aa 2 rfl))
  (λC s H ex=>bg 0) (λx=>⟨.inr rfl,trivial⟩) (λC' s H ex t ht=>fO (aA hW (eA (C:=C) HC (aa 0 rfl)) (eB M2.sents))) (λC' s H ex t ht _=>D4 (C:=C) HC (aa 0 rfl)))) ?_)
 refine fV λt ht=>?_
 obtain ⟨z,hz,rfl⟩:=List.mem_map.mp ht
 obtain ⟨hz,hp⟩:=List.mem_filter.mp hz
 obtain ⟨n,nl,e1,e2⟩:=j4 hz
 refine decide_eq_false λhk=>?_
 have:=hG.ct fd hR n nl (by unfold aH;rw [show ((n:Nat):Int).toNat=n by omega,e2];exact hk)
 rw [jN,e1,decide_eq_true this] at hp
 cases hp
abbrev qO:Stmt:=top ng
abbrev B1:List Str:=["spots","called"]
theorem Af:aE B1 ["spots"] (ag qO):=⟨rfl,rfl,rfl,by decide +kernel,rfl,by decide +kernel,by decide +kernel⟩
theorem Dx (M:cv K mg)(HC:bh K C fg)(HD:bh K D d0)(CN:aG P w K mg base "name_words" 1 (aP (qk C D) K))(F:bw K "not_called" "not_called" qO f fd)(hm:mg "not_called"=some (.ref f))(hb:Binds K fd ["spots"] []):aG P w K mg base "not_called" 2 (aP (fh C D) K):=by
 have nd:=Af.nd
 have ndc:List.Nodup [("step":Str)]:=by decide
 have ndc2:List.Nodup [("part":Str),"called"]:=by decide
 refine bu (k:=1) F Af hm hb (λqs T ⟨_,e,_⟩=>by rw [e];rfl) (λcdv A outer st H E qs T hr hS=>?_)
 obtain ⟨s,rfl,hG,rfl⟩:=hS
 change WS _ _ [.im (a7 C D) s,.no] _ _
 refine aj (aZ 1 (aV.im (cE (own:=["step"]) (fr:=[]) (ix:=[]) (ra:=aO C) (rb:=af) (p:=λt=>decide (t.kind="call")) (f:=λt=>t.name) (cu (so:=ag qO) (N0:=B1) rfl rfl (λx h=>bG h) (by decide +kernel)) (cM (sh (C:=C) HD (aa 0 rfl)))
  (λC s H ex=>bg 0) (λx=>⟨.inr rfl,trivial⟩) (λC' s H ex t ht=>fO (aA bS (eA (C:=C) HC (aa 0 rfl)) ar)) (λC' s H ex t ht _=>lh (C:=C) HC (aa 0 rfl)))) ?_)
 generalize hcl:(s.S.filter λt=>decide (t.kind=("call":Str))).map (λt=>t.name)=cs
 change WS _ _ [.im (a7 C D) s,.im (ae af) cs] _ _
 refine ai (aW (y:=([]:List Int)) (aI CN hr (ah (aa 0 rfl) (ah (x:=([]:List PV)) (EV.cast (aV.im (cE (own:=["part"]) (fr:=["called"]) (ix:=[1]) (ra:=au) (rb:=au) (xs:=cut (s.parts.map iB) (some 1) none) (p:=λz=> !decide (tT z∈cs)) (f:=λz=>z) (cu (so:=ag qO) (N0:=B1) rfl rfl (λx h=>bG h) (by decide +kernel)) (cM (aV.im (hV (gq (C:=C) HD (aa 0 rfl)) (ov_some ev_int) ov_none)))
  (λC s H ex=>bg 0) (λx=>⟨.inr rfl,.inl rfl,trivial⟩) (λC' s H ex z hz=>?_) (λC' s H ex z hz _=>aa 0 rfl))) ?_) ax)) ⟨s,rfl,rfl⟩) rfl)
 ·rw [show ((1:Int))=((1:Nat):Int) from rfl,kS,← List.map_drop] at hz
  obtain ⟨p,_,rfl⟩:=List.mem_map.mp hz
  exact fO (aA sE (EV.sP (x:=p.1) (dP (aa 0 rfl) ev_int rfl)) (aa 1 rfl))
 ·refine fV λz hz=>?_
  rw [show ((1:Int))=((1:Nat):Int) from rfl,kS,← List.map_drop] at hz
  obtain ⟨p,hp,rfl⟩:=List.mem_map.mp hz
  obtain ⟨t,ht,hk,hn⟩:=hG.nc p hp
  rw [tE,decide_eq_true (show p.1∈cs from by rw [← hcl];exact List.mem_map.mpr ⟨t,List.mem_filter.mpr ⟨ht,decide_eq_true hk⟩,hn⟩)]
  rfl
end
structure iX (mg:Str->Option Value):Prop where
 beg:∃t,mg "BEGIN"=some (.int 0 t)
 end_:∃t,mg "END"=some (.int 1 t)
 parts:∃t,mg "MOST_PARTS"=some (.int 4 t)
 places:∃t,mg "MOST_PLACES"=some (.int 16 t)
 rows:∃t,mg "MOST_PROGRAM_ROWS"=some (.int 30 t)
section
variable {X:Cx}{Γ Γ1:Ga}{C D:Addr}
theorem o8 (i j:Nat){x z:Str}{p1 p2 ap pos:Pos}{s:iG}{k y:Int}(hD:bh X.K D d0)(hΓ:Γ[i]?=some (.im (a7 C D) s))(hj:Γ[j]?=some (.im ab k))(hk:cb s.St k=some y)
 (hN:X.N[i]?=some x:=by rfl) (hv:cy X.env.scope x:=by first | exact Or.inl rfl | exact Or.inr (Or.inl rfl) | exact Or.inr (Or.inr rfl)) (hd:(x==("__debug__":Str))=false:=by decide) (hcd:(x==("__classdict__":Str))=false:=by decide)
 (hN':X.N[j]?=some z:=by rfl) (hv':cy X.env.scope z:=by first | exact Or.inl rfl | exact Or.inr (Or.inl rfl) | exact Or.inr (Or.inr rfl)) (hd':(z==("__debug__":Str))=false:=by decide) (hcd':(z==("__classdict__":Str))=false:=by decide)
 (hb:attributeBase (.Name x p1) "stands" X.env (eval (.Name x p1) X.env)=eval (.Name x p1) X.env:=by rfl) (hsx:dY (.Name z p2):=by exact λ_ _=>rfl):kW X (.Subscript (.Attribute (.Name x p1) "stands" ap) (.Name z p2) pos) Γ y:=λσ H0 R0 H R E H' Q sR q=>by
 obtain ⟨v,ea,xx,dx,vs,rfl,h1,h2⟩:=E.ent i _ hΓ
 obtain ⟨u,q1,q2⟩:=h2.get (f:="stands") rfl
 obtain ⟨b,ws,rfl,hb',pp,hz⟩:=(show (ae ab).R X.K R u s.St from q2)
 obtain ⟨v0,e0,hv0⟩:=E.ent j _ hj
 cases hv0
 obtain ⟨w,e3,e4⟩:=eU pp hk
 cases e4
 exact eS (hJ gB (n5 (bc hN hv hd hcd) hb) (bc hN' hv' hd' hcd') hsx) ⟨.ref xx,at_of ea,xx,D,dx,vs,.ref b,rfl,sR _ _ h1,hD.cl,hD.no _ (cz (by decide)),q1,.int k,at_of e0,b,ws,k,.int y,rfl,rfl,aM.of (sR _ _ hb'),e3,q⟩
end
section
variable {P:Program}{w:World}{K:PySem.W.Frag}{mg:Str->Option Value}{base:Heap}{f:Addr}{fd:FuncData}{C D:Addr}
abbrev ur:Stmt:=top j5
theorem AB:aE ["spots"] ["spots"] (ag ur):=⟨rfl,rfl,rfl,by decide +kernel,rfl,by decide +kernel,by decide +kernel⟩
def Fx:PV->Int
 | .tup (_::_:: .int n::_)=>n
 | _=>0
theorem CY (HD:bh K D d0)(CN:aG P w K mg base "name_words" 1 (aP (qk C D) K))(F:bw K "ended_at_begin" "ended_at_begin" ur f fd)(hm:mg "ended_at_begin"=some (.ref f))(hb:Binds K fd ["spots"] []):aG P w K mg base "ended_at_begin" 2 (aP (fh C D) K):=by
 have nd:=AB.nd
 have ndc:List.Nodup [("part":Str),"spots"]:=by decide
 refine bu (k:=1) F AB hm hb (λqs T ⟨_,e,_⟩=>by rw [e];rfl) (λcdv A outer st H E qs T hr hS=>?_)
 obtain ⟨s,rfl,hG,rfl⟩:=hS
 change WS _ _ [.im (a7 C D) s] _ _
 refine ai (aW (y:=([]:List Int)) (aI CN hr (ah (aa 0 rfl) (ah (x:=([]:List PV)) (EV.cast (aV.im (cE (own:=["part"]) (fr:=["spots"]) (ix:=[0]) (ra:=au) (rb:=au) (p:=λz=>decide (s.St.getD (wq z).toNat 0=Fx z)) (f:=λz=>z) (cu (so:=ag ur) (N0:=["spots"]) rfl rfl (λx h=>bG h) (by decide +kernel)) (cM (gq (C:=C) HD (aa 0 rfl)))
  (λC s H ex=>bg 0) (λx=>⟨.inr rfl,.inl rfl,trivial⟩) (λC' s' H ex z hz=>?_) (λC' s H ex z hz _=>aa 0 rfl))) ?_) ax)) ⟨s,rfl,rfl⟩) rfl)
 ·obtain ⟨p,hp,rfl⟩:=List.mem_map.mp hz
  obtain ⟨p0,p1⟩:=hG.pv p hp
  exact fO (aA iY (ba (DI (C:=C) HD (aa 1 rfl)) (EV.iP (n:=p.2.1) (dP (aa 0 rfl) ev_int rfl)) (aY (xs:=s.St) (i:=p.2.1) 0 p0 (by rw [hG.sl];exact p1))) (EV.iP (n:=p.2.2) (dP (aa 0 rfl) ev_int rfl)))
 ·refine fV λz hz=>?_
  obtain ⟨p,hp,rfl⟩:=List.mem_map.mp hz
  exact decide_eq_false (hG.eb p hp)
abbrev sV:Stmt:=top mv
theorem B3:aE ["spots"] ["spots"] (ag sV):=⟨rfl,rfl,rfl,by decide +kernel,rfl,by decide +kernel,by decide +kernel⟩
theorem DJ (M3:iX mg)(HD:bh K D d0)(F:bw K "rows_beyond" "rows_beyond" sV f fd)(hm:mg "rows_beyond"=some (.ref f))(hb:Binds K fd ["spots"] []):aG P w K mg base "rows_beyond" 1 (aP (fh C D) K):=by
 have nd:=B3.nd
 have ndc:List.Nodup [("row":Str),"spots"]:=by decide
 refine bu F B3 hm hb (λqs T ⟨_,e,_⟩=>by rw [e];rfl) (λcdv A outer st H E qs T hr hS=>?_)
 obtain ⟨s,rfl,hG,rfl⟩:=hS
 obtain ⟨t,ht⟩:=M3.rows
 change WS _ _ [.im (a7 C D) s] _ _
 have hc:cut (s.rows.map f9) (some 30) none=[]:=by
  rw [show ((30:Int))=((30:Nat):Int) from rfl,kS,← List.map_drop,List.drop_of_length_le hG.rl];rfl
 exact ai (aW (aV.im (cE (own:=["row"]) (fr:=["spots"]) (ix:=[0]) (ra:=au) (rb:=ab) (xs:=[]) (p:=λ_=>true) (f:=λ_=>0) (cu (so:=ag sV) (N0:=["spots"]) rfl rfl (λx h=>bG h) (by decide +kernel)) (cM (EV.cast (aV.im (hV (rh (C:=C) HD (aa 0 rfl)) (ov_some (iu ht)) ov_none)) hc))
  (λC s H ex=>bg 0) (λx=>⟨.inr rfl,.inl rfl,trivial⟩) (λC' s H ex c hc=>fM) (λC' s H ex o ho _=>by cases ho))) rfl)
abbrev xH:Stmt:=top kU
theorem AZ:aE ["spots"] ["spots"] (ag xH):=⟨rfl,rfl,rfl,by decide +kernel,rfl,by decide +kernel,by decide +kernel⟩
theorem Ea (M3:iX mg)(HD:bh K D d0)(CN:aG P w K mg base "name_words" 1 (aP (qk C D) K))(F:bw K "parts_beyond" "parts_beyond" xH f fd)(hm:mg "parts_beyond"=some (.ref f))(hb:Binds K fd ["spots"] []):aG P w K mg base "parts_beyond" 2 (aP (fh C D) K):=by
 have nd:=AZ.nd
 refine bu (k:=1) F AZ hm hb (λqs T ⟨_,e,_⟩=>by rw [e];rfl) (λcdv A outer st H E qs T hr hS=>?_)
 obtain ⟨s,rfl,hG,rfl⟩:=hS
 obtain ⟨t,ht⟩:=M3.parts
 change WS _ _ [.im (a7 C D) s] _ _
 have hc:cut (s.parts.map iB) (some 4) none=[]:=by
  rw [show ((4:Int))=((4:Nat):Int) from rfl,kS,← List.map_drop,List.drop_of_length_le hG.pl];rfl
 exact ai (aW (y:=([]:List Int)) (aI CN hr (ah (aa 0 rfl) (ah (x:=([]:List PV)) (EV.cast (aV.im (hV (gq (C:=C) HD (aa 0 rfl)) (ov_some (iu ht)) ov_none)) hc) ax)) ⟨s,rfl,rfl⟩) rfl)
abbrev rj:Stmt:=top pz
abbrev FX:List Str:=["spots","part","first","last","told","row","step"]
theorem xq:aE FX ["spots","part"] (ag rj):=⟨rfl,rfl,rfl,by decide +kernel,rfl,by decide +kernel,by decide +kernel⟩
def BM (C D:Addr):cX:=λK ps T=>∃(s:iG) (i:Nat) (p:iJ),ps=[⟨a7 C D,s⟩,⟨ab,(i:Int)⟩]/\Good s/\s.parts[i]?=some p/\T=cF K jn (· =iI s p)
theorem jU (F:List (Int×Int))(k:Int):(fZ F k).length<=F.length + 1:=by
 unfold fZ;split
 ·omega
 ·rw [List.length_append];simp
theorem zq (p:iJ)(F:List (Int×Int))(r:Rw):(gb p F r).length<=F.length + 2:=by
 unfold gb;split
 ·exact Nat.le_trans (jU _ _) (by have:=jU F r.1;omega)
 ·omega
theorem zG (p:iJ)(F:List (Int×Int))(rs:List Rw):(rs.foldl (gb p) F).length<=F.length + 2 * rs.length:=by
 induction rs generalizing F with
 | nil=>exact Nat.le_refl _
 | cons r rs ih=>
   rw [List.foldl_cons,List.length_cons]
   have:=ih (gb p F r)
   have:=zq p F r
   omega
theorem B9 (M:cv K mg)(M3:iX mg)(HD:bh K D d0)(F:bw K "places_in" "places_in" rj f fd)(hm:mg "places_in"=some (.ref f))(hb:Binds K fd ["spots","part"] []):aG P w K mg base "places_in" 1 (aP (BM C D) K):=by
 have nd:=xq.nd
 refine bu F xq hm hb (λqs T ⟨_,_,_,e,_⟩=>by rw [e];rfl) (λcdv A outer st H E qs T hr hS=>?_)
 obtain ⟨s,i,p,rfl,hG,hp,rfl⟩:=hS
 obtain ⟨t1,hbg⟩:=M3.beg
 obtain ⟨t2,hen⟩:=M3.end_
 have pm:=List.mem_of_getElem? hp
 have il:=(List.getElem?_eq_some_iff.mp hp).1
 obtain ⟨p0,p1⟩:=hG.pv p pm
 have hrl:=hG.rl
 have hat:cb (s.parts.map iB) (i:Int)=some (iB p):=by
  rw [lA (by omega) (by rw [List.length_map];omega),show ((i:Nat):Int).toNat=i by omega,List.getElem?_map,hp];rfl
 change WS _ _ [.im (a7 C D) s,.im ab (i:Int),.no,.no,.no,.no,.no] _ _
 refine aj (aZ 2 (y:=p.2.1) (EV.iP (dP (xs:=[.str p.1,.int p.2.1,.int p.2.2]) (ba (gq (C:=C) HD (aa 0 rfl)) (aa 1 rfl) hat) ev_int rfl)) ?_)
 refine aj (aZ 3 (y:=p.2.2) (EV.iP (dP (xs:=[.str p.1,.int p.2.1,.int p.2.2]) (ba (gq (C:=C) HD (aa 0 rfl)) (aa 1 rfl) hat) ev_int rfl)) ?_)
 change WS _ _ [.im (a7 C D) s,.im ab (i:Int),.im ab p.2.1,.im ab p.2.2,.no,.no,.no] _ _
 refine aj (yx 4 (v:=0) (u:=1) (o8 (C:=C) 0 2 HD rfl rfl (aY (xs:=s.St) (i:=p.2.1) 0 p0 (by rw [hG.sl];exact p1))) (pQ 3 rfl) (gC rfl hbg ⟨t1,rfl⟩) (gC rfl hen ⟨t2,rfl⟩) (hG.eb p pm) ?_)
 generalize hF0:[(s.St.getD p.2.1.toNat 0,(0:Int)),(p.2.2,1)]=F0
 have hpl:iI s p=s.rows.foldl (gb p) F0:=by unfold iI;rw [hF0]
 have f0l:F0.length=2:=by rw [← hF0];rfl
 rw [hpl]
 change WS _ _ [.im (a7 C D) s,.im ab (i:Int),.im ab p.2.1,.im ab p.2.2,.di (bW F0),.no,.no] _ _
 refine bL (N1:=λΓ=>∃e5 e6,Γ=[.im (a7 C D) s,.im ab (i:Int),.im ab p.2.1,.im ab p.2.2,.di (bW (s.rows.foldl (gb p) F0)),e5,e6]) (cj (λj Γ=>∃e5 e6,Γ=[.im (a7 C D) s,.im ab (i:Int),.im ab p.2.1,.im ab p.2.2,.di (bW ((s.rows.take j).foldl (gb p) F0)),e5,e6]) (cM (rh (C:=C) HD (aa 0 rfl))) (bg 5) ⟨_,_,rfl⟩ (λj z Γ hz hΓ=>?_) (λΓ hΓ=>?_)) ?_
 ·obtain ⟨e5,e6,rfl⟩:=hΓ
  rw [List.getElem?_map] at hz
  obtain ⟨r,hr',rfl⟩:=Option.map_eq_some_iff.mp hz
  have jl:=(List.getElem?_eq_some_iff.mp hr').1
  have fl:=zG p F0 (s.rows.take j)
  have tl:(s.rows.take j).length<=30:=by rw [List.length_take];omega
  have hnx:(s.rows.take (j + 1)).foldl (gb p) F0=gb p ((s.rows.take j).foldl (gb p) F0) r:=by rw [List.take_succ,hr',List.foldl_append];rfl
  rw [hnx]
  generalize (s.rows.take j).foldl (gb p) F0=Fj at fl
  have fj:Fj.length<=62:=by omega
  change WS _ _ [.im (a7 C D) s,.im ab (i:Int),.im ab p.2.1,.im ab p.2.2,.di (bW Fj),.im au (f9 r),e6] _ _
  refine ai (bq (wd jK jK (aa 2 rfl) (EV.iP (n:=r.1) (dP (aa 5 rfl) ev_int rfl)) (aa 3 rfl)) (λh=>?_) (λh=>aT ⟨.im au (f9 r),e6,?_⟩))
  ·have hin:qM p r=true:=h
   have hcut:cut [PV.int r.1,.int r.2.1,.str r.2.2.1,.str r.2.2.2] none (some 2)=[.int r.1,.int r.2.1]:=rfl
   have g:gb p Fj r=fZ (fZ Fj r.1) r.2.1:=if_pos hin
   rw [g]
   have l1:=jU Fj r.1
   refine ai (cj (r:=au) (xs:=[.int r.1,.int r.2.1]) (λq Γ=>∃e6,Γ=[.im (a7 C D) s,.im ab (i:Int),.im ab p.2.1,.im ab p.2.2,.di (bW (([r.1,r.2.1].take q).foldl fZ Fj)),.im au (f9 r),e6]) (yN (by show 2<=sizeLine;decide) (EV.cast (z4 (aa 5 rfl) ov_none (ov_some ev_int)) (congrArg PV.tup hcut))) (bg 6) ⟨_,rfl⟩ (λq y Γ hy hΓ=>?_) (λΓ hΓ=>?_))
   ·obtain ⟨e6,rfl⟩:=hΓ
    obtain ⟨n,hn,rfl⟩:∃n,[r.1,r.2.1][q]?=some n/\PV.int n=y:=by
     have:([r.1,r.2.1].map PV.int)[q]?=some y:=hy
     rw [List.getElem?_map] at this
     exact Option.map_eq_some_iff.mp this
    have hnq:([r.1,r.2.1].take (q + 1)).foldl fZ Fj=fZ (([r.1,r.2.1].take q).foldl fZ Fj) n:=by rw [List.take_succ,hn,List.foldl_append];rfl
    rw [hnq]
    have hql:(([r.1,r.2.1].take q).foldl fZ Fj).length<=64:=by
     have key:∀(ks:List Int) (G:List (Int×Int)),(ks.foldl fZ G).length<=G.length + ks.length:=by
      intro ks
      induction ks with
      | nil=>intro G;exact Nat.le_refl _
      | cons k ks ih=>intro G;rw [List.foldl_cons,List.length_cons];have:=ih (fZ G k);have:=jU G k;omega
     have:=key ([r.1,r.2.1].take q) Fj
     have:([r.1,r.2.1].take q).length<=2:=by rw [List.length_take];exact Nat.min_le_right _ _
     omega
    generalize ([r.1,r.2.1].take q).foldl fZ Fj=G at hql
    change WS _ _ [.im (a7 C D) s,.im ab (i:Int),.im ab p.2.1,.im ab p.2.2,.di (bW G),.im au (f9 r),.im au (.int n)] _ _
    refine ai (Co 4 (k:=n) (EV.iP (aa 6 rfl)) (wI 4 M.len rfl) rfl (Nat.lt_of_le_of_lt hql (by decide)) ⟨.im au (.int n),?_⟩)
    unfold fZ
    rfl
   ·obtain ⟨e6,rfl⟩:=hΓ
    exact ⟨.im au (f9 r),e6,rfl⟩
  ·have hin:¬qM p r=true:=by
    rw [show qM p r=false from h];decide
   rw [show gb p Fj r=Fj from if_neg hin]
 ·obtain ⟨e5,e6,rfl⟩:=hΓ
  refine ⟨e5,e6,?_⟩
  rw [List.length_map,List.take_length]
 rintro _ ⟨e5,e6,rfl⟩
 exact ai (pZ 4 rfl rfl)
end
end K1
namespace Fc
open PySem PySem.Spec L2
open PyProof.Rows hiding St
section
variable {X:Cx}{Γ Γ1 Γ2 Γ3:Ga}{α β γ δ:Type}{N:Ga->Prop}{T:RT}
theorem v9 {a:Expr}{p pos:Pos}{F:List (Int×Int)}(hm:X.mg "len"=none)(ha:EV X a Γ jn F Γ1)(hs:starEach [a] X.env=[(false,eval a X.env)]:=by rfl)(hg:Gl X "len":=by rfl):EV X (.Call (.Name "len" p) [a] [] pos) Γ ab (F.length:Int) Γ1:=
 EV.cast (yz (kvs:=bW F) hm (EV.rep ha λ_ _ q=>q) hs hg) (by unfold bW;rw [List.length_map])
end
end Fc
namespace K1
open PySem L2 Fc
open PySem.Spec hiding Row
open PyProof.Rows hiding St
def rN:PV->Int
 | .tup (.int n::_)=>n
 | _=>0
section
variable {P:Program}{w:World}{K:PySem.W.Frag}{mg:Str->Option Value}{base:Heap}{f:Addr}{fd:FuncData}{C D:Addr}
abbrev qc:Stmt:=top kn
abbrev Ax:List Str:=["spots","known","lost","found","number","part","whole"]
theorem An:aE Ax ["spots"] (ag qc):=⟨rfl,rfl,rfl,by decide +kernel,rfl,by decide +kernel,by decide +kernel⟩
theorem Cp (M:cv K mg)(M3:iX mg)(HD:bh K D d0)(CN:aG P w K mg base "name_words" 1 (aP (qk C D) K))(CT:aG P w K mg base "come_to" 1 (aP (Cm C D) K))(CP:aG P w K mg base "places_in" 1 (aP (BM C D) K))(F:bw K "places_beyond" "places_beyond" qc f fd)(hm:mg "places_beyond"=some (.ref f))(hb:Binds K fd ["spots"] []):aG P w K mg base "places_beyond" 2 (aP (fh C D) K):=by
 have nd:=An.nd
 have ndc:List.Nodup [("row":Str),"known"]:=by decide
 have ndc2:List.Nodup [("row":Str),"part"]:=by decide
 refine bu (k:=1) F An hm hb (λqs T ⟨_,e,_⟩=>by rw [e];rfl) (λcdv A outer st H E qs T hr hS=>?_)
 obtain ⟨s,rfl,hG,rfl⟩:=hS
 obtain ⟨t,hmp⟩:=M3.places
 have hu:=ru hr
 change WS _ _ [.im (a7 C D) s,.no,.no,.no,.no,.no,.no] _ _
 refine aj (qB 1 CT hr (ah (aa 0 rfl) ax) ⟨s,rfl,hG,rfl⟩ ?_)
 rintro _ ⟨fd,rfl,hR⟩
 change WS _ _ [.im (a7 C D) s,.im eX (dT fd),.no,.no,.no,.no,.no] _ _
 have hlost:(((s.rows.map f9).filter λz=> !fA (dT fd) (rN z)).map rN)=[]:=fV λz hz=>by
  obtain ⟨r,hr',rfl⟩:=List.mem_map.mp hz
  obtain ⟨⟨r0,r1⟩,rk⟩:=hG.rk r hr'
  have:=hG.ct fd hR r.1.toNat (by omega) (by rw [show ((r.1.toNat:Nat):Int)=r.1 by omega];exact rk)
  rw [show ((r.1.toNat:Nat):Int)=r.1 by omega] at this
  show (!fA (dT fd) r.1)=false
  rw [jN,decide_eq_true this];rfl
 refine aj (n9 2 (own:=["row"]) (fr:=["known"]) (ix:=[1]) (ra:=au) (rb:=ab) (p:=λz=> !fA (dT fd) (rN z)) (f:=rN) (cu (so:=ag qc) (N0:=Ax) rfl rfl (λx h=>bG h) (by decide +kernel)) (cM (rh (C:=C) HD (aa 0 rfl)))
  (λC s H ex=>bg 0) (λx=>⟨.inr rfl,.inl rfl,trivial⟩) (λC' s H ex z hz=>by
   obtain ⟨r,_,rfl⟩:=List.mem_map.mp hz
   exact fO (qt hu (EV.iP (n:=r.1) (dP (aa 0 rfl) ev_int rfl)) (aa 1 rfl))) (λC' s H ex z hz _=>by
   obtain ⟨r,_,rfl⟩:=List.mem_map.mp hz
   exact EV.iP (n:=r.1) (dP (aa 0 rfl) ev_int rfl)) ?_)
 rw [hlost]
 refine WS.freeze 2 rfl (Nat.zero_le _) ?_
 refine aj (cQ 3 (r:=au) (ys:=[]) (aL aN (Nat.zero_le _)) ?_)
 change WS _ _ [.im (a7 C D) s,.im eX (dT fd),.im (ae ab) [],.mu au [],.no,.no,.no] _ _
 refine bL (N1:=λΓ=>∃e4 e5 e6,Γ=[.im (a7 C D) s,.im eX (dT fd),.im (ae ab) [],.mu au [],e4,e5,e6]) (cj (λi Γ=>∃e4 e5 e6,Γ=[.im (a7 C D) s,.im eX (dT fd),.im (ae ab) [],.mu au [],e4,e5,e6]) (gA M.enumerate (gq (C:=C) HD (aa 0 rfl))) (eK 4 5) ⟨_,_,_,rfl⟩ (λi z Γ hz hΓ=>?_) (λΓ hΓ=>hΓ)) ?_
 ·obtain ⟨e4,e5,e6,rfl⟩:=hΓ
  obtain ⟨e1,e2⟩:=eM hz
  rw [List.getElem?_map] at e2
  obtain ⟨p,hp,ep⟩:=Option.map_eq_some_iff.mp e2
  obtain ⟨zn,zp⟩:=z
  dsimp only at e1 ep
  subst ep
  subst e1
  change WS _ _ [.im (a7 C D) s,.im eX (dT fd),.im (ae ab) [],.mu au [],.im ab (i:Int),.im au (iB p),e6] _ _
  refine aj (aZ 6 (y:=true) (EV.cast (B6 (zL M.any (aV.im (cE (own:=["row"]) (fr:=["part"]) (ix:=[5]) (ra:=ab) (rb:=cx) (p:=λ_=>true) (f:=λ_=>true) (cu (so:=ag qc) (N0:=Ax) rfl rfl (λx h=>bG h) (by decide +kernel)) (cM (aa 2 rfl))
   (λC s H ex=>bg 0) (λx=>⟨.inr rfl,.inl rfl,trivial⟩) (λC' s H ex c hc=>fM) (λC' s H ex o ho _=>by cases ho))))) rfl) ?_)
  change WS _ _ [.im (a7 C D) s,.im eX (dT fd),.im (ae ab) [],.mu au [],.im ab (i:Int),.im au (iB p),.im cx true] _ _
  refine ai (bq (TW.tv (cC (gz (aa 6 rfl)) (λ_=>c9 (aA gP (v9 M.len (aI CP hr (ah (aa 0 rfl) (ah (aa 4 rfl) ax)) ⟨s,i,p,rfl,hG,hp,rfl⟩)) (iu hmp))))) (λh=>?_) (λh=>aT ⟨_,_,_,rfl⟩))
  exfalso
  have:=hG.pc p (List.mem_of_getElem? hp)
  rw [decide_eq_false (show¬(16:Int) < ((iI s p).length:Int) by omega)] at h
  cases h
 rintro _ ⟨e4,e5,e6,rfl⟩
 refine WS.freeze 3 rfl (Nat.zero_le _) ?_
 exact ai (aW (y:=([]:List Int)) (aI CN hr (ah (aa 0 rfl) (ah (aa 3 rfl) ax)) ⟨s,rfl,rfl⟩) rfl)
abbrev xD:Stmt:=top m3
abbrev nHI:List Str:=["spots","found"]
theorem z8:aE nHI ["spots"] (ag xD):=⟨rfl,rfl,rfl,by decide +kernel,rfl,by decide +kernel,by decide +kernel⟩
theorem CV (NA:aG P w K mg base "named_again" 2 (aP (fh C D) K))(CA:aG P w K mg base "called_astray" 1 (aP (fh C D) K))(NC:aG P w K mg base "not_come_to" 2 (aP (fh C D) K))(NL:aG P w K mg base "not_called" 2 (aP (fh C D) K))(EB:aG P w K mg base "ended_at_begin" 2 (aP (fh C D) K))(RB:aG P w K mg base "rows_beyond" 1 (aP (fh C D) K))(PY:aG P w K mg base "places_beyond" 2 (aP (fh C D) K))(PB:aG P w K mg base "parts_beyond" 2 (aP (fh C D) K))(F:bw K "hindrances" "hindrances" xD f fd)(hm:mg "hindrances"=some (.ref f))(hb:Binds K fd ["spots"] []):aG P w K mg base "hindrances" 3 (aP (fh C D) K):=by
 have nd:=z8.nd
 have CA:=CA.mono (show 1<=2 by decide)
 have RB:=RB.mono (show 1<=2 by decide)
 refine bu (k:=2) F z8 hm hb (λqs T ⟨_,e,_⟩=>by rw [e];rfl) (λcdv A outer st H E qs T hr hS=>?_)
 obtain ⟨s,rfl,hG,rfl⟩:=hS
 change WS _ _ [.im (a7 C D) s,.no] _ _
 have z:(([]:List Int)).length + (([]:List Int)).length<=sizeLine:=Nat.zero_le _
 refine aj (aZ 1 (y:=([]:List Int)) (aV.im (bI (xs:=[]) (ys:=[]) (aV.im (bI (xs:=[]) (ys:=[]) (aV.im (bI (xs:=[]) (ys:=[]) (aI NA hr (ah (aa 0 rfl) ax) ⟨s,rfl,hG,rfl⟩) (aI CA hr (ah (aa 0 rfl) ax) ⟨s,rfl,hG,rfl⟩) z)) (aI NC hr (ah (aa 0 rfl) ax) ⟨s,rfl,hG,rfl⟩) z)) (aI NL hr (ah (aa 0 rfl) ax) ⟨s,rfl,hG,rfl⟩) z)) ?_)
 change WS _ _ [.im (a7 C D) s,.im (ae ab) []] _ _
 exact ai (aW (y:=([]:List Int)) (aV.im (bI (xs:=[]) (ys:=[]) (aV.im (bI (xs:=[]) (ys:=[]) (aV.im (bI (xs:=[]) (ys:=[]) (aV.im (bI (xs:=[]) (ys:=[]) (aa 1 rfl) (aI EB hr (ah (aa 0 rfl) ax) ⟨s,rfl,hG,rfl⟩) z)) (aI RB hr (ah (aa 0 rfl) ax) ⟨s,rfl,hG,rfl⟩) z)) (aI PY hr (ah (aa 0 rfl) ax) ⟨s,rfl,hG,rfl⟩) z)) (aI PB hr (ah (aa 0 rfl) ax) ⟨s,rfl,hG,rfl⟩) z)) rfl)
abbrev xC:Stmt:=top lJ
abbrev nNP:List Str:=["text","spots","found"]
theorem Bh:aE nNP ["text"] (ag xC):=⟨rfl,rfl,rfl,by decide +kernel,rfl,by decide +kernel,by decide +kernel⟩
def Ew (C D:Addr):cX:=λK ps T=>∃(x:Str) (S:List ay) (Ld:List (List Int)),ps=[⟨af,x⟩]/\oF x S/\pK S Ld/\Good (fG S Ld)/\T=cF K (a7 C D) (· =fG S Ld)
theorem D9 (G:og P w K mg base C D)(CH:aG P w K mg base "hindrances" 3 (aP (fh C D) K))(F:bw K "need_program" "need_program" xC f fd)(hm:mg "need_program"=some (.ref f))(hb:Binds K fd ["text"] []):aG P w K mg base "need_program" 6 (aP (Ew C D) K):=by
 have nd:=Bh.nd
 have CH:=CH.mono (show 3<=5 by decide)
 refine bu (k:=5) F Bh hm hb (λqs T ⟨_,_,_,e,_⟩=>by rw [e];rfl) (λcdv A outer st H E qs T hr hS=>?_)
 obtain ⟨x,S,Ld,rfl,hx,hk,hG,rfl⟩:=hS
 change WS _ _ [.im af x,.no,.no] _ _
 refine aj (aZ 1 (y:=fG S Ld) (vk G hr (ah (aa 0 rfl) ax) hx hk) ?_)
 refine aj (aZ 2 (y:=([]:List Int)) (aI CH hr (ah (aa 1 rfl) ax) ⟨fG S Ld,rfl,hG,rfl⟩) ?_)
 change WS _ _ [.im af x,.im (a7 C D) (fG S Ld),.im (ae ab) []] _ _
 refine aj (bq (nZ (aa 2 rfl)) (λh=>by cases h) (λ_=>aT ?_))
 exact ai (aW (aa 1 rfl) rfl)
abbrev xr:Stmt:=top tU
theorem zW:aE ["text"] ["text"] (ag xr):=⟨rfl,rfl,rfl,by decide +kernel,rfl,by decide +kernel,by decide +kernel⟩
def Eo:cX:=λK ps T=>∃(x:Str) (S:List ay) (Ld:List (List Int)),ps=[⟨af,x⟩]/\oF x S/\pK S Ld/\Good (fG S Ld)/\T=cF K si (λ_=>True)
theorem DA (CN:aG P w K mg base "need_program" 6 (aP (Ew C D) K))(F:bw K "looked" "looked" xr f fd)(hm:mg "looked"=some (.ref f))(hb:Binds K fd ["text"] []):aG P w K mg base "looked" 7 (aP Eo K):=by
 have nd:=zW.nd
 refine AA (k:=6) F zW hm hb (λqs T ⟨_,_,_,e,_⟩=>by rw [e];rfl) (λcdv A outer st H E qs T hr hS=>?_)
 obtain ⟨x,S,Ld,rfl,hx,hk,hG,rfl⟩:=hS
 refine ⟨λH0 H' R'=>⟨(),rfl,trivial⟩,?_⟩
 change WS _ _ [.im af x] _ _
 exact ai (uc (aI CN hr (ah (aa 0 rfl) ax) ⟨x,S,Ld,rfl,hx,hk,hG,rfl⟩) trivial)
end
end K1
namespace Fc
open PySem PySem.Spec L2
open PyProof.Rows hiding St
section
variable {X:Cx}{Γ Γ1 Γ2 Γ3:Ga}{α β γ δ:Type}{N:Ga->Prop}{T:RT}
theorem Ao (i1 i2:Nat){x1 x2:Str}{k:Nat}{p1 p2 tp pos:Pos}{e:Expr}{r:Rep α}{r':Rep β}{y1:α}{y2:β}(he:EV X e Γ (fD r r') (y1,y2) Γ1)(h:N ((Γ1.set i1 (.im r y1)).set i2 (.im r' y2)))
 (hc:X.calm=true:=by rfl) (hN:X.N.Nodup:=by first | assumption | decide)
 (h1:X.N[i1]?=some x1:=by rfl) (l1:Loc X.env.scope x1:=by first | exact Or.inl rfl | exact Or.inr rfl) (f1:X.fn x1=true∨X.env.scope.names.lookup x1=some .local:=by first | exact .inl rfl | exact .inr rfl)
 (h2:X.N[i2]?=some x2:=by rfl) (l2:Loc X.env.scope x2:=by first | exact Or.inl rfl | exact Or.inr rfl) (f2:X.fn x2=true∨X.env.scope.names.lookup x2=some .local:=by first | exact .inl rfl | exact .inr rfl)
 (hs:swapsWithSole [.Tuple [.Name x1 p1,.Name x2 p2] k tp] e pos.line X.env=pure false:=by rfl) (hw:swappedStores [.Tuple [.Name x1 p1,.Name x2 p2] k tp] e X.env=pure none:=by rfl) (ho:(assignEach [.Tuple [.Name x1 p1,.Name x2 p2] k tp] X.env).map (·.2)=[assign (.Tuple [.Name x1 p1,.Name x2 p2] k tp) X.env]:=by rfl):W1 X (.Assign [.Tuple [.Name x1 p1,.Name x2 p2] k tp] e pos) Γ N T:=λσ H0 R0 H R E D dn dr=>by
 refine sS (ot aJ (tf hc (ja (iz hN h1 l1 f1) (ja (iz hN h2 l2 f2) qf))) hs hw ho) (he σ H0 R0 H R E _ λv H1 R1 E1 s1 q1=>?_)
 obtain ⟨a,v1,v2,rfl,ha,g1,g2⟩:=q1
 exact ⟨a,_,rfl,cW.of (E1.sub _ _ ha),rfl,_,_,rfl,_,_,rfl,rfl,dn _ H1 R1 _ ((E1.set i1 (r:=r) g1).set i2 (r:=r') g2) s1 h⟩
theorem vp:fm X .IsNot si si () () false:=⟨_,yE,λR H v u Q _ e1 e2 q=>by
 cases e1
 cases e2
 exact ⟨rfl,q⟩⟩
theorem Ae {j:Nat}{pos:Pos}:EV X (.Constant .none j pos) Γ si () Γ:=λσ H0 R0 H R E Q q=>eS z9 (q .non H R E (ak.refl _) rfl)
end
end Fc
namespace K1
open PySem L2 Fc
open PySem.Spec hiding Row
open PyProof.Rows hiding St
open PySem.Builtin.Int (intBits)
def Pure:Prop:=∀(names:List Str) (Ls:List (List Th)),f7 names Ls->∃Ld,pK (aD names Ls) Ld/\Good (fG (aD names Ls) Ld)
theorem yP {names:List Str}{Ls:List (List Th)}(h:f7 names Ls):oF (Str.join " " (ir names Ls)) (aD names Ls):=by
 obtain ⟨pl,po⟩:=oG h
 refine ⟨ir names Ls,_,rfl,λe=>?_,pl,po,mE h⟩
 have:=h.l1
 have hl:=h.l
 cases names with
 | nil=>rw [List.length_nil] at hl;omega
 | cons x names=>cases Ls with
   | nil=>exact absurd h.l1 (by simp)
   | cons L Ls=>
     unfold ir at e
     rw [List.zip_cons_cons,List.flatMap_cons] at e
     unfold dv at e
     simp at e
section
variable {P:Program}{w:World}{K:PySem.W.Frag}{mg:Str->Option Value}{base:Heap}{f:Addr}{fd:FuncData}
abbrev lD:Stmt:=top zZ
abbrev nLA:List Str:=["_law_script","_law_k","_law_names","_law_lists"]
theorem AY:aE nLA ["_law_script"] (ag lD):=⟨rfl,rfl,rfl,by decide +kernel,rfl,by decide +kernel,by decide +kernel⟩
def nU:cX:=λK ps T=>∃ns:List Int,ps=[⟨bp,ns⟩]/\ns.length<=63/\(∀n∈ns,intBits n<=2 ^ 20)/\T=cF K cx (· =true)
theorem Dh (HP:Pure)(M:cv K mg)(CD:aG P w K mg base "_law_drawn" 17 (aP E7 K))(CT:aG P w K mg base "_law_text" 7 (aP Ef K))(CL:aG P w K mg base "looked" 7 (aP Eo K))(F:bw K "law" "law" lD f fd):cV P w K mg base dI 18 f fd ["_law_script"] (aP nU K):=by
 have nd:=AY.nd
 have CT:=CT.mono (show 7<=17 by decide)
 have CL:=CL.mono (show 7<=17 by decide)
 refine Ag (k:=17) F AY (λqs T ⟨_,e,_⟩=>by rw [e];rfl) (λcdv A outer s H E qs T hr hS=>?_)
 obtain ⟨ns,rfl,h63,hbits,rfl⟩:=hS
 have hs:sO ns:=⟨h63,hbits⟩
 change WS _ _ [.im bp ns,.no,.no,.no] _ _
 refine bL (N1:=λΓ=>∃e1 e2 e3,Γ=[.im bp ns,e1,e2,e3]) (cj (λi Γ=>∃e1 e2 e3,Γ=[.im bp ns,e1,e2,e3]) (dR M.range ev_int ⟨by decide,by decide⟩) (bg 1) ⟨_,_,_,rfl⟩ (λi j Γ hj hΓ=>?_) (λΓ hΓ=>hΓ)) ?_
 ·obtain ⟨e1,e2,e3,rfl⟩:=hΓ
  obtain ⟨jl,ej⟩:=fb hj
  have jl:i < 3:=jl
  obtain rfl:j=(i:Int):=by omega
  change WS _ _ [.im bp ns,.im ab (i:Int),e2,e3] _ _
  refine aj (Ao 2 3 (aI CD hr (ah (aa 0 rfl) (ah (u7 ev_int (aa 1 rfl) (.inl (by decide))) ax)) ⟨ns,150 * (i:Int),rfl,hs,by omega,by omega,rfl⟩) ?_)
  have hP:=yC ns (150 * (i:Int))
  generalize drawN ns (150 * (i:Int))=names at hP
  generalize drawL ns (150 * (i:Int))=Ls at hP
  change WS _ _ [.im bp ns,.im ab (i:Int),.im (ae af) names,.im (ae (ae au)) (Ls.map a9)] _ _
  obtain ⟨Ld,hk,hG⟩:=HP names Ls hP
  refine ai (bq (aA vp (aI CL hr (ah (aI CT hr (ah (aa 2 rfl) (ah (aa 3 rfl) ax)) ⟨names,Ls,rfl,hP,rfl⟩) ax) ⟨_,aD names Ls,Ld,rfl,yP hP,hk,hG,by congr 1;funext z;simp⟩) Ae) (λh=>by cases h) (λ_=>aT ⟨_,_,_,rfl⟩))
 rintro _ ⟨e1,e2,e3,rfl⟩
 exact ai (aW jW rfl)
end
end K1
namespace K1
open PySem L2 Fc
open PySem.Spec hiding Row
open PyProof.Rows hiding St
section
variable {α:Type}{a b:Int}{l:List Int}
def c7 (S:List α)(a:Nat)(vs:List α):Prop:=∀(i:Nat) (v:α),vs[i]?=some v->S[a + i]?=some v
theorem c7.app {S:List α}{w:Nat}{a b:List α}(h:c7 S w (a++b)):c7 S w a/\c7 S (w + a.length) b:=by
 refine ⟨λi v hv=>h i v ?_,λi v hv=>?_⟩
 ·rw [List.getElem?_append_left (List.getElem?_eq_some_iff.mp hv).1];exact hv
 ·have:=h (a.length + i) v (by rw [List.getElem?_append_right (by omega),show a.length + i - a.length=i by omega];exact hv)
  rw [show w + a.length + i=w + (a.length + i) by omega];exact this
theorem c7.self (S:List α):c7 S 0 S:=λi v hv=>by rw [Nat.zero_add];exact hv
theorem c7.d {α:Type}{S:List α}{a:Nat}{vs:List α}(h:c7 S a vs){i:Nat}{v:α}(hv:vs[i]?=some v)(d:α):S.getD (a + i) d=v/\a + i < S.length:=by
 have:=h i v hv
 exact ⟨by rw [List.getD_eq_getElem?_getD,this];rfl,(List.getElem?_eq_some_iff.mp this).1⟩
theorem c7.k {S:List ay}{a:Nat}{vs:List ay}(h:c7 S a vs){i:Nat}{v:ay}(hv:vs[i]?=some v):aH S ((a + i:Nat):Int)=v.kind/\bF S ((a + i:Nat):Int)=v.within/\a + i < S.length:=by
 obtain ⟨e,l⟩:=h.d hv c6
 unfold aH
 rw [show (((a + i:Nat)):Int).toNat=a + i by omega,e]
 refine ⟨rfl,?_,l⟩
 show (S.getD (((a + i:Nat)):Int).toNat c6).within=_
 rw [show (((a + i:Nat)):Int).toNat=a + i by omega,e]
def cw (S:List ay):List Int:=(S.filter λt=>decide (t.kind∈closg)).map (·.within)
theorem er (a b:List ay):cw (a++b)=cw a++cw b:=by unfold cw;rw [List.filter_append,List.map_append]
theorem i6 {s:ay}(h:s.kind∉closg):cw [s]=[]:=by unfold cw;rw [List.filter_cons_of_neg (by simpa using h)];rfl
theorem kN {s:ay}(h:s.kind∈closg):cw [s]=[s.within]:=by unfold cw;rw [List.filter_cons_of_pos (by simpa using h)];rfl
def fk (a b:Int)(l:List Int):Prop:=l.Nodup/\∀x∈l,a<=x/\x < b
theorem fk.app {c:Int}{m:List Int}(h:fk a b l)(h':fk b c m)(h1:a<=b)(h2:b<=c):fk a c (l++m):=by
 refine ⟨List.nodup_append.mpr ⟨h.1,h'.1,λx hx y hy e=>?_⟩,λx hx=>?_⟩
 ·have:=h.2 x hx;have:=h'.2 y hy;omega
 ·rcases List.mem_append.mp hx with z | z
  ·have:=h.2 x z;omega
  ·have:=h'.2 x z;omega
theorem fk.wide {a' b':Int}(h:fk a b l)(h1:a'<=a)(h2:b<=b'):fk a' b' l:=⟨h.1,λx hx=>by have:=h.2 x hx;omega⟩
theorem fk.add {x:Int}(h:fk a b l)(hx:x < a∨b<=x)(lo hi:Int)(h1:lo<=a)(h2:b<=hi)(h3:lo<=x)(h4:x < hi):fk lo hi (l++[x]):=by
 refine ⟨fo h.1 λz=>by have:=h.2 x z;omega,λy hy=>?_⟩
 rcases List.mem_append.mp hy with z | z
 ·have:=h.2 y z;omega
 ·rw [List.mem_singleton.mp z];omega
theorem fk.nil (a b:Int):fk a b []:=⟨List.nodup_nil,λx h=>by cases h⟩
mutual
theorem cwT {names:List Str}:∀(t:Th) (a w u:Int),fk a (a + bo t) (cw (spT names a w u t))
 | .doo _,a,w,u=>by rw [spT,i6 (show ("do":Str)∉closg by decide +kernel)];exact .nil _ _
 | .call _,a,w,u=>by rw [spT,i6 (show ("call":Str)∉closg by decide +kernel)];exact .nil _ _
 | .leave,a,w,u=>by rw [spT,i6 (show ("leave":Str)∉closg by decide +kernel)];exact .nil _ _
 | .back,a,w,u=>by rw [spT,i6 (show ("back":Str)∉closg by decide +kernel)];exact .nil _ _
 | .whil x A,a,w,u=>by
   have h:=um (names:=names) A (a + 1) (w + 2) a
   rw [spT,bo,er,er,i6 (show ("while":Str)∉closg by decide +kernel),kN (show ("end":Str)∈closg by decide +kernel),List.nil_append]
   push_cast
   exact h.add (.inl (by omega)) _ _ (by omega) (by omega) (by omega) (by omega)
 | .ifs x A B,a,w,u=>by
   have h:=um (names:=names) A (a + 1) (w + 2) a
   have h':=um (names:=names) B (a + 2 + szL A) (w + 3 + (wdL names A).length) (a + 1 + szL A)
   rw [spT,bo,er,er,er,er,i6 (show ("if":Str)∉closg by decide +kernel),kN (show ("else":Str)∈closg by decide +kernel),kN (show ("end":Str)∈closg by decide +kernel),List.nil_append]
   push_cast
   have g1:fk a (a + 1 + szL A) (cw (bP names (a + 1) (w + 2) a A)++[a]):=h.add (.inl (by omega)) _ _ (by omega) (by omega) (by omega) (by omega)
   have g2:fk (a + 1 + szL A) (a + 2 + szL A + szL B) (cw (bP names (a + 2 + szL A) (w + 3 + (wdL names A).length) (a + 1 + szL A) B)++[a + 1 + szL A]):=h'.add (.inl (by omega)) _ _ (by omega) (by omega) (by omega) (by omega)
   have g:=g1.app g2 (by omega) (by omega)
   rw [List.append_assoc] at g
   exact g.wide (by omega) (by omega)
theorem um {names:List Str}:∀(ts:List Th) (a w u:Int),fk a (a + szL ts) (cw (bP names a w u ts))
 | [],a,w,u=>by rw [bP];exact .nil _ _
 | t::ts,a,w,u=>by
   have h:=cwT (names:=names) t a w u
   have h':=um (names:=names) ts (a + bo t) (w + (bU names t).length) u
   rw [bP,er,szL]
   push_cast
   exact (h.app h' (by omega) (by omega)).wide (by omega) (by omega)
end
end
section
variable {S:List ay}
theorem Er {names:List Str}:∀(zs:List (Str×List Th)) (a w:Int),fk a (a + cN zs) (cw (eI names a w zs))
 | [],a,w=>by rw [eI];exact .nil _ _
 | z::r,a,w=>by
   have h:=um (names:=names) z.2 (a + 1) (w + 2) a
   have h':=Er (names:=names) r (a + 2 + szL z.2) (w + 3 + (wdL names z.2).length)
   rw [eI,cN,er,er,er,i6 (show ("part":Str)∉closg by decide +kernel),kN (show ("end":Str)∈closg by decide +kernel),List.nil_append]
   push_cast
   have g1:fk a (a + 2 + szL z.2) (cw (bP names (a + 1) (w + 2) a z.2)++[a]):=h.add (.inl (by omega)) _ _ (by omega) (by omega) (by omega) (by omega)
   have g:=g1.app h' (by omega) (by omega)
   rw [List.append_assoc] at g
   exact g.wide (by omega) (by omega)
theorem vi {a b:Option Int}(h:a.map V.int=b.map V.int):a=b:=by
 cases a<;>cases b<;>simp at h<;>simp [h]
theorem nQ (F:List (Int×Int))(k v j:Int):bC (i9 F k v) j=if j=k then some v else bC F j:=by
 have h:=vN (bH (bW F)) (Sum.inl k:Key) (Sum.inl j) (.int v)
 rw [pD,iK,iK] at h
 apply vi
 rw [h]
 by_cases e:j=k
 ·rw [if_pos (by rw [e]),if_pos e];rfl
 ·rw [if_neg (λz=>e (Sum.inl.inj z)),if_neg e]
theorem vP {F:List (Int×Int)}{k:Int}:(bC F k).isSome=true↔k∈F.map (·.1):=by
 unfold bC
 rw [Option.isSome_map,List.find?_isSome]
 simp only [decide_eq_true_eq,List.mem_map]
theorem qK {k:Int}:∀{ps:List (Int×ay)} {F:List (Int×Int)},(∀z∈ps,z.2.kind∈closg->z.2.within≠k)->bC (ps.foldl d8 F) k=bC F k
 | [],F,_=>rfl
 | y::ps,F,h=>by
   rw [List.foldl_cons,qK λz hz=>h z (List.mem_cons_of_mem _ hz)]
   unfold d8
   split
   ·rename_i hc
    rw [nQ,if_neg (λe=>h y List.mem_cons_self hc e.symm)]
   ·rfl
theorem mB:∀{ps:List (Int×ay)} {F:List (Int×Int)},((ps.filter λz=>decide (z.2.kind∈closg)).map (·.2.within)).Nodup->∀z∈ps,z.2.kind∈closg->bC (ps.foldl d8 F) z.2.within=some z.1
 | y::ps,F,nd,z,hz,hc=>by
   rw [List.foldl_cons]
   by_cases hy:y.2.kind∈closg
   ·rw [List.filter_cons_of_pos (by simpa using hy),List.map_cons,List.nodup_cons] at nd
    rcases List.mem_cons.mp hz with rfl | hz
    ·rw [qK λx hx hxc e=>nd.1 (List.mem_map.mpr ⟨x,List.mem_filter.mpr ⟨hx,by simpa using hxc⟩,e⟩)]
     unfold d8
     rw [if_pos hy,nQ,if_pos rfl]
    ·exact mB nd.2 z hz hc
   ·rw [List.filter_cons_of_neg (by simpa using hy)] at nd
    rcases List.mem_cons.mp hz with rfl | hz
    ·exact absurd hc hy
    ·exact mB nd z hz hc
theorem kE (S:List ay):(nums S).map (·.2)=S:=by
 refine List.ext_getElem? λi=>?_
 rw [List.getElem?_map]
 rcases Nat.lt_or_ge i S.length with h | h
 ·have hn:i < (nums S).length:=by rw [cI];exact h
  rw [List.getElem?_eq_getElem hn]
  have:=(eM (List.getElem?_eq_getElem hn)).2
  rw [this];rfl
 ·rw [List.getElem?_eq_none (by rw [cI];exact h),List.getElem?_eq_none h];rfl
theorem zo (S:List ay):cw S=((nums S).filter λz=>decide (z.2.kind∈closg)).map (·.2.within):=by
 conv=>lhs;rw [← kE S]
 unfold cw
 rw [List.filter_map,List.map_map]
 rfl
theorem nV {n:Nat}{s:ay}(h:S[n]?=some s):((n:Int),s)∈nums S:=by
 have hl:=(List.getElem?_eq_some_iff.mp h).1
 have hn:n < (nums S).length:=by rw [cI];exact hl
 obtain ⟨e1,e2⟩:=eM (List.getElem?_eq_getElem hn)
 rw [h] at e2
 have:(nums S)[n]=((n:Int),s):=Prod.ext e1 (Option.some.inj e2).symm
 rw [← this]
 exact List.getElem_mem hn
theorem kT (nd:(cw S).Nodup){n:Nat}{s:ay}(h:S[n]?=some s)(hc:s.kind∈closg):bC (cR S) s.within=some (n:Int):=by
 rw [zo] at nd
 exact mB nd ((n:Int),s) (nV h) hc
def Up (S:List ay)(u:Int)(kd:Str)(a:Int):Prop:=∃k:Nat,itG (bF S) k u=a/\(∀j,j<=k->0<=itG (bF S) j u/\itG (bF S) j u < (S.length:Int))/\(∀j,j < k->aH S (itG (bF S) j u)≠kd)/\aH S a=kd
theorem mf {α:Type}(f:α->α)(x:α)(j:Nat):itG f (j + 1) x=itG f j (f x):=by
 rw [show j + 1=1 + j by omega,j2];rfl
theorem Up.here {u:Int}{kd:Str}(h0:0<=u)(h1:u < (S.length:Int))(hk:aH S u=kd):Up S u kd u:=⟨0,rfl,λj hj=>by
 obtain rfl:j=0:=by omega
 exact ⟨h0,h1⟩,λj hj=>by omega,hk⟩
theorem Up.step {u a:Int}{kd:Str}(h0:0<=u)(h1:u < (S.length:Int))(hk:aH S u≠kd)(h:Up S (bF S u) kd a):Up S u kd a:=by
 obtain ⟨k,e,hin,hne,ha⟩:=h
 refine ⟨k + 1,by rw [mf];exact e,λj hj=>?_,λj hj=>?_,ha⟩
 ·cases j with
  | zero=>exact ⟨h0,h1⟩
  | succ j=>rw [mf];exact hin j (by omega)
 ·cases j with
  | zero=>exact hk
  | succ j=>rw [mf];exact hne j (by omega)
mutual
def eN (a wl pe:Int):Th->List (List Int)
 | .doo _=>[[a + 1]]
 | .call _=>[[a + 1]]
 | .ifs _ A B=>[[a + 1,a + 2 + szL A]]++gc (a + 1) wl pe A++([[a + 2 + szL A + szL B]]++(gc (a + 2 + szL A) wl pe B++[[a + 3 + szL A + szL B]]))
 | .whil _ A=>[[a + 1,a + 2 + szL A]]++(gc (a + 1) (a + 2 + szL A) pe A++[[a]])
 | .leave=>[[wl]]
 | .back=>[[pe]]
def gc (a wl pe:Int):List Th->List (List Int)
 | []=>[]
 | t::ts=>eN a wl pe t++gc (a + bo t) wl pe ts
end
end
mutual
theorem mr:∀(t:Th) (a wl pe:Int),(eN a wl pe t).length=bo t
 | .doo _,_,_,_=>by simp [eN,bo]
 | .call _,_,_,_=>by simp [eN,bo]
 | .ifs x A B,a,wl,pe=>by
   simp only [eN,bo,List.length_append,cY A,cY B,List.length_cons,List.length_nil]
   omega
 | .whil x A,a,wl,pe=>by
   simp only [eN,bo,List.length_append,cY A,List.length_cons,List.length_nil]
   omega
 | .leave,_,_,_=>by simp [eN,bo]
 | .back,_,_,_=>by simp [eN,bo]
theorem cY:∀(ts:List Th) (a wl pe:Int),(gc a wl pe ts).length=szL ts
 | [],_,_,_=>by simp [gc,szL]
 | t::ts,a,wl,pe=>by rw [gc,szL,List.length_append,mr t,cY ts]
end
section
variable {S:List ay}{Ld:List (List Int)}{B pe:Int}{a:Nat}
def mR (a:Int):List (Str×List Th)->List (List Int)
 | []=>[]
 | z::r=>[[a + 1]]++(gc (a + 1) 0 (a + 1 + szL z.2) z.2++([[]]++mR (a + 2 + szL z.2) r))
theorem qa:∀(zs:List (Str×List Th)) (a:Int),(mR a zs).length=cN zs
 | [],_=>rfl
 | z::r,a=>by
   rw [mR,cN]
   simp only [List.length_append,cY,qa r,List.length_cons,List.length_nil]
   omega
structure ig (S:List ay) (Ld:List (List Int)) (B pe:Int) (n:Nat):Prop where
 ld:c8 S (cR S) (n:Int) (Ld.getD n [])
 rg:∀l∈Ld.getD n [],B<=l/\l<=pe
 ln:(Ld.getD n []).length<=2
 go:bD (aH S (n:Int))=false->∃l r,Ld.getD n []=l::r/\((n:Int) < l∨bD (aH S l)=true)
structure sI (S:List ay) (B pe wl u:Int) (lp:Bool) (hi:Nat):Prop where
 pt:∃p,Up S u "part" p/\bC (cR S) p=some pe
 wh:lp=true->(∃A,Up S u "while" A/\bC (cR S) A=some (wl - 1))/\(hi:Int)<=wl/\wl<=pe
 pe:(hi:Int)<=pe
 u0:0<=u
 u1:u < (S.length:Int)
def eC (S:List ay)(Ld:List (List Int))(B pe:Int)(a k:Nat):Prop:=∀i,i < k->ig S Ld B pe (a + i)
theorem eC.app {k m:Nat}(h:eC S Ld B pe a k)(h':eC S Ld B pe (a + k) m):eC S Ld B pe a (k + m):=λi hi=>by
 by_cases q:i < k
 ·exact h i q
 ·have:=h' (i - k) (by omega)
  rwa [show a + k + (i - k)=a + i by omega] at this
theorem eC.one (h:ig S Ld B pe a):eC S Ld B pe a 1:=λi hi=>by
 obtain rfl:i=0:=by omega
 exact h
theorem eC.nil:eC S Ld B pe a 0:=λi hi=>by omega
theorem zI:bD "do"=true:=by decide +kernel
theorem wQ:bD "call"=true:=by decide +kernel
theorem uQ:bD "if"=true:=by decide +kernel
theorem jt:bD "while"=true:=by decide +kernel
theorem f6 {n:Nat}{l:Int}(hL:Ld.getD n []=[l])(h:c8 S (cR S) (n:Int) [l])(h0:B<=l)(h1:l<=pe)(hg:(n:Int) < l∨bD (aH S l)=true):ig S Ld B pe n:=by
 refine ⟨by rw [hL];exact h,by rw [hL];intro x hx;rw [List.mem_singleton.mp hx];exact ⟨h0,h1⟩,by rw [hL];exact Nat.le_succ 1,λ_=>⟨l,[],hL,hg⟩⟩
theorem uj {n:Nat}{l m:Int}(hL:Ld.getD n []=[l,m])(h:c8 S (cR S) (n:Int) [l,m])(h0:B<=l)(h1:l<=pe)(h2:B<=m)(h3:m<=pe)(hg:bD (aH S (n:Int))=true):ig S Ld B pe n:=by
 refine ⟨by rw [hL];exact h,by
  rw [hL];intro x hx
  rcases List.mem_cons.mp hx with rfl | hx
  ·exact ⟨h0,h1⟩
  ·rw [List.mem_singleton.mp hx];exact ⟨h2,h3⟩,by rw [hL];exact Nat.le_refl 2,λq=>by rw [hg] at q;cases q⟩
end
section
variable {S:List ay}{Ld:List (List Int)}{names:List Str}{lo m B pe:Int}(hcw:(cw S).Nodup)
include hcw
mutual
theorem stT:∀(t:Th) (lp:Bool) (a:Nat) (w u wl:Int),bV lo m lp t->c7 S a (spT names (a:Int) w u t)->c7 Ld a (eN (a:Int) wl pe t)->sI S B pe wl u lp (a + bo t)->B<=(a:Int)->eC S Ld B pe a (bo t)
 | .doo x,lp,a,w,u,wl,h,hS,hL,hc,hB=>by
   rw [spT] at hS
   rw [eN] at hL
   simp only [bo] at hc ⊢
   obtain ⟨k1,k2,k3⟩:=hS.k (i:=0) rfl
   have e1:=(hL.d (i:=0) rfl []).1
   have:=hc.pe
   refine .one (f6 e1 (.oth (.inr (.inl k1))) (by omega) (by push_cast at this;omega) (.inl ?_))
   show (a:Int) < _
   omega
 | .call x,lp,a,w,u,wl,h,hS,hL,hc,hB=>by
   rw [spT] at hS
   rw [eN] at hL
   simp only [bo] at hc ⊢
   obtain ⟨k1,k2,k3⟩:=hS.k (i:=0) rfl
   have e1:=(hL.d (i:=0) rfl []).1
   have:=hc.pe
   refine .one (f6 e1 (.oth (.inr (.inr k1))) (by omega) (by push_cast at this;omega) (.inl ?_))
   show (a:Int) < _
   omega
 | .leave,lp,a,w,u,wl,h,hS,hL,hc,hB=>by
   simp only [bV] at h
   rw [spT] at hS
   rw [eN] at hL
   simp only [bo] at hc ⊢
   obtain ⟨k1,k2,k3⟩:=hS.k (i:=0) rfl
   have e1:=(hL.d (i:=0) rfl []).1
   obtain ⟨⟨A,hA,hF⟩,w1,w2⟩:=hc.wh h
   push_cast at w1
   have hl:c8 S (cR S) ((a + 0:Nat):Int) [wl - 1 + 1]:=.lev (a:=A) k1 (by unfold Ar;rw [k2];exact hA) hF
   rw [show wl - 1 + 1=wl by omega] at hl
   refine .one (f6 e1 hl (by omega) (by omega) (.inl ?_))
   show (a:Int) < _
   omega
 | .back,lp,a,w,u,wl,h,hS,hL,hc,hB=>by
   rw [spT] at hS
   rw [eN] at hL
   simp only [bo] at hc ⊢
   obtain ⟨k1,k2,k3⟩:=hS.k (i:=0) rfl
   have e1:=(hL.d (i:=0) rfl []).1
   obtain ⟨p,hp,hF⟩:=hc.pt
   have w1:=hc.pe
   push_cast at w1
   refine .one (f6 e1 (.bck (a:=p) k1 (by unfold Ar;rw [show bF S (a:Int)=u from k2];exact hp) hF) (by omega) (by omega) (.inl ?_))
   show (a:Int) < _
   omega
 | .whil x A,lp,a,w,u,wl,h,hS,hL,hc,hB=>by
   simp only [bV] at h
   rw [spT] at hS
   rw [eN] at hL
   simp only [bo] at hc ⊢
   obtain ⟨s1,s2⟩:=hS.app
   obtain ⟨s2,s3⟩:=s2.app
   obtain ⟨d1,d2⟩:=hL.app
   obtain ⟨d2,d3⟩:=d2.app
   rw [bN] at s3
   rw [cY] at d3
   simp only [List.length_cons,List.length_nil] at s2 s3 d2 d3
   obtain ⟨k1,k2,k3⟩:=s1.k (i:=0) rfl
   obtain ⟨k4,k5,k6⟩:=s3.k (i:=0) rfl
   have e1:=(d1.d (i:=0) rfl []).1
   have e3:=(d3.d (i:=0) rfl []).1
   have hF:bC (cR S) (a:Int)=some (((a + (0 + 1) + szL A + 0:Nat)):Int):=kT (s:=⟨"end","",w + 2 + (wdL names A).length,(a:Int)⟩) hcw (s3 0 _ rfl) (show ("end":Str)∈closg by decide +kernel)
   have hpe:=hc.pe
   push_cast at hpe hF
   have k1':aH S (a:Int)="while":=k1
   have k2':bF S (a:Int)=u:=k2
   have ala:a < S.length:=k3
   have p1:ig S Ld B pe a:=by
    have hl:c8 S (cR S) (a:Int) [(a:Int) + 1,(a:Int) + (0 + 1) + szL A + 0 + 1]:=.row (.inr k1') hF
    rw [show (a:Int) + (0 + 1) + szL A + 0 + 1=(a:Int) + 2 + szL A by omega] at hl
    exact uj e1 hl (by omega) (by omega) (by omega) (by omega) (by rw [k1'];exact jt)
   have c2:sI S B pe ((a:Int) + 2 + szL A) (a:Int) true (a + (0 + 1) + szL A):=by
    obtain ⟨p,hp,hpF⟩:=hc.pt
    refine ⟨⟨p,.step (by omega) (by omega) (by rw [k1'];decide +kernel) (by rw [k2'];exact hp),hpF⟩,λ_=>⟨⟨(a:Int),.here (by omega) (by omega) k1',?_⟩,by push_cast;omega,by omega⟩,by push_cast;omega,by omega,by omega⟩
    rw [hF];congr 1;omega
   have p2:=sU A true (a + (0 + 1)) (w + 2) (a:Int) ((a:Int) + 2 + szL A) h.2 (by push_cast;exact s2) (by push_cast;exact d2) c2 (by push_cast;omega)
   have p3:ig S Ld B pe (a + (0 + 1) + szL A + 0):=by
    have hl:c8 S (cR S) ((a + (0 + 1) + szL A + 0:Nat):Int) [bF S ((a + (0 + 1) + szL A + 0:Nat):Int)]:=.enw k4 (by rw [k5];show (0:Int)<=(a:Int);omega) (by rw [k5];show (a:Int) < _;omega) (by rw [k5];exact k1')
    rw [k5] at hl
    exact f6 e3 hl (by omega) (by omega) (.inr (by rw [k1'];exact jt))
   have:=(eC.one p1).app (p2.app (eC.one p3))
   rwa [show 1 + (szL A + 1)=2 + szL A by omega] at this
 | .ifs x A Bb,lp,a,w,u,wl,h,hS,hL,hc,hB=>by
   simp only [bV] at h
   rw [spT,List.append_assoc] at hS
   rw [eN,List.append_assoc] at hL
   simp only [bo] at hc ⊢
   obtain ⟨s1,s2⟩:=hS.app
   obtain ⟨s2,s3⟩:=s2.app
   obtain ⟨s3,s4⟩:=s3.app
   obtain ⟨s4,s5⟩:=s4.app
   obtain ⟨d1,d2⟩:=hL.app
   obtain ⟨d2,d3⟩:=d2.app
   obtain ⟨d3,d4⟩:=d3.app
   obtain ⟨d4,d5⟩:=d4.app
   rw [bN] at s3 s4 s5
   rw [bN] at s5
   rw [cY] at d3 d4 d5
   rw [cY] at d5
   simp only [List.length_cons,List.length_nil] at s2 s3 s4 s5 d2 d3 d4 d5
   obtain ⟨k1,k2,k3⟩:=s1.k (i:=0) rfl
   obtain ⟨k4,k5,k6⟩:=s3.k (i:=0) rfl
   obtain ⟨k7,k8,k9⟩:=s5.k (i:=0) rfl
   have e1:=(d1.d (i:=0) rfl []).1
   have e3:=(d3.d (i:=0) rfl []).1
   have e5:=(d5.d (i:=0) rfl []).1
   have hF:bC (cR S) (a:Int)=some (((a + (0 + 1) + szL A + 0:Nat)):Int):=kT (s:=⟨"else","",w + 2 + (wdL names A).length,(a:Int)⟩) hcw (s3 0 _ rfl) (show ("else":Str)∈closg by decide +kernel)
   have hF2:bC (cR S) ((a:Int) + 1 + szL A)=some (((a + (0 + 1) + szL A + (0 + 1) + szL Bb + 0:Nat)):Int):=kT (s:=⟨"end","",w + 3 + (wdL names A).length + (wdL names Bb).length,(a:Int) + 1 + szL A⟩) hcw (s5 0 _ rfl) (show ("end":Str)∈closg by decide +kernel)
   have hpe:=hc.pe
   push_cast at hpe hF hF2
   have k1':aH S (a:Int)="if":=k1
   have k2':bF S (a:Int)=u:=k2
   have ala:a < S.length:=k3
   have en:((a + (0 + 1) + szL A + 0:Nat):Int)=(a:Int) + 1 + szL A:=by push_cast;omega
   rw [en] at k4 k5
   have k4':aH S ((a:Int) + 1 + szL A)="else":=k4
   have k5':bF S ((a:Int) + 1 + szL A)=(a:Int):=k5
   have p1:ig S Ld B pe a:=by
    have hl:c8 S (cR S) (a:Int) [(a:Int) + 1,(a:Int) + (0 + 1) + szL A + 0 + 1]:=.row (.inl k1') hF
    rw [show (a:Int) + (0 + 1) + szL A + 0 + 1=(a:Int) + 2 + szL A by omega] at hl
    exact uj e1 hl (by omega) (by omega) (by omega) (by omega) (by rw [k1'];exact uQ)
   have cA:sI S B pe wl (a:Int) lp (a + (0 + 1) + szL A):=by
    obtain ⟨p,hp,hpF⟩:=hc.pt
    refine ⟨⟨p,.step (by omega) (by omega) (by rw [k1'];decide +kernel) (by rw [k2'];exact hp),hpF⟩,λq=>?_,by push_cast;omega,by omega,by omega⟩
    obtain ⟨⟨Aw,hA,hAF⟩,w1,w2⟩:=hc.wh q
    push_cast at w1
    exact ⟨⟨Aw,.step (by omega) (by omega) (by rw [k1'];decide +kernel) (by rw [k2'];exact hA),hAF⟩,by push_cast;omega,w2⟩
   have cB:sI S B pe wl ((a:Int) + 1 + szL A) lp (a + (0 + 1) + szL A + (0 + 1) + szL Bb):=by
    obtain ⟨p,hp,hpF⟩:=cA.pt
    refine ⟨⟨p,.step (by omega) (by omega) (by rw [k4'];decide +kernel) (by rw [k5'];exact hp),hpF⟩,λq=>?_,by push_cast;omega,by omega,by omega⟩
    obtain ⟨⟨Aw,hA,hAF⟩,w1,w2⟩:=cA.wh q
    obtain ⟨_,w3,_⟩:=hc.wh q
    push_cast at w3
    exact ⟨⟨Aw,.step (by omega) (by omega) (by rw [k4'];decide +kernel) (by rw [k5'];exact hA),hAF⟩,by push_cast;omega,w2⟩
   have p2:=sU A lp (a + (0 + 1)) (w + 2) (a:Int) wl h.2.1 (by push_cast;exact s2) (by push_cast;exact d2) cA (by push_cast;omega)
   have p3:ig S Ld B pe (a + (0 + 1) + szL A + 0):=by
    have hl:c8 S (cR S) ((a + (0 + 1) + szL A + 0:Nat):Int) [(a:Int) + (0 + 1) + szL A + (0 + 1) + szL Bb + 0]:=by rw [en];exact .els k4' hF2
    rw [show (a:Int) + (0 + 1) + szL A + (0 + 1) + szL Bb + 0=(a:Int) + 2 + szL A + szL Bb by omega] at hl
    exact f6 e3 hl (by omega) (by omega) (.inl (by push_cast;omega))
   have q4:(((a + (0 + 1) + szL A + (0 + 1):Nat)):Int)=(a:Int) + 2 + szL A:=by push_cast;omega
   have p4:=sU Bb lp (a + (0 + 1) + szL A + (0 + 1)) (w + 3 + (wdL names A).length) ((a:Int) + 1 + szL A) wl h.2.2 (by rw [q4];exact s4) (by rw [q4];exact d4) cB (by push_cast;omega)
   have p5:ig S Ld B pe (a + (0 + 1) + szL A + (0 + 1) + szL Bb + 0):=by
    have hl:c8 S (cR S) ((a + (0 + 1) + szL A + (0 + 1) + szL Bb + 0:Nat):Int) [((a + (0 + 1) + szL A + (0 + 1) + szL Bb + 0:Nat):Int) + 1]:=.ene k7 (by rw [k8];show (0:Int)<=(a:Int) + 1 + szL A;omega) (by rw [k8];show (a:Int) + 1 + szL A < _;omega) (by rw [k8];exact k4')
    rw [show ((a + (0 + 1) + szL A + (0 + 1) + szL Bb + 0:Nat):Int) + 1=(a:Int) + 3 + szL A + szL Bb by push_cast;omega] at hl
    exact f6 e5 hl (by omega) (by omega) (.inl (by push_cast;omega))
   have:=(eC.one p1).app (p2.app ((eC.one p3).app (p4.app (eC.one p5))))
   rwa [show 1 + (szL A + (1 + (szL Bb + 1)))=3 + szL A + szL Bb by omega] at this
theorem sU:∀(ts:List Th) (lp:Bool) (a:Nat) (w u wl:Int),bz lo m lp ts->c7 S a (bP names (a:Int) w u ts)->c7 Ld a (gc (a:Int) wl pe ts)->sI S B pe wl u lp (a + szL ts)->B<=(a:Int)->eC S Ld B pe a (szL ts)
 | [],lp,a,w,u,wl,h,hS,hL,hc,hB=>by rw [szL];exact .nil
 | t::ts,lp,a,w,u,wl,h,hS,hL,hc,hB=>by
   simp only [bz] at h
   rw [bP] at hS
   rw [gc] at hL
   rw [szL] at hc ⊢
   obtain ⟨s1,s2⟩:=hS.app
   obtain ⟨d1,d2⟩:=hL.app
   rw [jX] at s2
   rw [mr] at d2
   have hpe:=hc.pe
   push_cast at hpe
   have p1:=stT t lp a w u wl h.1 s1 d1 ⟨hc.pt,λq=>by
    obtain ⟨x,y,z⟩:=hc.wh q
    push_cast at y
    exact ⟨x,by push_cast;omega,z⟩,by push_cast;omega,hc.u0,hc.u1⟩ hB
   have p2:=sU ts lp (a + bo t) (w + (bU names t).length) u wl h.2.2 (by push_cast;exact s2) (by push_cast;exact d2) ⟨hc.pt,λq=>by
    obtain ⟨x,y,z⟩:=hc.wh q
    push_cast at y
    exact ⟨x,by push_cast;omega,z⟩,by push_cast;omega,hc.u0,hc.u1⟩ (by push_cast;omega)
   exact p1.app p2
end
end
structure BP (S:List ay) (Ld:List (List Int)) (names:List Str) (f:Nat) (w:Int) (z:Str×List Th):Prop where
 s:c7 S f ([⟨"part",z.1,w, -1⟩]++(bP names ((f:Int) + 1) (w + 2) (f:Int) z.2++[⟨"end","",w + 2 + (wdL names z.2).length,(f:Int)⟩]))
 d:c7 Ld f ([[(f:Int) + 1]]++(gc ((f:Int) + 1) 0 ((f:Int) + 1 + szL z.2) z.2++[[]]))
theorem c7.pre {α:Type}{S:List α}{a:Nat}{x y:List α}(h:c7 S a (x++y)):c7 S a x:=h.app.1
theorem sJ {S:List ay}{Ld:List (List Int)}{names:List Str}:∀{zs:List (Str×List Th)} {a:Nat} {w:Int},c7 S a (eI names (a:Int) w zs)->c7 Ld a (mR (a:Int) zs)->∀(j:Nat) (z:Str×List Th),zs[j]?=some z->∃w',BP S Ld names (a + cN (zs.take j)) w' z
 | [],_,_,_,_,j,z,h=>by simp at h
 | y::r,a,w,hS,hL,j,z,h=>by
   rw [eI] at hS
   rw [mR] at hL
   cases j with
   | zero=>
     have e:y=z:=by simpa using h
     subst e
     refine ⟨w,?_,?_⟩
     ·rw [show ([⟨"part",y.1,w, -1⟩]++(bP names ((a:Int) + 1) (w + 2) (a:Int) y.2++([⟨"end","",w + 2 + (wdL names y.2).length,(a:Int)⟩]++eI names ((a:Int) + 2 + szL y.2) (w + 3 + (wdL names y.2).length) r)):List ay)=([⟨"part",y.1,w, -1⟩]++(bP names ((a:Int) + 1) (w + 2) (a:Int) y.2++[⟨"end","",w + 2 + (wdL names y.2).length,(a:Int)⟩]))++eI names ((a:Int) + 2 + szL y.2) (w + 3 + (wdL names y.2).length) r by simp only [List.append_assoc]] at hS
      exact hS.pre
     ·rw [show ([[(a:Int) + 1]]++(gc ((a:Int) + 1) 0 ((a:Int) + 1 + szL y.2) y.2++([[]]++mR ((a:Int) + 2 + szL y.2) r)):List (List Int))=([[(a:Int) + 1]]++(gc ((a:Int) + 1) 0 ((a:Int) + 1 + szL y.2) y.2++[[]]))++mR ((a:Int) + 2 + szL y.2) r by simp only [List.append_assoc]] at hL
      exact hL.pre
   | succ j=>
     have s4:=hS.app.2.app.2.app.2
     have d4:=hL.app.2.app.2.app.2
     rw [bN] at s4
     rw [cY] at d4
     simp only [List.length_cons,List.length_nil] at s4 d4
     have e:a + (0 + 1) + szL y.2 + (0 + 1)=a + 2 + szL y.2:=by omega
     rw [e] at s4 d4
     have:=sJ (zs:=r) (a:=a + 2 + szL y.2) (w:=w + 3 + (wdL names y.2).length) (by push_cast;exact s4) (by push_cast;exact d4) j z (by simpa using h)
     rw [List.take_succ_cons,cN]
     rwa [show a + (2 + szL y.2 + cN (r.take j))=a + 2 + szL y.2 + cN (r.take j) by omega]
theorem cover:∀(zs:List (Str×List Th)) (n:Nat),n < cN zs->∃(j:Nat) (z:Str×List Th),zs[j]?=some z/\cN (zs.take j)<=n/\n < cN (zs.take j) + 2 + szL z.2
 | [],n,h=>by rw [cN] at h;omega
 | y::r,n,h=>by
   rw [cN] at h
   by_cases q:n < 2 + szL y.2
   ·exact ⟨0,y,rfl,Nat.zero_le _,by show n < 0 + 2 + _;omega⟩
   ·obtain ⟨j,z,h1,h2,h3⟩:=cover r (n - (2 + szL y.2)) (by omega)
    exact ⟨j + 1,z,h1,by rw [List.take_succ_cons,cN];omega,by rw [List.take_succ_cons,cN];omega⟩
theorem qP:∀(zs:List (Str×List Th)) (j k:Nat) (z:Str×List Th),zs[j]?=some z->j < k->cN (zs.take j) + 2 + szL z.2<=cN (zs.take k)
 | [],j,k,z,h,_=>by simp at h
 | y::r,0,k + 1,z,h,_=>by
   have e:y=z:=by simpa using h
   subst e
   rw [List.take_succ_cons,cN,List.take_zero,cN];omega
 | y::r,j + 1,k + 1,z,h,hk=>by
   have:=qP r j k z (by simpa using h) (by omega)
   rw [List.take_succ_cons,List.take_succ_cons,cN,cN];omega
section
variable {S:List ay}{Ld:List (List Int)}{names:List Str}{f:Nat}{w:Int}{z:Str×List Th}
abbrev lst (f:Nat)(z:Str×List Th):Nat:=f + 1 + szL z.2
structure dE (S:List ay) (Ld:List (List Int)) (names:List Str) (f:Nat) (w:Int) (z:Str×List Th):Prop where
 k:aH S (f:Int)="part"
 nm:S[f]?=some ⟨"part",z.1,w, -1⟩
 s:c7 S (f + 1) (bP names (((f + 1:Nat)):Int) (w + 2) (f:Int) z.2)
 d:c7 Ld (f + 1) (gc (((f + 1:Nat)):Int) 0 ((lst f z:Nat):Int) z.2)
 e:S[lst f z]?=some ⟨"end","",w + 2 + (wdL names z.2).length,(f:Int)⟩
 df:Ld.getD f []=[(f:Int) + 1]
 dl:Ld.getD (lst f z) []=[]
 dn:lst f z < Ld.length
theorem BP.p (h:BP S Ld names f w z):dE S Ld names f w z:=by
 obtain ⟨hS,hL⟩:=h
 obtain ⟨s1,s2⟩:=hS.app
 obtain ⟨s2,s3⟩:=s2.app
 obtain ⟨d1,d2⟩:=hL.app
 obtain ⟨d2,d3⟩:=d2.app
 rw [bN] at s3
 rw [cY] at d3
 simp only [List.length_cons,List.length_nil] at s2 s3 d2 d3
 refine ⟨(s1.k (i:=0) rfl).1,s1 0 _ rfl,by push_cast;exact s2,by push_cast;exact d2,s3 0 _ rfl,(d1.d (i:=0) rfl []).1,(d3.d (i:=0) rfl []).1,(d3.d (i:=0) rfl []).2⟩
theorem jc {n:Nat}{s:ay}(h:S[n]?=some s):aH S (n:Int)=s.kind/\bF S (n:Int)=s.within:=by
 have e:S.getD ((n:Nat):Int).toNat c6=s:=by rw [show ((n:Nat):Int).toNat=n by omega,List.getD_eq_getElem?_getD,h];rfl
 exact ⟨by unfold aH;rw [e],by show (S.getD ((n:Nat):Int).toNat c6).within=_;rw [e]⟩
theorem dE.cl (h:dE S Ld names f w z)(hcw:(cw S).Nodup):bC (cR S) (f:Int)=some ((lst f z:Nat):Int):=kT hcw h.e (show ("end":Str)∈closg by decide +kernel)
theorem dE.all (h:dE S Ld names f w z)(hcw:(cw S).Nodup){lo m:Int}(hok:bz lo m false z.2):∀n,f<=n->n < lst f z->ig S Ld ((f:Int) + 1) ((lst f z:Nat):Int) n:=by
 have fl:f < S.length:=(List.getElem?_eq_some_iff.mp h.nm).1
 have hs:=sU (B:=(f:Int) + 1) (lo:=lo) (m:=m) hcw z.2 false (f + 1) (w + 2) (f:Int) 0 hok h.s h.d ⟨⟨(f:Int),.here (by omega) (by omega) h.k,h.cl hcw⟩,(λq=>by cases q),Int.le_refl _,by omega,by omega⟩ (by push_cast;omega)
 intro n h1 h2
 by_cases q:n=f
 ·subst q
  exact f6 h.df (.oth (.inl h.k)) (by omega) (by push_cast;omega) (.inl (by omega))
 ·have h2':n < f + 1 + szL z.2:=h2
  have:=hs (n - (f + 1)) (by omega)
  rwa [show f + 1 + (n - (f + 1))=n by omega] at this
theorem dE.last (h:dE S Ld names f w z):c8 S (cR S) ((lst f z:Nat):Int) (Ld.getD (lst f z) []):=by
 obtain ⟨k1,k2⟩:=jc h.e
 have fl:f < S.length:=(List.getElem?_eq_some_iff.mp h.nm).1
 rw [h.dl]
 exact .enp k1 (by rw [k2];show (0:Int)<=(f:Int);omega) (by rw [k2];show (f:Int) < _;omega) (by rw [k2];exact h.k)
end
section
variable {names:List Str}{Ls:List (List Th)}
abbrev eL (names:List Str)(Ls:List (List Th)):List (Str×List Th):=names.zip Ls
abbrev dz (names:List Str)(Ls:List (List Th)):List (List Int):=mR 0 (eL names Ls)
abbrev fst (names:List Str)(Ls:List (List Th))(j:Nat):Nat:=cN ((eL names Ls).take j)
theorem nL {j:Nat}{z:Str×List Th}(h:(eL names Ls)[j]?=some z):∃w,dE (aD names Ls) (dz names Ls) names (fst names Ls j) w z:=by
 obtain ⟨w,hw⟩:=sJ (S:=aD names Ls) (Ld:=dz names Ls) (names:=names) (zs:=eL names Ls) (a:=0) (w:=0) (c7.self _) (c7.self _) j z h
 rw [Nat.zero_add] at hw
 exact ⟨w,hw.p⟩
theorem kY:(cw (aD names Ls)).Nodup:=(Er (names:=names) (eL names Ls) 0 0).1
theorem gv (h:f7 names Ls){j:Nat}{z:Str×List Th}(hz:(eL names Ls)[j]?=some z):bz (j:Int) (Ls.length:Int) false z.2/\eQ z.2/\bO z.2<=14/\names[j]?=some z.1/\Ls[j]?=some z.2:=by
 obtain ⟨h1,h2⟩:=gH hz
 have hm:=List.mem_of_getElem? h2
 exact ⟨h.ok j z.2 h2,h.hd z.2 hm,h.rw z.2 hm,h1,h2⟩
theorem wU:(aD names Ls).length=cN (eL names Ls):=qx _ _ _
theorem DN:(dz names Ls).length=cN (eL names Ls):=qa _ _
theorem jY (h:f7 names Ls)(n:Nat)(hn:n < (aD names Ls).length):∃(j:Nat) (z:Str×List Th) (w:Int),(eL names Ls)[j]?=some z/\dE (aD names Ls) (dz names Ls) names (fst names Ls j) w z/\fst names Ls j<=n/\n<=lst (fst names Ls j) z/\lst (fst names Ls j) z < (aD names Ls).length:=by
 rw [wU] at hn
 obtain ⟨j,z,h1,h2,h3⟩:=cover _ n hn
 obtain ⟨w,hb⟩:=nL (names:=names) (Ls:=Ls) h1
 refine ⟨j,z,w,h1,hb,h2,by show n<=cN (List.take j (eL names Ls)) + 1 + szL z.2;omega,(List.getElem?_eq_some_iff.mp hb.e).1⟩
theorem wJ (h:f7 names Ls):se (aD names Ls) (dz names Ls)/\o9 (aD names Ls) (dz names Ls)/\∀ls∈dz names Ls,ls.length<=2:=by
 have hl:(dz names Ls).length=(aD names Ls).length:=by rw [wU,DN]
 have key:∀n,n < (aD names Ls).length->c8 (aD names Ls) (cR (aD names Ls)) (n:Int) ((dz names Ls).getD n [])/\(∀l∈(dz names Ls).getD n [],0<=l/\l < ((aD names Ls).length:Int))/\((dz names Ls).getD n []).length<=2:=by
  intro n hn
  obtain ⟨j,z,w,hz,hb,h1,h2,h3⟩:=jY h n hn
  by_cases q:n=lst (fst names Ls j) z
  ·subst q
   refine ⟨hb.last,?_,?_⟩
   ·rw [hb.dl];intro l hl;cases hl
   ·rw [hb.dl];exact Nat.zero_le _
  ·have st:=hb.all kY (gv h hz).1 n h1 (by omega)
   refine ⟨st.ld,λl hl'=>?_,st.ln⟩
   have:=st.rg l hl'
   omega
 have mem:∀ls∈dz names Ls,∃n,n < (aD names Ls).length/\(dz names Ls).getD n []=ls:=λls hm=>by
  obtain ⟨n,hn,e⟩:=List.getElem_of_mem hm
  exact ⟨n,by omega,by rw [List.getD_eq_getElem?_getD,List.getElem?_eq_getElem hn,e];rfl⟩
 refine ⟨⟨hl,λn hn=>(key n hn).1⟩,⟨hl,λls hm l hl'=>?_⟩,λls hm=>?_⟩
 ·obtain ⟨n,hn,e⟩:=mem ls hm
  exact (key n hn).2.1 l (by rw [e];exact hl')
 ·obtain ⟨n,hn,e⟩:=mem ls hm
  rw [← e];exact (key n hn).2.2
end
section
variable {S:List ay}{Ld:List (List Int)}
variable {n:Nat}
theorem qW {i:Nat}(hi:i < S.length)(hn:n≠S.length - 1 - i):(sdF S Ld (i + 1)).getD n 0=(sdF S Ld i).getD n 0:=by
 rw [gJ hi]
 unfold kM
 split
 ·simp only [List.getD_eq_getElem?_getD]
  rw [List.getElem?_set_ne (by omega)]
 ·rfl
theorem nB:∀(i n:Nat),i<=S.length->n < S.length - i->(sdF S Ld i).getD n 0=(n:Int)
 | 0,n,_,h=>by
   show (ups 0 S.length).getD n 0=_
   rw [List.getD_eq_getElem?_getD]
   unfold ups
   rw [List.getElem?_map,List.getElem?_range (by omega)]
   show (0:Int) + (n:Int)=_
   omega
 | i + 1,n,hi,h=>by rw [qW (by omega) (by omega)];exact nB i n (by omega) (by omega)
theorem qm {i n:Nat}(hn:S.length - i<=n):∀d:Nat,i + d<=S.length->(sdF S Ld (i + d)).getD n 0=(sdF S Ld i).getD n 0
 | 0,_=>rfl
 | d + 1,h=>by rw [← Nat.add_assoc,qW (by omega) (by omega)];exact qm hn d (by omega)
theorem nE {i:Nat}(hi:i<=S.length)(hn:S.length - i<=n):(sdF S Ld i).getD n 0=(cP S Ld).getD n 0:=by
 have:=qm (S:=S) (Ld:=Ld) hn (S.length - i) (by omega)
 rw [show i + (S.length - i)=S.length by omega] at this
 exact this.symm
theorem i4 (hn:n < S.length)(h:(Ld.getD n [])=[]∨bD (aH S (n:Int))=true):(cP S Ld).getD n 0=(n:Int):=by
 rw [← nE (i:=S.length - 1 - n + 1) (by omega) (by omega),gJ (by omega),show (S.length:Int) - 1 - ((S.length - 1 - n:Nat):Int)=(n:Int) by omega]
 unfold kM
 rw [if_neg (by
  rw [show ((n:Nat):Int).toNat=n by omega]
  rintro ⟨h1,h2⟩
  rcases h with h | h
  ·rw [h] at h1;cases h1
  ·rw [h] at h2;cases h2)]
 exact nB _ n (by omega) (by omega)
theorem nW (hn:n < S.length){l:Int}{r:List Int}(hL:Ld.getD n []=l::r)(hr:bD (aH S (n:Int))=false)(l0:0<=l)(l1:l < (S.length:Int)):(cP S Ld).getD n 0=if (n:Int) < l then (cP S Ld).getD l.toNat 0 else l:=by
 rw [← nE (i:=S.length - 1 - n + 1) (n:=n) (by omega) (by omega),gJ (by omega),show (S.length:Int) - 1 - ((S.length - 1 - n:Nat):Int)=(n:Int) by omega]
 unfold kM
 rw [show ((n:Nat):Int).toNat=n by omega,hL,if_pos ⟨rfl,hr⟩]
 have ln:=gD (S:=S) (Ld:=Ld) (S.length - 1 - n) (by omega)
 rw [List.getD_eq_getElem?_getD,List.getElem?_set_self (by omega)]
 show (sdF S Ld (S.length - 1 - n)).getD l.toNat 0=_
 by_cases q:(n:Int) < l
 ·rw [if_pos q];exact nE (by omega) (by omega)
 ·rw [if_neg q,nB _ _ (by omega) (by omega)];omega
end
section
variable {S:List ay}{Ld:List (List Int)}{names:List Str}{f:Nat}{w:Int}{z:Str×List Th}
variable {lo m:Int}
def Eh (S:List ay)(f l:Nat)(v:Int):Prop:=(f:Int) < v/\v<=(l:Int)/\(v=(l:Int)∨bD (aH S v)=true)
theorem dE.DU (h:dE S Ld names f w z)(hcw:(cw S).Nodup)(hok:bz lo m false z.2):∀(d n:Nat),lst f z - n=d->f<=n->n<=lst f z->Eh S f (lst f z) ((cP S Ld).getD n 0):=by
 have ll:lst f z < S.length:=(List.getElem?_eq_some_iff.mp h.e).1
 have fl:f < lst f z:=by show f < f + 1 + szL z.2;omega
 intro d
 induction d using Nat.strongRecOn with
 | _ d ih=>
   intro n hd h1 h2
   by_cases q:n=lst f z
   ·rw [q,i4 ll (.inl h.dl)]
    exact ⟨by omega,Int.le_refl _,.inl rfl⟩
   ·have st:=h.all hcw hok n h1 (by omega)
    cases hr:bD (aH S (n:Int)) with
    | true=>
      rw [i4 (by omega) (.inr hr)]
      have:n≠f:=λe=>by
       rw [e,h.k] at hr
       exact absurd hr (by decide +kernel)
      exact ⟨by omega,by omega,.inr hr⟩
    | false=>
      obtain ⟨l,r,hL,hg⟩:=st.go hr
      obtain ⟨r0,r1⟩:=st.rg l (by rw [hL];exact List.mem_cons_self)
      rw [nW (by omega) hL hr (by omega) (by omega)]
      by_cases ql:(n:Int) < l
      ·rw [if_pos ql]
       exact ih (lst f z - l.toNat) (by omega) l.toNat rfl (by omega) (by omega)
      ·rw [if_neg ql]
       exact ⟨by omega,r1,.inr (hg.resolve_left ql)⟩
theorem kA (h:dE S Ld names f w z)(hok:bz lo m false z.2)(hh:eQ z.2):bD (aH S ((f + 1:Nat):Int))=true/\1<=szL z.2:=by
 obtain ⟨t,ts,e,hb⟩:=hh
 have hs:=h.s
 rw [e] at hs hok ⊢
 rw [bP] at hs
 simp only [bz] at hok
 rw [szL]
 have hs:=hs.pre
 cases t with
 | doo x=>rw [spT] at hs;refine ⟨?_,by simp only [bo];omega⟩;rw [show ((f + 1:Nat):Int)=((f + 1 + 0:Nat):Int) from rfl,(hs.k (i:=0) rfl).1];exact zI
 | call x=>rw [spT] at hs;refine ⟨?_,by simp only [bo];omega⟩;rw [show ((f + 1:Nat):Int)=((f + 1 + 0:Nat):Int) from rfl,(hs.k (i:=0) rfl).1];exact wQ
 | ifs x A B=>rw [spT] at hs;refine ⟨?_,by simp only [bo];omega⟩;rw [show ((f + 1:Nat):Int)=((f + 1 + 0:Nat):Int) from rfl,(hs.pre.pre.k (i:=0) rfl).1];exact uQ
 | whil x A=>rw [spT] at hs;refine ⟨?_,by simp only [bo];omega⟩;rw [show ((f + 1:Nat):Int)=((f + 1 + 0:Nat):Int) from rfl,(hs.pre.k (i:=0) rfl).1];exact jt
 | leave=>simp only [bV] at hok;cases hok.1
 | back=>cases hb
theorem dE.first (h:dE S Ld names f w z)(hok:bz lo m false z.2)(hh:eQ z.2):(cP S Ld).getD f 0=((f + 1:Nat):Int):=by
 have ll:lst f z < S.length:=(List.getElem?_eq_some_iff.mp h.e).1
 have ll:f + 1 + szL z.2 < S.length:=ll
 obtain ⟨hr,h1⟩:=kA h hok hh
 rw [nW (n:=f) (by omega) h.df (by rw [h.k];decide +kernel) (by omega) (by omega),if_pos (by omega),show ((f:Int) + 1).toNat=f + 1 by omega]
 exact i4 (by omega) (.inr hr)
def jh (Ld:List (List Int))(fd:List Int):Prop:=∀n∈fd,∀l∈Ld.getD n.toNat [],l∈fd
theorem jh.on {Ld:List (List Int)}{fd:List Int}(h:jh Ld fd){n:Nat}{ls:List Int}(hn:(n:Int)∈fd)(hL:Ld.getD n []=ls){l:Int}(hl:l∈ls):l∈fd:=h _ hn l (by rw [show ((n:Nat):Int).toNat=n by omega,hL];exact hl)
end
section
variable {S:List ay}{Ld:List (List Int)}{names:List Str}{fd:List Int}{lo m:Int}(hC:jh Ld fd)
include hC
mutual
theorem goT:∀(t:Th) (lp:Bool) (a:Nat) (w u wl pe:Int),bV lo m lp t->c7 S a (spT names (a:Int) w u t)->c7 Ld a (eN (a:Int) wl pe t)->(a:Int)∈fd->(∀i,i < bo t->aH S ((a + i:Nat):Int)∈sents->((a + i:Nat):Int)∈fd)/\(cZ t=true->((a + bo t:Nat):Int)∈fd)
 | .doo x,lp,a,w,u,wl,pe,h,hS,hL,ha=>by
   rw [eN] at hL
   simp only [bo]
   refine ⟨(λi hi _=>by cases (show i=0 by omega);exact ha),(λ_=>?_)⟩
   have:=hC.on ha (hL.d (i:=0) rfl []).1 (l:=(a:Int) + 1) (List.mem_singleton.mpr rfl)
   push_cast;exact this
 | .call x,lp,a,w,u,wl,pe,h,hS,hL,ha=>by
   rw [eN] at hL
   simp only [bo]
   refine ⟨(λi hi _=>by cases (show i=0 by omega);exact ha),(λ_=>?_)⟩
   have:=hC.on ha (hL.d (i:=0) rfl []).1 (l:=(a:Int) + 1) (List.mem_singleton.mpr rfl)
   push_cast;exact this
 | .leave,lp,a,w,u,wl,pe,h,hS,hL,ha=>by
   simp only [bo]
   exact ⟨(λi hi _=>by cases (show i=0 by omega);exact ha),(λq=>by simp [cZ] at q)⟩
 | .back,lp,a,w,u,wl,pe,h,hS,hL,ha=>by
   simp only [bo]
   exact ⟨(λi hi _=>by cases (show i=0 by omega);exact ha),(λq=>by simp [cZ] at q)⟩
 | .whil x A,lp,a,w,u,wl,pe,h,hS,hL,ha=>by
   simp only [bV] at h
   rw [spT] at hS
   rw [eN] at hL
   simp only [bo]
   obtain ⟨s1,s2⟩:=hS.app
   obtain ⟨s2,s3⟩:=s2.app
   obtain ⟨d1,d2⟩:=hL.app
   obtain ⟨d2,d3⟩:=d2.app
   rw [bN] at s3
   simp only [List.length_cons,List.length_nil] at s2 s3 d2 d3
   have e1:=(d1.d (i:=0) rfl []).1
   have g1:(((a + (0 + 1):Nat)):Int)∈fd:=by
    have:=hC.on ha e1 (l:=(a:Int) + 1) List.mem_cons_self
    push_cast;simpa using this
   have g2:(((a + (2 + szL A):Nat)):Int)∈fd:=by
    have:=hC.on ha e1 (l:=(a:Int) + 2 + szL A) (List.mem_cons_of_mem _ (List.mem_singleton.mpr rfl))
    rwa [show (((a + (2 + szL A):Nat)):Int)=(a:Int) + 2 + szL A by push_cast;omega]
   obtain ⟨q1,_⟩:=vd A true (a + (0 + 1)) (w + 2) (a:Int) ((a:Int) + 2 + szL A) pe h.2 (by push_cast;exact s2) (by push_cast;exact d2) g1
   refine ⟨λi hi hk=>?_,λ_=>g2⟩
   by_cases i0:i=0
   ·subst i0;exact ha
   by_cases i1:i < 1 + szL A
   ·have:=q1 (i - 1) (by omega) (by rw [show a + (0 + 1) + (i - 1)=a + i by omega];exact hk)
    rwa [show a + (0 + 1) + (i - 1)=a + i by omega] at this
   ·obtain rfl:i=1 + szL A:=by omega
    have ke:=(s3.k (i:=0) rfl).1
    rw [show a + (0 + 1) + szL A + 0=a + (1 + szL A) by omega] at ke
    rw [ke] at hk
    exact absurd hk (show ("end":Str)∉sents by decide +kernel)
 | .ifs x A B,lp,a,w,u,wl,pe,h,hS,hL,ha=>by
   simp only [bV] at h
   rw [spT,List.append_assoc] at hS
   rw [eN,List.append_assoc] at hL
   simp only [bo]
   obtain ⟨s1,s2⟩:=hS.app
   obtain ⟨s2,s3⟩:=s2.app
   obtain ⟨s3,s4⟩:=s3.app
   obtain ⟨s4,s5⟩:=s4.app
   obtain ⟨d1,d2⟩:=hL.app
   obtain ⟨d2,d3⟩:=d2.app
   obtain ⟨d3,d4⟩:=d3.app
   obtain ⟨d4,d5⟩:=d4.app
   rw [bN] at s3 s4 s5
   rw [bN] at s5
   rw [cY] at d3 d4 d5
   rw [cY] at d5
   simp only [List.length_cons,List.length_nil] at s2 s3 s4 s5 d2 d3 d4 d5
   have e1:=(d1.d (i:=0) rfl []).1
   have e3:=(d3.d (i:=0) rfl []).1
   have e5:=(d5.d (i:=0) rfl []).1
   have g1:(((a + (0 + 1):Nat)):Int)∈fd:=by
    have:=hC.on ha e1 (l:=(a:Int) + 1) List.mem_cons_self
    push_cast;simpa using this
   have g2:(((a + (0 + 1) + szL A + (0 + 1):Nat)):Int)∈fd:=by
    have:=hC.on ha e1 (l:=(a:Int) + 2 + szL A) (List.mem_cons_of_mem _ (List.mem_singleton.mpr rfl))
    rwa [show (((a + (0 + 1) + szL A + (0 + 1):Nat)):Int)=(a:Int) + 2 + szL A by push_cast;omega]
   obtain ⟨q1,q2⟩:=vd A lp (a + (0 + 1)) (w + 2) (a:Int) wl pe h.2.1 (by push_cast;exact s2) (by push_cast;exact d2) g1
   have q4:(((a + (0 + 1) + szL A + (0 + 1):Nat)):Int)=(a:Int) + 2 + szL A:=by push_cast;omega
   obtain ⟨q3,q5⟩:=vd B lp (a + (0 + 1) + szL A + (0 + 1)) (w + 3 + (wdL names A).length) ((a:Int) + 1 + szL A) wl pe h.2.2 (by rw [q4];exact s4) (by rw [q4];exact d4) g2
   have fin:(((a + (0 + 1) + szL A + (0 + 1) + szL B + 0:Nat)):Int)∈fd->(((a + (3 + szL A + szL B):Nat)):Int)∈fd:=λq=>by
    have:=hC.on q e5 (l:=(a:Int) + 3 + szL A + szL B) (List.mem_singleton.mpr rfl)
    rwa [show (((a + (3 + szL A + szL B):Nat)):Int)=(a:Int) + 3 + szL A + szL B by push_cast;omega]
   refine ⟨λi hi hk=>?_,λhp=>fin ?_⟩
   ·by_cases i0:i=0
    ·subst i0;exact ha
    by_cases i1:i < 1 + szL A
    ·have:=q1 (i - 1) (by omega) (by rw [show a + (0 + 1) + (i - 1)=a + i by omega];exact hk)
     rwa [show a + (0 + 1) + (i - 1)=a + i by omega] at this
    by_cases i2:i=1 + szL A
    ·subst i2
     have ke:=(s3.k (i:=0) rfl).1
     rw [show a + (0 + 1) + szL A + 0=a + (1 + szL A) by omega] at ke
     rw [ke] at hk
     exact absurd hk (show ("else":Str)∉sents by decide +kernel)
    by_cases i3:i < 2 + szL A + szL B
    ·have:=q3 (i - (2 + szL A)) (by omega) (by rw [show a + (0 + 1) + szL A + (0 + 1) + (i - (2 + szL A))=a + i by omega];exact hk)
     rwa [show a + (0 + 1) + szL A + (0 + 1) + (i - (2 + szL A))=a + i by omega] at this
    ·obtain rfl:i=2 + szL A + szL B:=by omega
     have ke:=(s5.k (i:=0) rfl).1
     rw [show a + (0 + 1) + szL A + (0 + 1) + szL B + 0=a + (2 + szL A + szL B) by omega] at ke
     rw [ke] at hk
     exact absurd hk (show ("end":Str)∉sents by decide +kernel)
   ·simp only [cZ,Bool.or_eq_true] at hp
    rcases hp with hp | hp
    ·have hel:=q2 hp
     have:=hC.on (n:=a + (0 + 1) + szL A + 0) hel e3 (l:=(a:Int) + 2 + szL A + szL B) (List.mem_singleton.mpr rfl)
     rwa [show (((a + (0 + 1) + szL A + (0 + 1) + szL B + 0:Nat)):Int)=(a:Int) + 2 + szL A + szL B by push_cast;omega]
    ·exact q5 hp
theorem vd:∀(ts:List Th) (lp:Bool) (a:Nat) (w u wl pe:Int),bz lo m lp ts->c7 S a (bP names (a:Int) w u ts)->c7 Ld a (gc (a:Int) wl pe ts)->(a:Int)∈fd->(∀i,i < szL ts->aH S ((a + i:Nat):Int)∈sents->((a + i:Nat):Int)∈fd)/\(cq ts=true->((a + szL ts:Nat):Int)∈fd)
 | [],lp,a,w,u,wl,pe,h,hS,hL,ha=>by
   rw [szL]
   exact ⟨λi hi=>by omega,λ_=>ha⟩
 | t::ts,lp,a,w,u,wl,pe,h,hS,hL,ha=>by
   simp only [bz] at h
   rw [bP] at hS
   rw [gc] at hL
   rw [szL]
   obtain ⟨s1,s2⟩:=hS.app
   obtain ⟨d1,d2⟩:=hL.app
   rw [jX] at s2
   rw [mr] at d2
   obtain ⟨q1,q2⟩:=goT t lp a w u wl pe h.1 s1 d1 ha
   rcases h.2.1 with hp | hp
   ·obtain ⟨q3,q4⟩:=vd ts lp (a + bo t) (w + (bU names t).length) u wl pe h.2.2 (by push_cast;exact s2) (by push_cast;exact d2) (q2 hp)
    refine ⟨λi hi hk=>?_,λhpp=>?_⟩
    ·by_cases q:i < bo t
     ·exact q1 i q hk
     ·have:=q3 (i - bo t) (by omega) (by rw [show a + bo t + (i - bo t)=a + i by omega];exact hk)
      rwa [show a + bo t + (i - bo t)=a + i by omega] at this
    ·rw [cq,Bool.and_eq_true] at hpp
     have:=q4 hpp.2
     rwa [show a + bo t + szL ts=a + (bo t + szL ts) by omega] at this
   ·subst hp
    rw [szL]
    refine ⟨λi hi hk=>q1 i (by omega) hk,λhpp=>?_⟩
    rw [cq,Bool.and_eq_true] at hpp
    exact q2 hpp.1
end
end
structure vV (names:List Str) (lo m:Int) (s:ay):Prop where
 np:s.kind≠"part"
 cl:s.kind="call"->∃j:Int,lo < j/\j < m/\s.name=names.getD j.toNat ""
theorem dM {names:List Str}{lo m:Int}{s:ay}(h1:s.kind≠"part")(h2:s.kind≠"call"):vV names lo m s:=⟨h1,λe=>absurd e h2⟩
theorem all1 {P:ay->Prop}{s:ay}(h:P s):∀x∈[s],P x:=λx hx=>by rw [List.mem_singleton.mp hx];exact h
theorem kD {P:ay->Prop}{a b:List ay}(h:∀x∈a,P x)(h':∀x∈b,P x):∀x∈a++b,P x:=λx hx=>(List.mem_append.mp hx).elim (h x) (h' x)
mutual
theorem AE {names:List Str}{lo m:Int}:∀(t:Th) (lp:Bool) (a w u:Int),bV lo m lp t->∀s∈spT names a w u t,vV names lo m s
 | .doo x,lp,a,w,u,h=>by rw [spT];exact all1 (dM (show ("do":Str)≠"part" by decide +kernel) (show ("do":Str)≠"call" by decide +kernel))
 | .call j,lp,a,w,u,h=>by
   simp only [bV] at h
   rw [spT];exact all1 ⟨show ("call":Str)≠"part" by decide +kernel,λ_=>⟨j,h.1,h.2,rfl⟩⟩
 | .leave,lp,a,w,u,h=>by rw [spT];exact all1 (dM (show ("leave":Str)≠"part" by decide +kernel) (show ("leave":Str)≠"call" by decide +kernel))
 | .back,lp,a,w,u,h=>by rw [spT];exact all1 (dM (show ("back":Str)≠"part" by decide +kernel) (show ("back":Str)≠"call" by decide +kernel))
 | .whil x A,lp,a,w,u,h=>by
   simp only [bV] at h
   rw [spT]
   exact kD (all1 (dM (show ("while":Str)≠"part" by decide +kernel) (show ("while":Str)≠"call" by decide +kernel))) (kD (gW A true _ _ _ h.2) (all1 (dM (show ("end":Str)≠"part" by decide +kernel) (show ("end":Str)≠"call" by decide +kernel))))
 | .ifs x A B,lp,a,w,u,h=>by
   simp only [bV] at h
   rw [spT]
   exact kD (kD (all1 (dM (show ("if":Str)≠"part" by decide +kernel) (show ("if":Str)≠"call" by decide +kernel))) (gW A lp _ _ _ h.2.1)) (kD (all1 (dM (show ("else":Str)≠"part" by decide +kernel) (show ("else":Str)≠"call" by decide +kernel))) (kD (gW B lp _ _ _ h.2.2) (all1 (dM (show ("end":Str)≠"part" by decide +kernel) (show ("end":Str)≠"call" by decide +kernel)))))
theorem gW {names:List Str}{lo m:Int}:∀(ts:List Th) (lp:Bool) (a w u:Int),bz lo m lp ts->∀s∈bP names a w u ts,vV names lo m s
 | [],lp,a,w,u,h=>by rw [bP];intro s hs;cases hs
 | t::ts,lp,a,w,u,h=>by
   simp only [bz] at h
   rw [bP]
   exact kD (AE t lp _ _ _ h.1) (gW ts lp _ _ _ h.2.2)
end
theorem call_in {names:List Str}{j:Int}:∀{ts:List Th} (a w u:Int),Th.call j∈ts->∃s∈bP names a w u ts,s.kind="call"/\s.name=names.getD j.toNat ""
 | t::ts,a,w,u,h=>by
   rw [bP]
   rcases List.mem_cons.mp h with rfl | h
   ·exact ⟨_,List.mem_append_left _ (by rw [spT];exact List.mem_singleton.mpr rfl),rfl,rfl⟩
   ·obtain ⟨s,hs,h1⟩:=call_in (names:=names) (j:=j) (ts:=ts) (a + bo t) (w + (bU names t).length) u h
    exact ⟨s,List.mem_append_right _ hs,h1⟩
def fK (k:Str):Nat:=((de fH k).getD []).length
def gI (S:List ay):Nat:=(S.map λs=>fK s.kind).sum
theorem eu (a b:List ay):gI (a++b)=gI a + gI b:=by unfold gI;rw [List.map_append,List.sum_append]
theorem dQ (s:ay):gI [s]=fK s.kind:=by unfold gI;simp
mutual
theorem rkT {names:List Str}:∀(t:Th) (a w u:Int),gI (spT names a w u t)=cG t
 | .doo x,a,w,u=>by rw [spT,dQ,cG];show fK "do"=1;decide +kernel
 | .call x,a,w,u=>by rw [spT,dQ,cG];show fK "call"=1;decide +kernel
 | .leave,a,w,u=>by rw [spT,dQ];simp only [cG];show fK "leave"=0;decide +kernel
 | .back,a,w,u=>by rw [spT,dQ];simp only [cG];show fK "back"=0;decide +kernel
 | .whil x A,a,w,u=>by
   rw [spT,cG,eu,eu,dQ,dQ,qH A,show fK "while"=2 by decide +kernel,show fK "end"=0 by decide +kernel];omega
 | .ifs x A B,a,w,u=>by
   rw [spT,cG,eu,eu,eu,eu,dQ,dQ,dQ,qH A,qH B,show fK "if"=2 by decide +kernel,show fK "end"=0 by decide +kernel,show fK "else"=0 by decide +kernel];omega
theorem qH {names:List Str}:∀(ts:List Th) (a w u:Int),gI (bP names a w u ts)=bO ts
 | [],a,w,u=>by rw [bP,bO];rfl
 | t::ts,a,w,u=>by rw [bP,bO,eu,rkT t,qH ts]
end
section
variable {Kp:List Int}
theorem Ei {names:List Str}:∀(zs:List (Str×List Th)) (a w:Int),gI (eI names a w zs)=(zs.map λz=>bO z.2).sum
 | [],a,w=>by rw [eI];rfl
 | z::r,a,w=>by
   rw [eI,eu,eu,eu,dQ,dQ,qH,Ei r,show fK "part"=0 by decide +kernel,show fK "end"=0 by decide +kernel,List.map_cons,List.sum_cons];omega
theorem pC {α β:Type}{f:α->List β}{g:α->Nat}(h:∀x,(f x).length<=g x):∀xs:List α,(xs.flatMap f).length<=(xs.map g).sum
 | []=>Nat.zero_le _
 | x::xs=>by
   rw [List.flatMap_cons,List.length_append,List.map_cons,List.sum_cons]
   have:=h x
   have:=pC h xs
   omega
theorem wF (S:List ay)(Ld:List (List Int))(St:List Int):(g9 S Ld St).length<=gI S:=by
 have:=pC (f:=dW Ld St) (g:=λz=>fK z.2.kind) (λz=>by
  unfold dW jj
  rw [List.length_map,List.length_zip]
  exact Nat.min_le_left _ _) (nums S)
 refine Nat.le_trans this (Nat.le_of_eq ?_)
 unfold gI
 conv=>rhs;rw [← kE S]
 rw [List.map_map]
 rfl
theorem px {S:List ay}{Ld:List (List Int)}{St:List Int}{r:Rw}(h:r∈g9 S Ld St):∃(n:Nat) (s:ay) (l:Int),S[n]?=some s/\r.1=(n:Int)/\bD s.kind=true/\l∈Ld.getD n []/\r.2.1=St.getD l.toNat 0:=by
 unfold g9 at h
 obtain ⟨z,hz,hr⟩:=List.mem_flatMap.mp h
 unfold dW at hr
 obtain ⟨y,hy,rfl⟩:=List.mem_map.mp hr
 obtain ⟨i,hi⟩:=List.mem_iff_getElem?.mp hz
 obtain ⟨e1,e2⟩:=eM hi
 unfold jj at hy
 obtain ⟨h1,h2⟩:=List.of_mem_zip (show (y.1,y.2)∈_ from hy)
 rw [e1,show ((i:Nat):Int).toNat=i by omega] at h2
 refine ⟨i,z.2,y.2,e2,e1,?_,h2,rfl⟩
 unfold bD
 cases q:de fH z.2.kind with
 | none=>rw [q] at h1;cases h1
 | some v=>rfl
theorem wu {k:Str}(h:bD k=true):k∈sents:=by
 unfold bD de at h
 split at h
 ·rename_i e;rw [← e];decide +kernel
 unfold de at h
 split at h
 ·rename_i e;rw [← e];decide +kernel
 unfold de at h
 split at h
 ·rename_i e;rw [← e];decide +kernel
 unfold de at h
 split at h
 ·rename_i e;rw [← e];decide +kernel
 ·cases h
theorem u5:∀{l m:List Int},l.Nodup->(∀x∈l,x∈m)->l.length<=m.length
 | [],m,_,_=>Nat.zero_le _
 | x::l,m,nd,h=>by
   obtain ⟨n1,n2⟩:=List.nodup_cons.mp nd
   have hx:=h x List.mem_cons_self
   have:=u5 (l:=l) (m:=m.erase x) n2 λy hy=>by
    have:y≠x:=λe=>n1 (e▸hy)
    exact (List.mem_erase_of_ne this).mpr (h y (List.mem_cons_of_mem _ hy))
   rw [List.length_erase_of_mem hx] at this
   have:0 < m.length:=List.length_pos_of_mem hx
   rw [List.length_cons];omega
def gU (Kp:List Int)(F:List (Int×Int)):Prop:=(F.map (·.1)).Nodup/\∀x∈F.map (·.1),x∈Kp
theorem gU.put {F:List (Int×Int)}(h:gU Kp F){k:Int}(hk:k∈Kp):gU Kp (fZ F k):=by
 unfold fZ
 split
 ·exact h
 ·rename_i hn
  have hnk:k∉F.map (·.1):=λz=>hn (vP.mpr z)
  refine ⟨by rw [List.map_append];exact fo h.1 hnk,λx hx=>?_⟩
  rw [List.map_append] at hx
  rcases List.mem_append.mp hx with z | z
  ·exact h.2 x z
  ·rw [show x=k by simpa using z];exact hk
theorem gU.rows {p:iJ}:∀{rs:List Rw} {F:List (Int×Int)},gU Kp F->(∀r∈rs,qM p r=true->r.1∈Kp/\r.2.1∈Kp)->gU Kp (rs.foldl (gb p) F)
 | [],F,h,_=>h
 | r::rs,F,h,hr=>by
   rw [List.foldl_cons]
   refine gU.rows ?_ λx hx=>hr x (List.mem_cons_of_mem _ hx)
   unfold gb
   split
   ·rename_i hi
    obtain ⟨h1,h2⟩:=hr r List.mem_cons_self hi
    exact (h.put h1).put h2
   ·exact h
theorem gU.len {F:List (Int×Int)}(h:gU Kp F):F.length<=Kp.length:=by
 have:=u5 h.1 h.2
 rwa [List.length_map] at this
theorem qv:∀S:List ay,(S.filter λs=>bD s.kind).length<=gI S
 | []=>Nat.zero_le _
 | s::S=>by
   have ih:=qv S
   have e:gI (s::S)=fK s.kind + gI S:=by unfold gI;rw [List.map_cons,List.sum_cons]
   rw [e]
   by_cases h:bD s.kind=true
   ·rw [List.filter_cons_of_pos (p:=λ(s:ay)=>bD s.kind) h,List.length_cons]
    have:1<=fK s.kind:=by
     unfold fK
     unfold bD de at h
     unfold de
     split at h
     ·rename_i e;rw [if_pos e];decide
     rename_i e
     rw [if_neg e]
     unfold de at h ⊢
     split at h
     ·rename_i e;rw [if_pos e];decide
     rename_i e
     rw [if_neg e]
     unfold de at h ⊢
     split at h
     ·rename_i e;rw [if_pos e];decide
     rename_i e
     rw [if_neg e]
     unfold de at h ⊢
     split at h
     ·rename_i e;rw [if_pos e];decide
     ·cases h
    omega
   ·rw [List.filter_cons_of_neg (p:=λ(s:ay)=>bD s.kind) h];omega
theorem CO {S:List ay}(h:∀s∈S,s.kind≠"part"):pnS S=[]:=by
 unfold pnS
 rw [List.filter_eq_nil_iff.mpr λs hs=>by simpa using h s hs];rfl
theorem zC {names:List Str}{m:Int}:∀(zs:List (Str×List Th)) (a w:Int),(∀z∈zs,∃lo,bz lo m false z.2)->pnS (eI names a w zs)=zs.map (·.1)
 | [],a,w,_=>by rw [eI];rfl
 | z::r,a,w,h=>by
   obtain ⟨lo,hz⟩:=h z List.mem_cons_self
   rw [eI,iR,iR,iR,zC r _ _ λy hy=>h y (List.mem_cons_of_mem _ hy),CO λs hs=>(gW (names:=names) z.2 false _ _ _ hz s hs).np]
   rfl
theorem wL (S:List ay):(c5 S).map (·.1)=pnS S:=by
 unfold c5 pnS
 conv=>rhs;rw [← kE S]
 rw [List.filter_map,List.map_map,List.map_map]
 rfl
end
section
variable {names:List Str}{Ls:List (List Th)}(h:f7 names Ls)
include h
theorem Cf:(eL names Ls).map (·.1)=names:=List.map_fst_zip (by rw [h.l];exact Nat.le_refl _)
theorem BJ:(eL names Ls).map (·.2)=Ls:=List.map_snd_zip (by rw [h.l];exact Nat.le_refl _)
theorem C8:∀z∈eL names Ls,∃lo,bz lo (Ls.length:Int) false z.2:=λz hz=>by
 obtain ⟨j,hj⟩:=List.mem_iff_getElem?.mp hz
 exact ⟨_,(gv h hj).1⟩
theorem xo:pnS (aD names Ls)=names:=by
 rw [zC (m:=(Ls.length:Int)) _ _ _ (C8 h),Cf h]
theorem Cq:(c5 (aD names Ls)).map (·.1)=names:=by rw [wL,xo h]
theorem Cw:(aD names Ls).length<=240:=by
 obtain ⟨pl,_⟩:=oG h
 obtain ⟨e,_⟩:=mE h
 obtain ⟨i1,i2,_⟩:=pE (ir names Ls) (cN (names.zip Ls))
 rw [e] at i1 i2
 dsimp only at i1 i2
 omega
theorem qX {n:Nat}(hn:n < (aD names Ls).length)(hk:aH (aD names Ls) (n:Int)="part"):∃(j:Nat) (z:Str×List Th) (w:Int),(eL names Ls)[j]?=some z/\dE (aD names Ls) (dz names Ls) names (fst names Ls j) w z/\n=fst names Ls j:=by
 obtain ⟨j,z,w,hz,hb,h1,h2,h3⟩:=jY h n hn
 refine ⟨j,z,w,hz,hb,?_⟩
 rcases Nat.lt_or_ge (fst names Ls j) n with q | q
 ·exfalso
  by_cases e:n=lst (fst names Ls j) z
  ·rw [e,(jc hb.e).1] at hk
   exact absurd hk (show ("end":Str)≠"part" by decide +kernel)
  ·have h2':n < fst names Ls j + 1 + szL z.2:=Nat.lt_of_le_of_ne h2 e
   have hi:n - (fst names Ls j + 1) < (bP names (((fst names Ls j + 1:Nat)):Int) (w + 2) (fst names Ls j:Int) z.2).length:=by rw [bN];omega
   have hs:=hb.s.k (List.getElem?_eq_getElem hi)
   rw [show fst names Ls j + 1 + (n - (fst names Ls j + 1))=n by omega] at hs
   rw [hs.1] at hk
   exact (gW (names:=names) z.2 false _ _ _ (gv h hz).1 _ (List.getElem_mem hi)).np hk
 ·omega
theorem ku {p:iJ}(hp:p∈c5 (aD names Ls)):∃(j:Nat) (z:Str×List Th) (w:Int),(eL names Ls)[j]?=some z/\dE (aD names Ls) (dz names Ls) names (fst names Ls j) w z/\p=(z.1,((fst names Ls j:Nat):Int),((lst (fst names Ls j) z:Nat):Int)):=by
 unfold c5 at hp
 obtain ⟨y,hy,rfl⟩:=List.mem_map.mp hp
 obtain ⟨hy,hk⟩:=List.mem_filter.mp hy
 obtain ⟨n,nl,e1,e2⟩:=j4 hy
 have hkn:aH (aD names Ls) (n:Int)="part":=by
  unfold aH;rw [show ((n:Nat):Int).toNat=n by omega,e2];exact of_decide_eq_true hk
 obtain ⟨j,z,w,hz,hb,e3⟩:=qX h nl hkn
 refine ⟨j,z,w,hz,hb,?_⟩
 subst e3
 unfold Bt
 rw [e1,hb.cl kY]
 have:y.2=⟨"part",z.1,w, -1⟩:=by rw [← e2,List.getD_eq_getElem?_getD,hb.nm];rfl
 rw [this]
 rfl
end
theorem sv {α:Type}(l:List α)(d:α)(p:α->Bool):((List.range l.length).filter λi=>p (l.getD i d)).length=(l.filter p).length:=by
 have e:(List.range l.length).map (λi=>l.getD i d)=l:=by
  refine List.ext_getElem? λi=>?_
  rw [List.getElem?_map]
  rcases Nat.lt_or_ge i l.length with h | h
  ·rw [List.getElem?_range h,List.getElem?_eq_getElem h]
   show some (l.getD i d)=_
   rw [List.getD_eq_getElem?_getD,List.getElem?_eq_getElem h];rfl
  ·rw [List.getElem?_eq_none (by simpa using h),List.getElem?_eq_none h];rfl
 conv=>rhs;rw [← e,List.filter_map,List.length_map]
 rfl
def uJ (S:List ay)(f:Nat)(z:Str×List Th):List Int:=((List.range (szL z.2)).filter λi=>bD (aH S ((f + 1 + i:Nat):Int))).map (λi=>((f + 1 + i:Nat):Int))++[((lst f z:Nat):Int)]
theorem nt {S:List ay}{f:Nat}{z:Str×List Th}{v:Int}(h:Eh S f (lst f z) v):v∈uJ S f z:=by
 obtain ⟨h1,h2,h3⟩:=h
 unfold uJ
 by_cases q:v=((lst f z:Nat):Int)
 ·exact List.mem_append_right _ (by rw [q];exact List.mem_singleton.mpr rfl)
 ·have h2':v<=((f + 1 + szL z.2:Nat):Int):=h2
  have q':v≠((f + 1 + szL z.2:Nat):Int):=q
  refine List.mem_append_left _ (List.mem_map.mpr ⟨v.toNat - (f + 1),List.mem_filter.mpr ⟨List.mem_range.mpr (by omega),?_⟩,by omega⟩)
  rw [show ((f + 1 + (v.toNat - (f + 1)):Nat):Int)=v by omega]
  exact h3.resolve_left q
theorem Bs {S:List ay}{Ld:List (List Int)}{names:List Str}{f:Nat}{w:Int}{z:Str×List Th}(h:dE S Ld names f w z)(hr:bO z.2<=14):(uJ S f z).length<=16:=by
 unfold uJ
 rw [List.length_append,List.length_map,List.length_singleton]
 have e:((List.range (szL z.2)).filter λi=>bD (aH S ((f + 1 + i:Nat):Int)))=((List.range (bP names (((f + 1:Nat)):Int) (w + 2) (f:Int) z.2).length).filter λi=>bD ((bP names (((f + 1:Nat)):Int) (w + 2) (f:Int) z.2).getD i c6).kind):=by
  rw [bN]
  refine List.filter_congr λi hi=>?_
  have hi:i < (bP names (((f + 1:Nat)):Int) (w + 2) (f:Int) z.2).length:=by rw [bN];exact List.mem_range.mp hi
  rw [(h.s.k (List.getElem?_eq_getElem hi)).1,List.getD_eq_getElem?_getD,List.getElem?_eq_getElem hi]
  rfl
 rw [e,sv (bP names (((f + 1:Nat)):Int) (w + 2) (f:Int) z.2) c6 λs=>bD s.kind]
 have:=qv (bP names (((f + 1:Nat)):Int) (w + 2) (f:Int) z.2)
 rw [qH] at this
 omega
theorem yr:Pure:=by
 intro names Ls h
 obtain ⟨hLd,hLi,hl2⟩:=wJ h
 have hS:=Cw h
 refine ⟨dz names Ls,⟨hS,hLd,hLi,λn hn hk=>?_⟩,?_⟩
 ·obtain ⟨j,z,w,hz,hb,e⟩:=qX h hn hk
  subst e
  rw [hb.cl kY];rfl
 have bl:∀{j:Nat} {z:Str×List Th} {w:Int},dE (aD names Ls) (dz names Ls) names (fst names Ls j) w z->fst names Ls j < (aD names Ls).length:=λhb=>(List.getElem?_eq_some_iff.mp hb.nm).1
 have hn:=Cq h
 have hlp:(c5 (aD names Ls)).length=names.length:=by rw [← congrArg List.length hn,List.length_map]
 refine ⟨hS,?_,?_,λp hp=>?_,hLi,hl2,gD _ (Nat.le_refl _),?_,λn t ht hk=>?_,λfd hR n hn' hk=>?_,λp hp=>?_,λp hp=>?_,?_,λr hr=>?_,λp hp=>?_⟩
 ·show (c5 (aD names Ls)).length<=4
  rw [hlp,h.l];exact h.l4
 ·show ((c5 (aD names Ls)).map (·.1)).Nodup
  rw [hn];exact h.nd
 ·obtain ⟨j,z,w,hz,hb,rfl⟩:=ku h hp
  have:=bl hb
  exact ⟨by show (0:Int)<=((fst names Ls j:Nat):Int);omega,by show ((fst names Ls j:Nat):Int) < ((aD names Ls).length:Int);omega⟩
 ·show (pnS (aD names Ls)).Nodup
  rw [xo h];exact h.nd
 ·-- calls
  have ht:(aD names Ls)[n]?=some t:=ht
  have hn':=(List.getElem?_eq_some_iff.mp ht).1
  obtain ⟨j,z,w,hz,hb,h1,h2,h3⟩:=jY h n hn'
  have hkn:=(jc ht).1
  have hne:n≠fst names Ls j:=λe=>by
   rw [e,hb.k,hk] at hkn
   exact absurd hkn (by decide +kernel)
  have hnl:n≠lst (fst names Ls j) z:=λe=>by
   rw [e,(jc hb.e).1,hk] at hkn
   exact absurd hkn (show ("end":Str)≠"call" by decide +kernel)
  have h2':n < fst names Ls j + 1 + szL z.2:=Nat.lt_of_le_of_ne h2 hnl
  have hi:n - (fst names Ls j + 1) < (bP names (((fst names Ls j + 1:Nat)):Int) (w + 2) (fst names Ls j:Int) z.2).length:=by rw [bN];omega
  have hs:=hb.s _ _ (List.getElem?_eq_getElem hi)
  rw [show fst names Ls j + 1 + (n - (fst names Ls j + 1))=n by omega,ht] at hs
  have ko:=gW (names:=names) z.2 false _ _ _ (gv h hz).1 _ (List.getElem_mem hi)
  rw [← Option.some.inj hs] at ko
  obtain ⟨c,c1,c2,c3⟩:=ko.cl hk
  have hcl:c.toNat < names.length:=by rw [h.l];omega
  have hcz:c.toNat < (eL names Ls).length:=by rw [List.length_zip,h.l];omega
  obtain ⟨w',hb'⟩:=nL (names:=names) (Ls:=Ls) (List.getElem?_eq_getElem hcz)
  have hlt:=qP (eL names Ls) j c.toNat z hz (by omega)
  refine ⟨fst names Ls c.toNat,_,?_,hb'.nm,rfl,?_⟩
  ·have:fst names Ls j + 2 + szL z.2<=fst names Ls c.toNat:=hlt
   omega
  ·rw [c3]
   have hz':=(gv h (List.getElem?_eq_getElem hcz)).2.2.2.1
   rw [List.getD_eq_getElem?_getD,hz'];rfl
 ·-- coming to each sentence
  obtain ⟨hR1,hR2⟩:=hR
  have hn':n < (aD names Ls).length:=hn'
  obtain ⟨j,z,w,hz,hb,h1,h2,h3⟩:=jY h n hn'
  have hkn:aH (aD names Ls) (n:Int)∈sents:=hk
  have hne:n≠fst names Ls j:=λe=>by
   rw [e,hb.k] at hkn
   exact absurd hkn (by decide +kernel)
  have hnl:n≠lst (fst names Ls j) z:=λe=>by
   rw [e,(jc hb.e).1] at hkn
   exact absurd hkn (show ("end":Str)∉sents by decide +kernel)
  have h2':n < fst names Ls j + 1 + szL z.2:=Nat.lt_of_le_of_ne h2 hnl
  have hf:((fst names Ls j:Nat):Int)∈fd:=by
   refine hR1 (z.1,((fst names Ls j:Nat):Int),(bC (cR (aD names Ls)) ((fst names Ls j:Nat):Int)).getD 0) ?_
   show _∈c5 (aD names Ls)
   unfold c5
   exact List.mem_map.mpr ⟨(((fst names Ls j:Nat):Int),⟨"part",z.1,w, -1⟩),List.mem_filter.mpr ⟨nV hb.nm,decide_eq_true rfl⟩,rfl⟩
  have hC:jh (dz names Ls) fd:=hR2
  have hf1:=hC.on hf hb.df (l:=((fst names Ls j:Nat):Int) + 1) (List.mem_singleton.mpr rfl)
  have:=(vd (names:=names) (S:=aD names Ls) hC z.2 false (fst names Ls j + 1) (w + 2) _ 0 _ (gv h hz).1 hb.s hb.d (by push_cast;exact hf1)).1 (n - (fst names Ls j + 1)) (by omega) (by rw [show fst names Ls j + 1 + (n - (fst names Ls j + 1))=n by omega];exact hkn)
  rwa [show fst names Ls j + 1 + (n - (fst names Ls j + 1))=n by omega] at this
 ·-- each later part is called
  have hp:p∈(c5 (aD names Ls)).drop 1:=hp
  obtain ⟨k,hk⟩:=List.mem_iff_getElem?.mp hp
  rw [List.getElem?_drop] at hk
  have hnk:names[1 + k]?=some p.1:=by rw [← hn,List.getElem?_map,hk];rfl
  have hkl:=(List.getElem?_eq_some_iff.mp hnk).1
  obtain ⟨L,hL,hcL⟩:=h.cl (1 + k) (by omega) (by rw [← h.l];exact hkl)
  obtain ⟨i,hi⟩:=List.mem_iff_getElem?.mp hL
  have il:=(List.getElem?_eq_some_iff.mp hi).1
  have hiz:i < (eL names Ls).length:=by rw [List.length_zip,h.l];omega
  obtain ⟨w',hb'⟩:=nL (names:=names) (Ls:=Ls) (List.getElem?_eq_getElem hiz)
  have e2:=(gv h (List.getElem?_eq_getElem hiz)).2.2.2.2
  rw [hi] at e2
  have e2:=Option.some.inj e2
  obtain ⟨s,hs,s1,s2⟩:=call_in (names:=names) (((fst names Ls i + 1:Nat)):Int) (w' + 2) ((fst names Ls i:Nat):Int) hcL
  rw [e2] at hs
  obtain ⟨q,hq⟩:=List.mem_iff_getElem?.mp hs
  refine ⟨s,List.mem_of_getElem? (hb'.s q s hq),s1,?_⟩
  rw [s2,show (((1 + k:Nat)):Int).toNat=1 + k by omega,List.getD_eq_getElem?_getD,hnk];rfl
 ·-- no part ends at its begin
  obtain ⟨j,z,w,hz,hb,rfl⟩:=ku h hp
  obtain ⟨ok1,ok2,ok3,_⟩:=gv h hz
  show (cP (aD names Ls) (dz names Ls)).getD ((fst names Ls j:Nat):Int).toNat 0≠((lst (fst names Ls j) z:Nat):Int)
  rw [show ((fst names Ls j:Nat):Int).toNat=fst names Ls j by omega,hb.first ok1 ok2]
  have:=(kA hb ok1 ok2).2
  show ((fst names Ls j + 1:Nat):Int)≠((fst names Ls j + 1 + szL z.2:Nat):Int)
  omega
 ·-- rows
  show (g9 (aD names Ls) (dz names Ls) (cP (aD names Ls) (dz names Ls))).length<=30
  refine Nat.le_trans (wF _ _ _) ?_
  rw [Ei]
  have e:(eL names Ls).map (λz=>bO z.2)=Ls.map bO:=by
   conv=>rhs;rw [← BJ h]
   rw [List.map_map];rfl
  show ((eL names Ls).map λz=>bO z.2).sum<=30
  rw [e];exact h.tot
 ·obtain ⟨n,s,l,h1,h2,h3,_⟩:=px hr
  have hn':=(List.getElem?_eq_some_iff.mp h1).1
  rw [h2]
  refine ⟨⟨by omega,by show (n:Int) < ((aD names Ls).length:Int);omega⟩,?_⟩
  show aH (aD names Ls) (n:Int)∈sents
  rw [(jc h1).1];exact wu h3
 ·-- places
  obtain ⟨j,z,w,hz,hb,rfl⟩:=ku h hp
  obtain ⟨ok1,ok2,ok3,_⟩:=gv h hz
  have fl:fst names Ls j < lst (fst names Ls j) z:=by show _ < fst names Ls j + 1 + szL z.2;omega
  have hstand:=λn h1 h2=>hb.DU kY ok1 _ n rfl h1 h2
  refine Nat.le_trans (gU.len (Kp:=uJ (aD names Ls) (fst names Ls j) z) ?_) (Bs hb ok3)
  refine gU.rows ?_ λr hr hi=>?_
  ·have hne:(cP (aD names Ls) (dz names Ls)).getD (fst names Ls j) 0≠((lst (fst names Ls j) z:Nat):Int):=by
    rw [hb.first ok1 ok2]
    have:=(kA hb ok1 ok2).2
    show ((fst names Ls j + 1:Nat):Int)≠((fst names Ls j + 1 + szL z.2:Nat):Int)
    omega
   have e0:(fG (aD names Ls) (dz names Ls)).St.getD ((fst names Ls j:Nat):Int).toNat 0=(cP (aD names Ls) (dz names Ls)).getD (fst names Ls j) 0:=by rw [show ((fst names Ls j:Nat):Int).toNat=fst names Ls j by omega];rfl
   dsimp only
   rw [e0]
   refine ⟨?_,λx hx=>?_⟩
   ·exact List.nodup_cons.mpr ⟨λq=>hne (List.mem_singleton.mp q),List.nodup_cons.mpr ⟨by simp,List.nodup_nil⟩⟩
   ·have hx:x=(cP (aD names Ls) (dz names Ls)).getD (fst names Ls j) 0∨x=((lst (fst names Ls j) z:Nat):Int):=by simpa using hx
    rcases hx with rfl | rfl
    ·exact nt (hstand _ (Nat.le_refl _) (by omega))
    ·exact nt ⟨by omega,Int.le_refl _,.inl rfl⟩
  ·obtain ⟨n,s,l,h1,h2,h3,h4,h5⟩:=px hr
   unfold qM at hi
   rw [Bool.and_eq_true] at hi
   have i1:((fst names Ls j:Nat):Int) < r.1:=of_decide_eq_true hi.1
   have i2:r.1 < ((lst (fst names Ls j) z:Nat):Int):=of_decide_eq_true hi.2
   rw [h2] at i1 i2
   have hkn:aH (aD names Ls) (n:Int)=s.kind:=(jc h1).1
   have st:=hb.all kY ok1 n (by omega) (by omega)
   have rg:=st.rg l h4
   refine ⟨?_,?_⟩
   ·rw [h2]
    exact nt ⟨i1,by omega,.inr (by rw [hkn];exact h3)⟩
   ·rw [h5]
    exact nt (hstand l.toNat (by omega) (by omega))
end K1
namespace K1
open PySem L2 Fc
open PySem.Spec hiding Row
open PyProof.Rows hiding St
open PySem.Builtin.Int (intBits)
section
variable {K:PySem.W.Frag}{mg:Str->Option Value}{h:Heap}{f:Addr}{w:World}{oc:Value}{od an:Option Addr}{osl:Array (Option Value)}{doc pm cdv ct:Value}
def rZ (K:PySem.W.Frag)(mg:Str->Option Value):Prop:=∃C fi fdi,bh K C fg/\Mk K C fi/\mg "Step"=some (.ref C)/\bw K "__init__" "Step.__init__" mQ fi fdi/\Binds K fdi pd []
def rJ (K:PySem.W.Frag)(mg:Str->Option Value):Prop:=∃C fi fdi,bh K C d0/\Mk K C fi/\mg "Spots"=some (.ref C)/\bw K "__init__" "Spots.__init__" mY fi fdi/\Binds K fdi nC []
structure Top (P:Program) (w:World) (K:PySem.W.Frag) (mg:Str->Option Value):Prop where
 M:cv K mg
 M2:g6 K mg
 M3:iX mg
 RW:jd P w K mg "ROW_WORDS" fH
 SC:rZ K mg
 PC:rJ K mg
 MX:Def K mg "_law_mixed" qJ ["_law_script","_law_k"]
 PL:Def K mg "_law_pull" xk ["_law_pen"]
 NM:Def K mg "_law_name" xa ["_law_number"]
 PA:Def K mg "_law_passes" xn ["_law_items"]
 TH:Def K mg "_law_thing" uZ ["_law_pen","_law_depth","_law_loops","_law_calls"]
 LS:Def K mg "_law_list" jq ["_law_pen","_law_depth","_law_loops","_law_calls"]
 DR:Def K mg "_law_drawn" xO ["_law_script","_law_start"]
 WD:Def K mg "_law_words" xg ["_law_items","_law_names"]
 TX:Def K mg "_law_text" xG ["_law_names","_law_lists"]
 IN:Def K mg "is_name" uo ["word"]
 NB:Def K mg "name_behind" xQ ["words","word"]
 MS:Def K mg "may_stand" w9 ["kind","opened"]
 RD:Def K mg "read" uH ["text"]
 CS:Def K mg "closing_steps" wY ["steps"]
 AR:Def K mg "around" xN ["steps","number","kind"]
 LF:Def K mg "leads_from" wV ["steps","closing","number"]
 LI:Def K mg "leads_in" uN ["steps"]
 PI:Def K mg "parts_in" uw ["steps"]
 ST:Def K mg "stands_in" xh ["steps","leads"]
 RI:Def K mg "rows_in" xy ["steps","leads","stands"]
 NW:Def K mg "name_words" uD ["spots","parts"]
 NA:Def K mg "named_again" qR ["spots"]
 CA:Def K mg "called_astray" xB ["spots"]
 CT:Def K mg "come_to" sQ ["spots"]
 NC:Def K mg "not_come_to" qI ["spots"]
 NL:Def K mg "not_called" qO ["spots"]
 EB:Def K mg "ended_at_begin" ur ["spots"]
 RB:Def K mg "rows_beyond" sV ["spots"]
 PL2:Def K mg "places_in" rj ["spots","part"]
 PY:Def K mg "places_beyond" qc ["spots"]
 PB:Def K mg "parts_beyond" xH ["spots"]
 HI:Def K mg "hindrances" xD ["spots"]
 NP:Def K mg "need_program" xC ["text"]
 LK:Def K mg "looked" xr ["text"]
theorem Ai {P:Program}{base:Heap}{fd:FuncData}(T:Top P w K mg)(F:bw K "law" "law" lD f fd):cV P w K mg base dI 18 f fd ["_law_script"] (aP nU K):=by
 have M:=T.M
 have M2:=T.M2
 have M3:=T.M3
 obtain ⟨C,fi,fdi,HC,MK,hMg,FI,bi⟩:=T.SC
 obtain ⟨D,fj,fdj,HD,MD,hMd,FJ,bj⟩:=T.PC
 have GS:rm P w K mg base C:=⟨HC,⟨fi,fdi,MK,DZ HC FI,bi⟩,hMg⟩
 obtain ⟨_,_,F1,m1,b1⟩:=T.MX
 have MX:=D5 (P:=P) (w:=w) (base:=base) M F1 m1 b1
 obtain ⟨_,_,F1,m1,b1⟩:=T.PL
 have PL:=Dw (P:=P) (w:=w) (base:=base) MX F1 m1 b1
 obtain ⟨_,_,F1,m1,b1⟩:=T.NM
 have NM:=DX (P:=P) (w:=w) (base:=base) M F1 m1 b1
 obtain ⟨_,_,F1,m1,b1⟩:=T.PA
 have PA:=C6 (P:=P) (w:=w) (base:=base) F1 m1 b1 5
 obtain ⟨_,_,FTH,mTH,bTH⟩:=T.TH
 obtain ⟨_,_,F1,m1,b1⟩:=T.LS
 have LS:=Dc (P:=P) (w:=w) (base:=base) M PL PA (rY M PL NM 4 (λm h=>by cases h;exact xT M PL NM PA F1 m1 b1 FTH mTH bTH 3) FTH mTH bTH) F1 m1 b1
 obtain ⟨_,_,F1,m1,b1⟩:=T.DR
 have DR:=Cs (P:=P) (w:=w) (base:=base) M PL NM LS F1 m1 b1
 obtain ⟨_,_,F1,m1,b1⟩:=T.WD
 have WD:=CU (P:=P) (w:=w) (base:=base) F1 m1 b1 5
 obtain ⟨_,_,F1,m1,b1⟩:=T.TX
 have TX:=Ds (P:=P) (w:=w) (base:=base) M WD F1 m1 b1
 obtain ⟨_,_,F1,m1,b1⟩:=T.IN
 have IN:=CK (P:=P) (w:=w) (base:=base) M M2 F1 m1 b1
 obtain ⟨_,_,F1,m1,b1⟩:=T.NB
 have NB:=D3 (P:=P) (w:=w) (base:=base) M IN F1 m1 b1
 obtain ⟨_,_,F1,m1,b1⟩:=T.MS
 have MS:=DL (P:=P) (w:=w) (base:=base) M2 F1 m1 b1
 obtain ⟨_,_,F1,m1,b1⟩:=T.RD
 have RD:=DM (P:=P) (w:=w) (base:=base) M M2 GS MS NB F1 m1 b1
 obtain ⟨_,_,F1,m1,b1⟩:=T.CS
 have CS:=DF (P:=P) (w:=w) (base:=base) M M2 HC F1 m1 b1
 obtain ⟨_,_,F1,m1,b1⟩:=T.AR
 have AR:=DQ (P:=P) (w:=w) (base:=base) HC F1 m1 b1
 obtain ⟨_,_,F1,m1,b1⟩:=T.LF
 have LF:=Dj (P:=P) (w:=w) (base:=base) HC AR F1 m1 b1
 obtain ⟨_,_,F1,m1,b1⟩:=T.LI
 have LI:=Du (P:=P) (w:=w) (base:=base) M CS LF F1 m1 b1
 obtain ⟨_,_,F1,m1,b1⟩:=T.PI
 have PI:=C9 (P:=P) (w:=w) (base:=base) M HC CS F1 m1 b1
 obtain ⟨_,_,F1,m1,b1⟩:=T.ST
 have ST:=DD (P:=P) (w:=w) (base:=base) M HC T.RW F1 m1 b1
 obtain ⟨_,_,F1,m1,b1⟩:=T.RI
 have RI:=DK (P:=P) (w:=w) (base:=base) M HC T.RW F1 m1 b1
 have GP:og P w K mg base C D:=⟨HD,⟨fj,fdj,MD,DS HD RD PI LI ST RI FJ,bj⟩,hMd⟩
 obtain ⟨_,_,F1,m1,b1⟩:=T.NW
 have NW:=DG (P:=P) (w:=w) (base:=base) (C:=C) (D:=D) F1 m1 b1
 obtain ⟨_,_,F1,m1,b1⟩:=T.NA
 have NA:=Dv (P:=P) (w:=w) (base:=base) M HD NW F1 m1 b1
 obtain ⟨_,_,F1,m1,b1⟩:=T.CA
 have CA:=D7 (P:=P) (w:=w) (base:=base) M HC HD F1 m1 b1
 obtain ⟨_,_,F1,m1,b1⟩:=T.CT
 have CT:=D1 (P:=P) (w:=w) (base:=base) (C:=C) M HD F1 m1 b1
 obtain ⟨_,_,F1,m1,b1⟩:=T.NC
 have NC:=CG (P:=P) (w:=w) (base:=base) M M2 HC HD CT F1 m1 b1
 obtain ⟨_,_,F1,m1,b1⟩:=T.NL
 have NL:=Dx (P:=P) (w:=w) (base:=base) M HC HD NW F1 m1 b1
 obtain ⟨_,_,F1,m1,b1⟩:=T.EB
 have EB:=CY (P:=P) (w:=w) (base:=base) HD NW F1 m1 b1
 obtain ⟨_,_,F1,m1,b1⟩:=T.RB
 have RB:=DJ (P:=P) (w:=w) (base:=base) (C:=C) M3 HD F1 m1 b1
 obtain ⟨_,_,F1,m1,b1⟩:=T.PL2
 have PL2:=B9 (P:=P) (w:=w) (base:=base) (C:=C) M M3 HD F1 m1 b1
 obtain ⟨_,_,F1,m1,b1⟩:=T.PY
 have PY:=Cp (P:=P) (w:=w) (base:=base) M M3 HD NW CT PL2 F1 m1 b1
 obtain ⟨_,_,F1,m1,b1⟩:=T.PB
 have PB:=Ea (P:=P) (w:=w) (base:=base) M3 HD NW F1 m1 b1
 obtain ⟨_,_,F1,m1,b1⟩:=T.HI
 have HI:=CV (P:=P) (w:=w) (base:=base) NA CA NC NL EB RB PY PB F1 m1 b1
 obtain ⟨_,_,F1,m1,b1⟩:=T.NP
 have NP:=D9 (P:=P) (w:=w) (base:=base) GP HI F1 m1 b1
 obtain ⟨_,_,F1,m1,b1⟩:=T.LK
 have LK:=DA (P:=P) (w:=w) (base:=base) NP F1 m1 b1
 exact Dh yr M DR TX LK F
theorem ly {x:Str}{xs:List Str}{g:Addr}{gd:Option Addr}{gn:Nat}{gs:Array (Option Value)}{its:Array Value}(KX:K.In h)(G:h.Ns mainGlobals mg)(a:PySem.W.nsIn K mainGlobals x=some (some (.ref g)))(l:K.lookup g=some ⟨.type "tuple",gd,.seq its gn,gs⟩)(z:its.size<=sizeLine)(v:Vals (xs.map V.str) its.toList):mq K mg x xs:=⟨g,_,_,_,PySem.W.mg_of KX G a,l,rfl,rfl,z,v⟩
theorem zl (KX:K.In h)(G:h.Ns mainGlobals mg)
 (b1:PySem.W.nsIn K mainGlobals "len"=some none) (b2:PySem.W.nsIn K mainGlobals "min"=some none) (b3:PySem.W.nsIn K mainGlobals "range"=some none) (b4:PySem.W.nsIn K mainGlobals "int"=some none) (b5:PySem.W.nsIn K mainGlobals "list"=some none) (b6:PySem.W.nsIn K mainGlobals "zip"=some none) (b7:PySem.W.nsIn K mainGlobals "enumerate"=some none) (b8:PySem.W.nsIn K mainGlobals "reversed"=some none) (b9:PySem.W.nsIn K mainGlobals "any"=some none) (b10:PySem.W.nsIn K mainGlobals "all"=some none):cv K mg:=
 ⟨PySem.W.mg_none_of KX G b1,PySem.W.mg_none_of KX G b2,PySem.W.mg_none_of KX G b3,PySem.W.mg_none_of KX G b4,PySem.W.mg_none_of KX G b5,PySem.W.mg_none_of KX G b6,PySem.W.mg_none_of KX G b7,PySem.W.mg_none_of KX G b8,PySem.W.mg_none_of KX G b9,PySem.W.mg_none_of KX G b10⟩
theorem vS (KX:K.In h)(G:h.Ns mainGlobals mg){t1 t2 s1_1 s1_2 s1_3 s1_4 s1_5 s2_1 s2_2 s2_3 s2_4 s2_5 s2_6 s3_1 s3_2 s3_3 s3_4 s4_1 s4_2:Tok}{g1 g2 g3 g4:Addr}{d1 d2 d3 d4:Option Addr}{n1 n2 n3 n4:Nat}{e1 e2 e3 e4:Array (Option Value)}
 (a1:PySem.W.nsIn K mainGlobals "MOST_LETTERS"=some (some (.int 8 t1))) (a2:PySem.W.nsIn K mainGlobals "NO_STEP"=some (some (.int (-1) t2)))
 (c1:PySem.W.nsIn K mainGlobals "NAMED"=some (some (.ref g1))) (l1:K.lookup g1=some ⟨.type "tuple",d1,.seq #[.str "part" s1_1,.str "do" s1_2,.str "call" s1_3,.str "if" s1_4,.str "while" s1_5] n1,e1⟩) (c2:PySem.W.nsIn K mainGlobals "SENTENCES"=some (some (.ref g2))) (l2:K.lookup g2=some ⟨.type "tuple",d2,.seq #[.str "do" s2_1,.str "call" s2_2,.str "if" s2_3,.str "while" s2_4,.str "leave" s2_5,.str "back" s2_6] n2,e2⟩) (c3:PySem.W.nsIn K mainGlobals "OPENING"=some (some (.ref g3))) (l3:K.lookup g3=some ⟨.type "tuple",d3,.seq #[.str "part" s3_1,.str "if" s3_2,.str "else" s3_3,.str "while" s3_4] n3,e3⟩) (c4:PySem.W.nsIn K mainGlobals "CLOSING"=some (some (.ref g4))) (l4:K.lookup g4=some ⟨.type "tuple",d4,.seq #[.str "else" s4_1,.str "end" s4_2] n4,e4⟩):g6 K mg:=
 ⟨⟨_,PySem.W.mg_of KX G a1⟩,⟨_,PySem.W.mg_of KX G a2⟩,ly KX G c1 l1 (by show 5<=sizeLine;decide) (.cons ⟨s1_1,rfl⟩ (.cons ⟨s1_2,rfl⟩ (.cons ⟨s1_3,rfl⟩ (.cons ⟨s1_4,rfl⟩ (.cons ⟨s1_5,rfl⟩ (.nil)))))),ly KX G c2 l2 (by show 6<=sizeLine;decide) (.cons ⟨s2_1,rfl⟩ (.cons ⟨s2_2,rfl⟩ (.cons ⟨s2_3,rfl⟩ (.cons ⟨s2_4,rfl⟩ (.cons ⟨s2_5,rfl⟩ (.cons ⟨s2_6,rfl⟩ (.nil))))))),ly KX G c3 l3 (by show 4<=sizeLine;decide) (.cons ⟨s3_1,rfl⟩ (.cons ⟨s3_2,rfl⟩ (.cons ⟨s3_3,rfl⟩ (.cons ⟨s3_4,rfl⟩ (.nil))))),ly KX G c4 l4 (by show 2<=sizeLine;decide) (.cons ⟨s4_1,rfl⟩ (.cons ⟨s4_2,rfl⟩ (.nil)))⟩
theorem vq (KX:K.In h)(G:h.Ns mainGlobals mg){t1 t2 t3 t4 t5:Tok}(a1:PySem.W.nsIn K mainGlobals "BEGIN"=some (some (.int 0 t1)))(a2:PySem.W.nsIn K mainGlobals "END"=some (some (.int 1 t2)))(a3:PySem.W.nsIn K mainGlobals "MOST_PARTS"=some (some (.int 4 t3)))(a4:PySem.W.nsIn K mainGlobals "MOST_PLACES"=some (some (.int 16 t4)))(a5:PySem.W.nsIn K mainGlobals "MOST_PROGRAM_ROWS"=some (some (.int 30 t5))):iX mg:=
 ⟨⟨_,PySem.W.mg_of KX G a1⟩,⟨_,PySem.W.mg_of KX G a2⟩,⟨_,PySem.W.mg_of KX G a3⟩,⟨_,PySem.W.mg_of KX G a4⟩,⟨_,PySem.W.mg_of KX G a5⟩⟩
theorem yg {P:Program}(KX:K.In h)(G:h.Ns mainGlobals mg){d v1 v2 v3 v4:Addr}{k1 k2 k3 k4 s1_1 s2_1 s3_1 s3_2 s4_1 s4_2:Tok}{ep n1 n2 n3 n4:Nat}{d1 d2 d3 d4:Option Addr}{l1 l2 l3 l4:Array (Option Value)}
 (a:PySem.W.nsIn K mainGlobals "ROW_WORDS"=some (some (.ref d))) (l:K.lookup d=some ⟨.type "dict",none,.dict #[⟨PyData.keyHash w.params "do",.str "do" k1,.ref v1⟩,⟨PyData.keyHash w.params "call",.str "call" k2,.ref v2⟩,⟨PyData.keyHash w.params "if",.str "if" k3,.ref v3⟩,⟨PyData.keyHash w.params "while",.str "while" k4,.ref v4⟩] ep, #[]⟩) (sm:(d==sysModules)=false)
 (u1:K.lookup v1=some ⟨.type "tuple",d1,.seq #[.str "do" s1_1] n1,l1⟩) (u2:K.lookup v2=some ⟨.type "tuple",d2,.seq #[.str "call" s2_1] n2,l2⟩) (u3:K.lookup v3=some ⟨.type "tuple",d3,.seq #[.str "yes" s3_1,.str "no" s3_2] n3,l3⟩) (u4:K.lookup v4=some ⟨.type "tuple",d4,.seq #[.str "yes" s4_1,.str "no" s4_2] n4,l4⟩):jd P w K mg "ROW_WORDS" fH:=by
 refine ⟨d,_,[((Sum.inr "do":Key),.ref v1),((Sum.inr "call":Key),.ref v2),((Sum.inr "if":Key),.ref v3),((Sum.inr "while":Key),.ref v4)],PySem.W.mg_of KX G a,l,⟨_,_,⟨rfl,rfl,rfl⟩,rfl,λe he=>?_,?_,by show List.Nodup [(Sum.inr "do":Key),(Sum.inr "call":Key),(Sum.inr "if":Key),(Sum.inr "while":Key)];decide⟩,sm,?_⟩
 ·simp only [List.mem_toArray,List.mem_cons,List.not_mem_nil,or_false] at he
  rcases he with rfl | rfl | rfl | rfl
  ·exact ⟨Sum.inr "do",cK P w "do" k1,rfl⟩
  ·exact ⟨Sum.inr "call",cK P w "call" k2,rfl⟩
  ·exact ⟨Sum.inr "if",cK P w "if" k3,rfl⟩
  ·exact ⟨Sum.inr "while",cK P w "while" k4,rfl⟩
 ·exact .cons (cK P w "do" k1) rfl (.cons (cK P w "call" k2) rfl (.cons (cK P w "if" k3) rfl (.cons (cK P w "while" k4) rfl (.nil))))
 ·exact .cons ⟨rfl,v1,_,_,_,rfl,u1,rfl,rfl,(by show 1<=sizeLine;decide),.cons ⟨s1_1,rfl⟩ (.nil)⟩ (.cons ⟨rfl,v2,_,_,_,rfl,u2,rfl,rfl,(by show 1<=sizeLine;decide),.cons ⟨s2_1,rfl⟩ (.nil)⟩ (.cons ⟨rfl,v3,_,_,_,rfl,u3,rfl,rfl,(by show 2<=sizeLine;decide),.cons ⟨s3_1,rfl⟩ (.cons ⟨s3_2,rfl⟩ (.nil))⟩ (.cons ⟨rfl,v4,_,_,_,rfl,u4,rfl,rfl,(by show 2<=sizeLine;decide),.cons ⟨s4_1,rfl⟩ (.cons ⟨s4_2,rfl⟩ (.nil))⟩ (.nil))))
theorem step_mk (KX:K.In h)(G:h.Ns mainGlobals mg){C:Addr}{kV:Value}(aC:PySem.W.nsIn K mainGlobals "Step"=some (some (.ref C)))(a1:PySem.W.findIn K (.ref C) "__init__"=some (some (.ref f)))(i1:PySem.W.isFn K (.ref f)=true)
 (l1:K.lookup f=some ⟨oc,od,.func (PySem.W.fnOf "__init__" "Step.__init__" (dC mQ) (bM mQ) (ag mQ) .none kV doc pm an cdv ct),osl⟩) (c1:PySem.W.codeIn K cdv "Step.__init__"=true) (k1:PySem.W.keepIn K (.ref f)=true) (pg:PySem.W.plainGet K C Str.empty=true) (hd:PySem.W.hasDictIn K C=true) (po:PySem.W.plainOver K C=true) (sa:PySem.W.findIn K (.ref C) "__setattr__"=some (some (.builtin "object.__setattr__"))) (mk:PySem.W.makesIn K C=true) (kc:PySem.W.keepIn K (.ref C)=true)
 (o1:PySem.W.findIn K (.ref C) "kind"=some none) (o2:PySem.W.findIn K (.ref C) "name"=some none) (o3:PySem.W.findIn K (.ref C) "word"=some none) (o4:PySem.W.findIn K (.ref C) "within"=some none):rZ K mg:=by
 refine ⟨C,f,_,⟨⟨pg,hd,po,sa⟩,λx hx=>?_⟩,⟨mk,a1,i1,kc⟩,PySem.W.mg_of KX G aC,gT (st:=mQ) l1 c1 k1,(gT (st:=mQ) l1 c1 k1).binds (ps:=pd) λ_ _ _ _ _ _ us hl=>match us,hl with | [_,_,_,_,_],_=>rfl⟩
 simp only [fg,List.mem_cons,List.not_mem_nil,or_false] at hx
 rcases hx with rfl | rfl | rfl | rfl
 ·exact o1
 ·exact o2
 ·exact o3
 ·exact o4
theorem yD (KX:K.In h)(G:h.Ns mainGlobals mg){C:Addr}{kV:Value}(aC:PySem.W.nsIn K mainGlobals "Spots"=some (some (.ref C)))(a1:PySem.W.findIn K (.ref C) "__init__"=some (some (.ref f)))(i1:PySem.W.isFn K (.ref f)=true)
 (l1:K.lookup f=some ⟨oc,od,.func (PySem.W.fnOf "__init__" "Spots.__init__" (dC mY) (bM mY) (ag mY) .none kV doc pm an cdv ct),osl⟩) (c1:PySem.W.codeIn K cdv "Spots.__init__"=true) (k1:PySem.W.keepIn K (.ref f)=true) (pg:PySem.W.plainGet K C Str.empty=true) (hd:PySem.W.hasDictIn K C=true) (po:PySem.W.plainOver K C=true) (sa:PySem.W.findIn K (.ref C) "__setattr__"=some (some (.builtin "object.__setattr__"))) (mk:PySem.W.makesIn K C=true) (kc:PySem.W.keepIn K (.ref C)=true)
 (o1:PySem.W.findIn K (.ref C) "steps"=some none) (o2:PySem.W.findIn K (.ref C) "parts"=some none) (o3:PySem.W.findIn K (.ref C) "leads"=some none) (o4:PySem.W.findIn K (.ref C) "stands"=some none) (o5:PySem.W.findIn K (.ref C) "rows"=some none):rJ K mg:=by
 refine ⟨C,f,_,⟨⟨pg,hd,po,sa⟩,λx hx=>?_⟩,⟨mk,a1,i1,kc⟩,PySem.W.mg_of KX G aC,gT (st:=mY) l1 c1 k1,(gT (st:=mY) l1 c1 k1).binds (ps:=nC) λ_ _ _ _ _ _ us hl=>match us,hl with | [_,_],_=>rfl⟩
 simp only [d0,List.mem_cons,List.not_mem_nil,or_false] at hx
 rcases hx with rfl | rfl | rfl | rfl | rfl
 ·exact o1
 ·exact o2
 ·exact o3
 ·exact o4
 ·exact o5
theorem Bc {l:PySem.W.OpenLaw}{fa:Addr}{kV:Value}(KX:K.In h)(G:h.Ns mainGlobals mg)(hfa:mg "law"=some (.ref fa))(T:Top l.prog w K mg)
 (a:PySem.W.nsIn K mainGlobals "law"=some (some (.ref f))) (lk:K.lookup f=some ⟨oc,od,.func (PySem.W.fnOf "law" "law" (dC lD) (bM lD) (ag lD) .none kV doc pm an cdv ct),osl⟩) (c:PySem.W.codeIn K cdv "law"=true) (k:PySem.W.keepIn K (.ref f)=true):
 ∃fd:FuncData,(∀(s:Shared) (v:Value),BindsTo s fd ⟨[v],[]⟩ [("_law_script",v)])/\∀base:Heap,K.In base->base.Ns mainGlobals mg->cV l.prog w K mg base dI 18 fa fd ["_law_script"] (aP nU K):=by
 have e:=hfa.symm.trans (PySem.W.mg_of KX G a)
 cases e
 exact ⟨PySem.W.fnOf "law" "law" (dC lD) (bM lD) (ag lD) .none kV doc pm an cdv ct,λs v=>.of_eq rfl,λbase _ _=>Ai T (gT lk c k)⟩
theorem walk {l:PySem.W.OpenLaw}{q:Program}{loose:List Str}{XP:(Str->Option Value)->Heap->Prop}{YP:World->Heap->Prop}{d:DefRec}{K:Params->PySem.W.Frag}(hn:l.most=some 63)(hdf:d.params.defaults=[])
 (hY:∀(w:World) (h:Heap),YP w h->(K w.params).In h)
 (F:∀(w:World) (mg:Str->Option Value) (fa:Addr) (h:Heap),(K w.params).In h->h.Ns mainGlobals mg->mg d.name=some (.ref fa)->
  ∃fd:FuncData,(∀(s:Shared) (u:Value),BindsTo s fd ⟨[u],[]⟩ [("_law_script",u)])/\∀base:Heap,(K w.params).In base->base.Ns mainGlobals mg->cV l.prog w (K w.params) mg base dI 18 fa fd ["_law_script"] (aP nU (K w.params))):
 PySem.W.WalkO q loose XP YP l.row.toRowW d [] (λf vs=>PySem.call f vs):=
 L2.wm (n:=63) (k:=18) (x:="_law_script") (CX:=λ_=>dI) (sp:=λw=>aP nU (K w.params)) hn (by decide) hdf ⟨rfl,by decide,by decide⟩ hY F
   (λw H a ns hl hbits _ hS=>⟨H,[⟨bp,ns⟩],_,ak.refl _,.cons ⟨a,rfl,hS,hl⟩ .nil,⟨ns,rfl,hl,hbits,rfl⟩,λv H' R' _ t=>by obtain ⟨y,hy,rfl⟩:=t;exact hy⟩) λ_ _ _ _ _ z=>z
end
end K1
open PySem PySem.W PyProof.Rows
theorem PySem.W.Fast.tw5874696968373305862:True:=trivial
theorem PySem.W.Fast.tw6857145888492526537:True:=trivial
theorem PySem.W.Fast.tw7003131313815774180:True:=trivial
theorem PySem.W.Fast.tw13389864982956444323:True:=trivial
theorem PySem.W.Fast.tw12525926299509077243:True:=trivial
theorem PySem.W.Fast.tw2495112962586564526:True:=trivial
theorem PySem.W.Fast.tw6631939505227282906:True:=trivial
theorem PySem.W.Fast.tw12865699706645539986:True:=trivial
theorem PySem.W.Fast.tw9641353976224107134:True:=trivial
theorem PySem.W.Fast.tw17805351103750390699:True:=trivial
theorem PySem.W.Fast.tw17879996164321328905:True:=trivial
theorem PySem.W.Fast.tw3189118153249585090:True:=trivial
theorem PySem.W.Fast.tw9685720085894499225:True:=trivial
theorem PySem.W.Fast.tw1522675126482849215:True:=trivial
theorem PySem.W.Fast.tw14769744231383405338:True:=trivial
theorem PySem.W.Fast.tw17092313853583146028:True:=trivial
theorem PySem.W.Fast.tw9560837597308988374:True:=trivial
theorem PySem.W.Fast.tw6001103919232730482:True:=trivial
theorem PySem.W.Fast.tw18444100739512654598:True:=trivial
theorem PySem.W.Fast.tw11916162532671391970:True:=trivial
theorem PySem.W.Fast.tw10593255362564324647:True:=trivial
theorem PySem.W.Fast.tw8525905899856828479:True:=trivial
theorem PySem.W.Fast.tw13148272152074319799:True:=trivial
theorem PySem.W.Fast.tw56777964537928130:True:=trivial
theorem PySem.W.Fast.tw7619707874544756593:True:=trivial
theorem PySem.W.Fast.tw2037452333651628084:True:=trivial
theorem PySem.W.Fast.tw14146460141752726448:True:=trivial
theorem PySem.W.Fast.tw5938742601693195562:True:=trivial
theorem PySem.W.Fast.tw950558863645394564:True:=trivial
theorem PySem.W.Fast.tw13918795401408522998:True:=trivial
theorem PySem.W.Fast.tw15163833089032263767:True:=trivial
theorem PySem.W.Fast.tw14200284171218882648:True:=trivial
theorem PySem.W.Fast.tw13214535095982153097:True:=trivial
theorem PySem.W.Fast.tw9686149780164389955:True:=trivial
theorem PySem.W.Fast.tw3236288552011456101:True:=trivial
theorem PySem.W.Fast.tw3012900203308636146:True:=trivial
theorem PySem.W.Fast.tw13483205899369558094:True:=trivial
theorem PySem.W.Fast.tw8293335940989524453:True:=trivial
theorem PySem.W.Fast.tw902198689147099317:True:=trivial
theorem PySem.W.Fast.tw2931566617057840278:True:=trivial
theorem PySem.W.Fast.tw8690054289341512942:True:=trivial
theorem PySem.W.Fast.tw13975348573040413914:True:=trivial
theorem PySem.W.Fast.tw14677686009907031883:True:=trivial
theorem PySem.W.Fast.tw357369368799887234:True:=trivial
theorem PySem.W.Fast.tw15973308299884361629:True:=trivial
theorem PySem.W.Fast.tw3634261313985684872:True:=trivial
theorem PySem.W.Fast.tw7303073361183354063:True:=trivial
theorem PySem.W.Fast.tw7156543206691171552:True:=trivial
theorem PySem.W.Fast.tw7122114688372963723:True:=trivial
theorem PySem.W.Fast.tw14979017044118957537:True:=trivial
theorem PySem.W.Fast.tw979448879887631315:True:=trivial
theorem PySem.W.Fast.tw6704321671252664958:True:=trivial
theorem PySem.W.Fast.tw462146198063478550:True:=trivial
theorem PySem.W.Fast.tw16622081490244028832:True:=trivial
theorem PySem.W.Fast.tw4317915696282566687:True:=trivial
theorem PySem.W.Fast.tw954594567846302909:True:=trivial
theorem PySem.W.Fast.tw17198761904948063104:True:=trivial
theorem PySem.W.Fast.tw4387813068077062778:True:=trivial
theorem PySem.W.Fast.tw16849985329256725726:True:=trivial
theorem PySem.W.Fast.tw13794161494218050498:True:=trivial
theorem PySem.W.Fast.tw15882100210262020628:True:=trivial
theorem PySem.W.Fast.tw12505869500641974688:True:=trivial
theorem PySem.W.Fast.tw11368836938402417316:True:=trivial
theorem PySem.W.Fast.tw17017375379787103145:True:=trivial
theorem PySem.W.Fast.tw10769157218938341634:True:=trivial
theorem PySem.W.Fast.tw2149164255900518128:True:=trivial
theorem PySem.W.Fast.tw9010217730383361697:True:=trivial
theorem PySem.W.Fast.tw11910085848720979327:True:=trivial
theorem PySem.W.Fast.tw9408600923988209021:True:=trivial
theorem PySem.W.Fast.tw11243350693412990190:True:=trivial
theorem PySem.W.Fast.tw16638916834360535950:True:=trivial
theorem PySem.W.Fast.tw2010017524704529343:True:=trivial
theorem PySem.W.Fast.tw11643754567446371359:True:=trivial
theorem PySem.W.Fast.tw1824448499568615456:True:=trivial
theorem PySem.W.Fast.tw18341915781167827251:True:=trivial
theorem PySem.W.Fast.tw17602438717560649037:True:=trivial
theorem PySem.W.Fast.tw16012488808230697145:True:=trivial
theorem PySem.W.Fast.tw22205692603148538:True:=trivial
theorem PySem.W.Fast.tw652765615159278706:True:=trivial
theorem PySem.W.Fast.tw903871897961664656:True:=trivial
theorem PySem.W.Fast.tw9861231894210215107:True:=trivial
theorem PySem.W.Fast.tw11324575332007062170:True:=trivial
theorem PySem.W.Fast.tw16557649264061742051:True:=trivial
theorem PySem.W.Fast.tw1568105806512660765:True:=trivial
theorem PySem.W.Fast.tw7610540868812063791:True:=trivial
theorem PySem.W.Fast.tw17702917638566308889:True:=trivial
theorem PySem.W.Fast.tw17808417358785350435:True:=trivial
theorem PySem.W.Fast.tw11662050356981508677:True:=trivial
theorem PySem.W.Fast.tw8390796351651958737:True:=trivial
theorem PySem.W.Fast.tw18411618360928877831:True:=trivial
theorem PySem.W.Fast.tw379846869383146759:True:=trivial
theorem PySem.W.Fast.tw9029348476924942548:True:=trivial
theorem PySem.W.Fast.tw13566132687536042122:True:=trivial
theorem PySem.W.Fast.tw13104734794267206093:True:=trivial
theorem PySem.W.Fast.tw17313122384337670933:True:=trivial
theorem PySem.W.Fast.tw13363284770386664202:True:=trivial
theorem PySem.W.Fast.tw13166103676781800094:True:=trivial
theorem PySem.W.Fast.tw14161088018934689372:True:=trivial
theorem PySem.W.Fast.tw1645862092056241100:True:=trivial
theorem PySem.W.Fast.tw8232481175895834889:True:=trivial
theorem PySem.W.Fast.tw11066698536625904125:True:=trivial
theorem PySem.W.Fast.tw15790001896900077149:True:=trivial
theorem PySem.W.Fast.tw16790577468066298205:True:=trivial
theorem PySem.W.Fast.tw7644646787204528727:True:=trivial
theorem PySem.W.Fast.tw16650595220308978068:True:=trivial
theorem PySem.W.Fast.tw11366285756897585617:True:=trivial
theorem PySem.W.Fast.tw5727685165793927584:True:=trivial
theorem PySem.W.Fast.tw16188482343245492409:True:=trivial
theorem PySem.W.Fast.tw15142594859661708003:True:=trivial
theorem PySem.W.Fast.tw12800171372794468124:True:=trivial
theorem PySem.W.Fast.tw172419672193450741:True:=trivial
theorem PySem.W.Fast.tw7314247994222281578:True:=trivial
theorem PySem.W.Fast.tw1602992080416525643:True:=trivial
theorem PySem.W.Fast.tw7416369423167774533:True:=trivial
theorem PySem.W.Fast.tw13916296084074538431:True:=trivial
theorem PySem.W.Fast.tw6773940000713143773:True:=trivial
theorem PySem.W.Fast.tw10465338492424357542:True:=trivial
theorem PySem.W.Fast.tw12859845381491472768:True:=trivial
theorem PySem.W.Fast.tw4461316242607997108:True:=trivial
theorem PySem.W.Fast.tw11595224564947345481:True:=trivial
theorem PySem.W.Fast.tw11751735808172102938:True:=trivial
theorem PySem.W.Fast.tw7836921553145732084:True:=trivial
theorem PySem.W.Fast.tw7254666124360771034:True:=trivial
theorem PySem.W.Fast.tw1696523720166546308:True:=trivial
theorem PySem.W.Fast.tw11747353087482881226:True:=trivial
theorem PySem.W.Fast.tw17714560399553422223:True:=trivial
theorem PySem.W.Fast.tw1991257463400625750:True:=trivial
theorem PySem.W.Fast.tw10272739640812592824:True:=trivial
theorem PySem.W.Fast.tw11060951386119110539:True:=trivial
theorem PySem.W.Fast.tw1424694592394376416:True:=trivial
theorem PySem.W.Fast.tw10956752273181530876:True:=trivial
theorem PySem.W.Fast.tw5084848067056429575:True:=trivial
theorem PySem.W.Fast.tw17147115531127399706:True:=trivial
theorem PySem.W.Fast.tw7644247352179328187:True:=trivial
theorem PySem.W.Fast.tw17186956871394373004:True:=trivial
theorem PySem.W.Fast.tw3503379883017720102:True:=trivial
theorem PySem.W.Fast.tw4866714240000562196:True:=trivial
theorem PySem.W.Fast.tw14856602165644766063:True:=trivial
theorem PySem.W.Fast.tw13152120137850966012:True:=trivial
theorem PySem.W.Fast.tw2400418305973381669:True:=trivial
theorem PySem.W.Fast.tw13891336657160468664:True:=trivial
theorem PySem.W.Fast.tw15111598078327227647:True:=trivial
theorem PySem.W.Fast.tw10264934075706837396:True:=trivial
theorem PySem.W.Fast.tw13644441090409713705:True:=trivial
theorem PySem.W.Fast.tw7255226631703004587:True:=trivial
theorem PySem.W.Fast.tw13706608952981240897:True:=trivial
theorem PySem.W.Fast.tw6207694722572237888:True:=trivial
theorem PySem.W.Fast.tw14031378512992123319:True:=trivial
theorem PySem.W.Fast.tw10554309025946465146:True:=trivial
theorem PySem.W.Fast.tw10795758217422707822:True:=trivial
theorem PySem.W.Fast.tw15246800330770350694:True:=trivial
theorem PySem.W.Fast.tw8010100241935597198:True:=trivial
theorem PySem.W.Fast.tw18423382358332371830:True:=trivial
theorem PySem.W.Fast.tw15646340634292727244:True:=trivial
theorem PySem.W.Fast.tw12337912302279462974:True:=trivial
theorem PySem.W.Fast.tw11823050809151027918:True:=trivial
theorem PySem.W.Fast.tw624394470082813317:True:=trivial
theorem PySem.W.Fast.tw17764929916177273417:True:=trivial
theorem PySem.W.Fast.tw12578459754844959226:True:=trivial
theorem PySem.W.Fast.tw10503186445886828209:True:=trivial
theorem PySem.W.Fast.tw7266178953600064238:True:=trivial
theorem PySem.W.Fast.tw17595944553423240013:True:=trivial
theorem PySem.W.Fast.tw7758875428359276997:True:=trivial
theorem PySem.W.Fast.tw4417609041924111455:True:=trivial
theorem PySem.W.Fast.tw11122453358468069043:True:=trivial
theorem PySem.W.Fast.tw17569493897496774759:True:=trivial
theorem PySem.W.Fast.tw6667524794935757620:True:=trivial
theorem PySem.W.Fast.tw17407362170111873506:True:=trivial
theorem PySem.W.Fast.tw8060649060332950296:True:=trivial
theorem PySem.W.Fast.tw6670489208647962374:True:=trivial
theorem PySem.W.Fast.tw15212320156683945351:True:=trivial
theorem PySem.W.Fast.tw2813264262506163634:True:=trivial
theorem PySem.W.Fast.tw7479463676988278550:True:=trivial
theorem PySem.W.Fast.tw5773515673778226065:True:=trivial
theorem PySem.W.Fast.tw12204117609723955733:True:=trivial
theorem PySem.W.Fast.tw9134139352522018208:True:=trivial
theorem PySem.W.Fast.tw30538181502855942:True:=trivial
theorem PySem.W.Fast.tw1874140687537060646:True:=trivial
theorem PySem.W.Fast.tw4634064542958532679:True:=trivial
theorem PySem.W.Fast.tw3648307613824952730:True:=trivial
theorem PySem.W.Fast.tw9257092002910192438:True:=trivial
theorem PySem.W.Fast.tw9752543511460034008:True:=trivial
theorem PySem.W.Fast.tw6265928184875102812:True:=trivial
theorem PySem.W.Fast.tw12881941453602821942:True:=trivial
theorem PySem.W.Fast.tw7192245525296501037:True:=trivial
theorem PySem.W.Fast.tw4387018271649041062:True:=trivial
theorem PySem.W.Fast.tw2271237568408882177:True:=trivial
theorem PySem.W.Fast.tw3802089155088022316:True:=trivial
theorem PySem.W.Fast.tw16534083235997247057:True:=trivial
theorem PySem.W.Fast.tw748210866939709305:True:=trivial
set_option maxRecDepth 100000 in
set_option maxHeartbeats 0 in
theorem PySem.Challenge.cw_fewcounters_k60_programs_let_by_holds : PySem.Challenge.rw_fewcounters_k60_programs_let_by.Holds := by
 w_on;o_law;k_head;(case hw=>w_witness2)
 k_fill
 refine K1.walk (l:=PySem.Challenge.rw_fewcounters_k60_programs_let_by) rfl rfl (λw h Y=>PySem.W.kIn_of Y) ?F
 case F=>
  intro w mg fa h KX G hmg
  have M:K1.cv (L2.aU KX) mg:=by
   dsimp only [L2.aU]
   refine' K1.zl KX G ?b1 ?b2 ?b3 ?b4 ?b5 ?b6 ?b7 ?b8 ?b9 ?b10
   (case b1=>k_is);(case b2=>k_is);(case b3=>k_is);(case b4=>k_is);(case b5=>k_is);(case b6=>k_is);(case b7=>k_is);(case b8=>k_is);(case b9=>k_is);(case b10=>k_is)
  have M2:K1.g6 (L2.aU KX) mg:=by
   dsimp only [L2.aU]
   refine' K1.vS KX G ?a1 ?a2 ?c1 ?l1 ?c2 ?l2 ?c3 ?l3 ?c4 ?l4
   (case a1=>k_is);(case a2=>k_is);(case c1=>k_is);(case l1=>k_is);(case c2=>k_is);(case l2=>k_is);(case c3=>k_is);(case l3=>k_is);(case c4=>k_is);(case l4=>k_is)
  have M3:K1.iX mg:=by
   refine' K1.vq KX G ?a1 ?a2 ?a3 ?a4 ?a5
   (case a1=>k_is);(case a2=>k_is);(case a3=>k_is);(case a4=>k_is);(case a5=>k_is)
  have DRW:Fc.jd (PySem.Challenge.rw_fewcounters_k60_programs_let_by).prog w (L2.aU KX) mg "ROW_WORDS" K1.fH:=by
   dsimp only [L2.aU]
   refine' K1.yg KX G ?a ?l ?sm ?u1 ?u2 ?u3 ?u4
   (case a=>k_is);(case l=>k_is);(case sm=>rfl);(case u1=>k_is);(case u2=>k_is);(case u3=>k_is);(case u4=>k_is)
  have DSC:K1.rZ (L2.aU KX) mg:=by
   dsimp only [L2.aU]
   refine' K1.step_mk KX G ?aC ?a1 ?i1 ?l1 ?c1 ?k1 ?pg ?hd ?po ?sa ?mk ?kc ?o1 ?o2 ?o3 ?o4
   (case aC=>k_is);(case a1=>k_is);(case i1=>k_is);(case l1=>k_is);(case c1=>k_is);(case k1=>k_is);(case pg=>k_is);(case hd=>k_is);(case po=>k_is);(case sa=>k_is);(case mk=>k_is);(case kc=>k_is);(case o1=>k_is);(case o2=>k_is);(case o3=>k_is);(case o4=>k_is)
  have DPC:K1.rJ (L2.aU KX) mg:=by
   dsimp only [L2.aU]
   refine' K1.yD KX G ?aC ?a1 ?i1 ?l1 ?c1 ?k1 ?pg ?hd ?po ?sa ?mk ?kc ?o1 ?o2 ?o3 ?o4 ?o5
   (case aC=>k_is);(case a1=>k_is);(case i1=>k_is);(case l1=>k_is);(case c1=>k_is);(case k1=>k_is);(case pg=>k_is);(case hd=>k_is);(case po=>k_is);(case sa=>k_is);(case mk=>k_is);(case kc=>k_is);(case o1=>k_is);(case o2=>k_is);(case o3=>k_is);(case o4=>k_is);(case o5=>k_is)
  have DMX:Fc.Def (L2.aU KX) mg "_law_mixed" K1.qJ ["_law_script","_law_k"]:=by
   dsimp only [L2.aU]
   refine' Fc.a8 KX G ?a ?l ?c ?k ?b
   (case a=>k_is);(case l=>k_is);(case c=>k_is);(case k=>k_is);(case b=>exact λ_ _ _ _ _ _ us hl=>match us,hl with | [_,_],_=>rfl)
  have DPL:Fc.Def (L2.aU KX) mg "_law_pull" K1.xk ["_law_pen"]:=by
   dsimp only [L2.aU]
   refine' Fc.a8 KX G ?a ?l ?c ?k ?b
   (case a=>k_is);(case l=>k_is);(case c=>k_is);(case k=>k_is);(case b=>exact λ_ _ _ _ _ _ us hl=>match us,hl with | [_],_=>rfl)
  have DNM:Fc.Def (L2.aU KX) mg "_law_name" K1.xa ["_law_number"]:=by
   dsimp only [L2.aU]
   refine' Fc.a8 KX G ?a ?l ?c ?k ?b
   (case a=>k_is);(case l=>k_is);(case c=>k_is);(case k=>k_is);(case b=>exact λ_ _ _ _ _ _ us hl=>match us,hl with | [_],_=>rfl)
  have DPA:Fc.Def (L2.aU KX) mg "_law_passes" K1.xn ["_law_items"]:=by
   dsimp only [L2.aU]
   refine' Fc.a8 KX G ?a ?l ?c ?k ?b
   (case a=>k_is);(case l=>k_is);(case c=>k_is);(case k=>k_is);(case b=>exact λ_ _ _ _ _ _ us hl=>match us,hl with | [_],_=>rfl)
  have DTH:Fc.Def (L2.aU KX) mg "_law_thing" K1.uZ ["_law_pen","_law_depth","_law_loops","_law_calls"]:=by
   dsimp only [L2.aU]
   refine' Fc.a8 KX G ?a ?l ?c ?k ?b
   (case a=>k_is);(case l=>k_is);(case c=>k_is);(case k=>k_is);(case b=>exact λ_ _ _ _ _ _ us hl=>match us,hl with | [_,_,_,_],_=>rfl)
  have DLS:Fc.Def (L2.aU KX) mg "_law_list" K1.jq ["_law_pen","_law_depth","_law_loops","_law_calls"]:=by
   dsimp only [L2.aU]
   refine' Fc.a8 KX G ?a ?l ?c ?k ?b
   (case a=>k_is);(case l=>k_is);(case c=>k_is);(case k=>k_is);(case b=>exact λ_ _ _ _ _ _ us hl=>match us,hl with | [_,_,_,_],_=>rfl)
  have DDR:Fc.Def (L2.aU KX) mg "_law_drawn" K1.xO ["_law_script","_law_start"]:=by
   dsimp only [L2.aU]
   refine' Fc.a8 KX G ?a ?l ?c ?k ?b
   (case a=>k_is);(case l=>k_is);(case c=>k_is);(case k=>k_is);(case b=>exact λ_ _ _ _ _ _ us hl=>match us,hl with | [_,_],_=>rfl)
  have DWD:Fc.Def (L2.aU KX) mg "_law_words" K1.xg ["_law_items","_law_names"]:=by
   dsimp only [L2.aU]
   refine' Fc.a8 KX G ?a ?l ?c ?k ?b
   (case a=>k_is);(case l=>k_is);(case c=>k_is);(case k=>k_is);(case b=>exact λ_ _ _ _ _ _ us hl=>match us,hl with | [_,_],_=>rfl)
  have DTX:Fc.Def (L2.aU KX) mg "_law_text" K1.xG ["_law_names","_law_lists"]:=by
   dsimp only [L2.aU]
   refine' Fc.a8 KX G ?a ?l ?c ?k ?b
   (case a=>k_is);(case l=>k_is);(case c=>k_is);(case k=>k_is);(case b=>exact λ_ _ _ _ _ _ us hl=>match us,hl with | [_,_],_=>rfl)
  have DIN:Fc.Def (L2.aU KX) mg "is_name" K1.uo ["word"]:=by
   dsimp only [L2.aU]
   refine' Fc.a8 KX G ?a ?l ?c ?k ?b
   (case a=>k_is);(case l=>k_is);(case c=>k_is);(case k=>k_is);(case b=>exact λ_ _ _ _ _ _ us hl=>match us,hl with | [_],_=>rfl)
  have DNB:Fc.Def (L2.aU KX) mg "name_behind" K1.xQ ["words","word"]:=by
   dsimp only [L2.aU]
   refine' Fc.a8 KX G ?a ?l ?c ?k ?b
   (case a=>k_is);(case l=>k_is);(case c=>k_is);(case k=>k_is);(case b=>exact λ_ _ _ _ _ _ us hl=>match us,hl with | [_,_],_=>rfl)
  have DMS:Fc.Def (L2.aU KX) mg "may_stand" K1.w9 ["kind","opened"]:=by
   dsimp only [L2.aU]
   refine' Fc.a8 KX G ?a ?l ?c ?k ?b
   (case a=>k_is);(case l=>k_is);(case c=>k_is);(case k=>k_is);(case b=>exact λ_ _ _ _ _ _ us hl=>match us,hl with | [_,_],_=>rfl)
  have DRD:Fc.Def (L2.aU KX) mg "read" K1.uH ["text"]:=by
   dsimp only [L2.aU]
   refine' Fc.a8 KX G ?a ?l ?c ?k ?b
   (case a=>k_is);(case l=>k_is);(case c=>k_is);(case k=>k_is);(case b=>exact λ_ _ _ _ _ _ us hl=>match us,hl with | [_],_=>rfl)
  have DCS:Fc.Def (L2.aU KX) mg "closing_steps" K1.wY ["steps"]:=by
   dsimp only [L2.aU]
   refine' Fc.a8 KX G ?a ?l ?c ?k ?b
   (case a=>k_is);(case l=>k_is);(case c=>k_is);(case k=>k_is);(case b=>exact λ_ _ _ _ _ _ us hl=>match us,hl with | [_],_=>rfl)
  have DAR:Fc.Def (L2.aU KX) mg "around" K1.xN ["steps","number","kind"]:=by
   dsimp only [L2.aU]
   refine' Fc.a8 KX G ?a ?l ?c ?k ?b
   (case a=>k_is);(case l=>k_is);(case c=>k_is);(case k=>k_is);(case b=>exact λ_ _ _ _ _ _ us hl=>match us,hl with | [_,_,_],_=>rfl)
  have DLF:Fc.Def (L2.aU KX) mg "leads_from" K1.wV ["steps","closing","number"]:=by
   dsimp only [L2.aU]
   refine' Fc.a8 KX G ?a ?l ?c ?k ?b
   (case a=>k_is);(case l=>k_is);(case c=>k_is);(case k=>k_is);(case b=>exact λ_ _ _ _ _ _ us hl=>match us,hl with | [_,_,_],_=>rfl)
  have DLI:Fc.Def (L2.aU KX) mg "leads_in" K1.uN ["steps"]:=by
   dsimp only [L2.aU]
   refine' Fc.a8 KX G ?a ?l ?c ?k ?b
   (case a=>k_is);(case l=>k_is);(case c=>k_is);(case k=>k_is);(case b=>exact λ_ _ _ _ _ _ us hl=>match us,hl with | [_],_=>rfl)
  have DPI:Fc.Def (L2.aU KX) mg "parts_in" K1.uw ["steps"]:=by
   dsimp only [L2.aU]
   refine' Fc.a8 KX G ?a ?l ?c ?k ?b
   (case a=>k_is);(case l=>k_is);(case c=>k_is);(case k=>k_is);(case b=>exact λ_ _ _ _ _ _ us hl=>match us,hl with | [_],_=>rfl)
  have DST:Fc.Def (L2.aU KX) mg "stands_in" K1.xh ["steps","leads"]:=by
   dsimp only [L2.aU]
   refine' Fc.a8 KX G ?a ?l ?c ?k ?b
   (case a=>k_is);(case l=>k_is);(case c=>k_is);(case k=>k_is);(case b=>exact λ_ _ _ _ _ _ us hl=>match us,hl with | [_,_],_=>rfl)
  have DRI:Fc.Def (L2.aU KX) mg "rows_in" K1.xy ["steps","leads","stands"]:=by
   dsimp only [L2.aU]
   refine' Fc.a8 KX G ?a ?l ?c ?k ?b
   (case a=>k_is);(case l=>k_is);(case c=>k_is);(case k=>k_is);(case b=>exact λ_ _ _ _ _ _ us hl=>match us,hl with | [_,_,_],_=>rfl)
  have DNW:Fc.Def (L2.aU KX) mg "name_words" K1.uD ["spots","parts"]:=by
   dsimp only [L2.aU]
   refine' Fc.a8 KX G ?a ?l ?c ?k ?b
   (case a=>k_is);(case l=>k_is);(case c=>k_is);(case k=>k_is);(case b=>exact λ_ _ _ _ _ _ us hl=>match us,hl with | [_,_],_=>rfl)
  have DNA:Fc.Def (L2.aU KX) mg "named_again" K1.qR ["spots"]:=by
   dsimp only [L2.aU]
   refine' Fc.a8 KX G ?a ?l ?c ?k ?b
   (case a=>k_is);(case l=>k_is);(case c=>k_is);(case k=>k_is);(case b=>exact λ_ _ _ _ _ _ us hl=>match us,hl with | [_],_=>rfl)
  have DCA:Fc.Def (L2.aU KX) mg "called_astray" K1.xB ["spots"]:=by
   dsimp only [L2.aU]
   refine' Fc.a8 KX G ?a ?l ?c ?k ?b
   (case a=>k_is);(case l=>k_is);(case c=>k_is);(case k=>k_is);(case b=>exact λ_ _ _ _ _ _ us hl=>match us,hl with | [_],_=>rfl)
  have DCT:Fc.Def (L2.aU KX) mg "come_to" K1.sQ ["spots"]:=by
   dsimp only [L2.aU]
   refine' Fc.a8 KX G ?a ?l ?c ?k ?b
   (case a=>k_is);(case l=>k_is);(case c=>k_is);(case k=>k_is);(case b=>exact λ_ _ _ _ _ _ us hl=>match us,hl with | [_],_=>rfl)
  have DNC:Fc.Def (L2.aU KX) mg "not_come_to" K1.qI ["spots"]:=by
   dsimp only [L2.aU]
   refine' Fc.a8 KX G ?a ?l ?c ?k ?b
   (case a=>k_is);(case l=>k_is);(case c=>k_is);(case k=>k_is);(case b=>exact λ_ _ _ _ _ _ us hl=>match us,hl with | [_],_=>rfl)
  have DNL:Fc.Def (L2.aU KX) mg "not_called" K1.qO ["spots"]:=by
   dsimp only [L2.aU]
   refine' Fc.a8 KX G ?a ?l ?c ?k ?b
   (case a=>k_is);(case l=>k_is);(case c=>k_is);(case k=>k_is);(case b=>exact λ_ _ _ _ _ _ us hl=>match us,hl with | [_],_=>rfl)
  have DEB:Fc.Def (L2.aU KX) mg "ended_at_begin" K1.ur ["spots"]:=by
   dsimp only [L2.aU]
   refine' Fc.a8 KX G ?a ?l ?c ?k ?b
   (case a=>k_is);(case l=>k_is);(case c=>k_is);(case k=>k_is);(case b=>exact λ_ _ _ _ _ _ us hl=>match us,hl with | [_],_=>rfl)
  have DRB:Fc.Def (L2.aU KX) mg "rows_beyond" K1.sV ["spots"]:=by
   dsimp only [L2.aU]
   refine' Fc.a8 KX G ?a ?l ?c ?k ?b
   (case a=>k_is);(case l=>k_is);(case c=>k_is);(case k=>k_is);(case b=>exact λ_ _ _ _ _ _ us hl=>match us,hl with | [_],_=>rfl)
  have DPL2:Fc.Def (L2.aU KX) mg "places_in" K1.rj ["spots","part"]:=by
   dsimp only [L2.aU]
   refine' Fc.a8 KX G ?a ?l ?c ?k ?b
   (case a=>k_is);(case l=>k_is);(case c=>k_is);(case k=>k_is);(case b=>exact λ_ _ _ _ _ _ us hl=>match us,hl with | [_,_],_=>rfl)
  have DPY:Fc.Def (L2.aU KX) mg "places_beyond" K1.qc ["spots"]:=by
   dsimp only [L2.aU]
   refine' Fc.a8 KX G ?a ?l ?c ?k ?b
   (case a=>k_is);(case l=>k_is);(case c=>k_is);(case k=>k_is);(case b=>exact λ_ _ _ _ _ _ us hl=>match us,hl with | [_],_=>rfl)
  have DPB:Fc.Def (L2.aU KX) mg "parts_beyond" K1.xH ["spots"]:=by
   dsimp only [L2.aU]
   refine' Fc.a8 KX G ?a ?l ?c ?k ?b
   (case a=>k_is);(case l=>k_is);(case c=>k_is);(case k=>k_is);(case b=>exact λ_ _ _ _ _ _ us hl=>match us,hl with | [_],_=>rfl)
  have DHI:Fc.Def (L2.aU KX) mg "hindrances" K1.xD ["spots"]:=by
   dsimp only [L2.aU]
   refine' Fc.a8 KX G ?a ?l ?c ?k ?b
   (case a=>k_is);(case l=>k_is);(case c=>k_is);(case k=>k_is);(case b=>exact λ_ _ _ _ _ _ us hl=>match us,hl with | [_],_=>rfl)
  have DNP:Fc.Def (L2.aU KX) mg "need_program" K1.xC ["text"]:=by
   dsimp only [L2.aU]
   refine' Fc.a8 KX G ?a ?l ?c ?k ?b
   (case a=>k_is);(case l=>k_is);(case c=>k_is);(case k=>k_is);(case b=>exact λ_ _ _ _ _ _ us hl=>match us,hl with | [_],_=>rfl)
  have DLK:Fc.Def (L2.aU KX) mg "looked" K1.xr ["text"]:=by
   dsimp only [L2.aU]
   refine' Fc.a8 KX G ?a ?l ?c ?k ?b
   (case a=>k_is);(case l=>k_is);(case c=>k_is);(case k=>k_is);(case b=>exact λ_ _ _ _ _ _ us hl=>match us,hl with | [_],_=>rfl)
  refine' K1.Bc KX G hmg ⟨M,M2,M3,DRW,DSC,DPC,DMX,DPL,DNM,DPA,DTH,DLS,DDR,DWD,DTX,DIN,DNB,DMS,DRD,DCS,DAR,DLF,DLI,DPI,DST,DRI,DNW,DNA,DCA,DCT,DNC,DNL,DEB,DRB,DPL2,DPY,DPB,DHI,DNP,DLK⟩ ?a ?l ?c ?k
  (case a=>k_is);(case l=>k_is);(case c=>k_is);(case k=>k_is)
