import PyProof.Rows.All
import Wide.All
import OpenK.AllK
import Wide.FinOn
import Lean
import PyProof.EqAt
import PyProof.EqKinds
import PyProof.TupleCall
import PyProof.NeKinds
import PyProof.WalksEnum
import PyProof.EnumMake
import KE.KTryMore
import PyProof.NsDelKeeps
import PyProof.SumWalkG
import PyProof.SeqI3
import KE.KDictSum
import PyProof.AttrMiss
import PyProof.IsiH_list
import KE.KDictOf
import PySem.Challenge.RW_fewcounters_k77_whole_machine
import PyProof.ZipIter
import PyProof.TupleIter
import KE.KSortTup
set_option Elab.async false
set_option linter.all false
set_option maxRecDepth 100000
namespace L2
open PySem PySem.Spec PyProof.Rows
section
variable {a b:Addr}
abbrev Key:=Sum Int Str
def gF:Key->Value->Bool
 | .inl k,v=>Value.isInt k v
 | .inr x,v=>Value.isStrOf x v
def Bn (w:World):Key->Int
 | .inl k=>hashInt k
 | .inr x=>hashStr w x
theorem cw:∀{k:Key} {v:Value},gF k v=true->(∃i t,k=Sum.inl i/\v=Value.int i t)∨(∃x t,k=Sum.inr x/\v=Value.str x t)
 | .inl i,v,h=>by
   obtain ⟨t,e⟩:=Value.isInt_shape (k:=i) (v:=v) h
   exact .inl ⟨i,t,rfl,e⟩
 | .inr x,v,h=>by
   obtain ⟨t,e⟩:=Value.isStrOf_shape (x:=x) (v:=v) h
   exact .inr ⟨x,t,rfl,e⟩
theorem p9 (i:Int)(t:Tok):gF (.inl i) (.int i t)=true:=by simp [gF,Value.isInt]
theorem qK (x:Str)(t:Tok):gF (.inr x) (.str x t)=true:=by simp [gF,Value.isStrOf]
theorem yA (a b:Int):decide ((Sum.inl a:Key)=Sum.inl b)=(a==b):=by
 by_cases e:a=b
 ·subst e;simp
 ·have h:¬(Sum.inl a:Key)=Sum.inl b:=λq=>e (Sum.inl.inj q)
  rw [decide_eq_false h]
  exact (beq_eq_false_iff_ne.mpr e).symm
theorem wM (a b:Str):decide ((Sum.inr a:Key)=Sum.inr b)=decide (a=b):=by
 by_cases e:a=b
 ·subst e;simp
 ·have h:¬(Sum.inr a:Key)=Sum.inr b:=λq=>e (Sum.inr.inj q)
  rw [decide_eq_false h,decide_eq_false e]
theorem yh (a:Int)(b:Str):decide ((Sum.inl a:Key)=Sum.inr b)=false:=decide_eq_false (λq=>nomatch q)
theorem za (a:Str)(b:Int):decide ((Sum.inr a:Key)=Sum.inl b)=false:=decide_eq_false (λq=>nomatch q)
def bH (prog:Program)(w:World):PySem.KeyKind prog w Key where
 is:=gF
 hash:=Bn w
 inj:=λv a b ha hb=>by
  rcases cw ha with ⟨i,t,rfl,rfl⟩ | ⟨x,t,rfl,rfl⟩
  ·rcases cw hb with ⟨j,u,rfl,e⟩ | ⟨y,u,rfl,e⟩
   ·injection e with e1 _;rw [e1]
   ·exact nomatch e
  ·rcases cw hb with ⟨j,u,rfl,e⟩ | ⟨y,u,rfl,e⟩
   ·exact nomatch e
   ·injection e with e1 _;rw [e1]
 byValue:=λk v h=>by
  rcases cw h with ⟨i,t,rfl,rfl⟩ | ⟨x,t,rfl,rfl⟩<;>rfl
 pyHash:=λhv h=>by
  rcases cw hv with ⟨i,t,rfl,rfl⟩ | ⟨x,t,rfl,rfl⟩
  ·exact wpAny_pyHash_int h
  ·exact wpAny_pyHash_str h
 eqBool:=λhu hv h=>by
  rcases cw hu with ⟨i,t,rfl,rfl⟩ | ⟨x,t,rfl,rfl⟩
  ·rcases cw hv with ⟨j,u,rfl,rfl⟩ | ⟨y,u,rfl,rfl⟩
   ·rw [yA] at h;exact wpAny_eqBool_int h
   ·rw [yh] at h;exact SeqAt.EqAt.int_str i t y u _ _ _ _ h
  ·rcases cw hv with ⟨j,u,rfl,rfl⟩ | ⟨y,u,rfl,rfl⟩
   ·rw [za] at h;exact SeqAt.EqAt.str_int x t j u _ _ _ _ h
   ·rw [wM] at h;exact wpAny_eqBool_str h
 «strs»:=λk x t v h=>by
  rcases cw h with ⟨i,u,rfl,e⟩ | ⟨y,u,rfl,e⟩
  ·exact nomatch e
  ·injection e with e1 _
   subst e1
   cases v<;>rfl
theorem mY (prog:Program)(w:World)(i:Int)(t:Tok):(bH prog w).is (.inl i) (.int i t)=true:=p9 i t
theorem bo (prog:Program)(w:World)(x:Str)(t:Tok):(bH prog w).is (.inr x) (.str x t)=true:=qK x t
inductive V where
 | non | bl (b:Bool) | int (i:Int) | str (x:Str) | byt (b:Array UInt8) | flt (b:UInt64) | ref (a:Addr) | ty (n:String)
 deriving DecidableEq
def RelV:V->Value->Prop
 | .non,u=>u=Value.none
 | .bl b,u=>u=Value.bool b
 | .int i,u=>∃t,u=Value.int i t
 | .str x,u=>∃t,u=Value.str x t
 | .byt b,u=>∃t,u=Value.bytes b t
 | .flt b,u=>∃t,u=Value.float b t
 | .ref a,u=>u=Value.ref a
 | .ty n,u=>u=Value.type n
abbrev Vals:List V->List Value->Prop:=Paired RelV
theorem Vals.length {xs:List V}{us:List Value}(r:Vals xs us):xs.length=us.length:=Paired.length r
theorem Vals.get:∀{xs:List V} {us:List Value} {i:Nat} {x:V},Vals xs us->xs[i]?=some x->∃u,us[i]?=some u/\RelV x u
 | _,_,_,_,.nil,e=>by simp at e
 | _,_,0,_,.cons r _,e=>by simp at e;subst e;exact ⟨_,rfl,r⟩
 | _,_,i + 1,x,.cons _ t,e=>by
   obtain ⟨u,h1,h2⟩:=Vals.get (i:=i) (x:=x) t (by simpa using e)
   exact ⟨u,by simpa using h1,h2⟩
theorem Vals.set {x:V}{u:Value}(r:RelV x u):∀{xs:List V} {us:List Value} (i:Nat),Vals xs us->Vals (xs.set i x) (us.set i u)
 | _,_,_,.nil=>.nil
 | _,_,0,.cons _ t=>.cons r t
 | _,_,i + 1,.cons q t=>.cons q (Vals.set r i t)
theorem Vals.append:∀{xs ys:List V} {us ws:List Value},Vals xs us->Vals ys ws->Vals (xs++ys) (us++ws)
 | _,_,_,_,.nil,s=>s
 | _,_,_,_,.cons r t,s=>.cons r (Vals.append t s)
theorem Vals.take:∀{xs:List V} {us:List Value} (n:Nat),Vals xs us->Vals (xs.take n) (us.take n)
 | _,_,0,_=>.nil
 | _,_,_ + 1,.nil=>.nil
 | _,_,n + 1,.cons r t=>.cons r (Vals.take n t)
theorem Vals.drop:∀{xs:List V} {us:List Value} (n:Nat),Vals xs us->Vals (xs.drop n) (us.drop n)
 | _,_,0,r=>r
 | _,_,_ + 1,.nil=>.nil
 | _,_,n + 1,.cons _ t=>Vals.drop n t
def dW:Option V->Option Value->Prop
 | some v,some u=>RelV v u
 | none,none=>True
 | _,_=>False
def KV {κ:Type}:List (κ×V)->List (κ×Value)->Prop:=Paired λ(p:κ×V) (q:κ×Value)=>p.1=q.1/\RelV p.2 q.2
def kV:Key->V
 | .inl i=>.int i
 | .inr x=>.str x
inductive HO where
 /-- a list -/
 | lst (xs:List V)
 /-- a tuple (never changes) -/
 | tup (xs:List V)
 /-- a dict whose keys are ints and texts;one whose keys are tuples of ints and texts (the empty one is both) -/
 | dK (kvs:List (Key×V)) | dT (kvs:List (List Key×V))
 /-- a set of ints:its members,its size -/
 | set (S:Int->Bool) (n:Nat)
 /-- an instance of the class at C,its dict at dx,its attributes -/
 | ins (C dx:Addr) (fs:List (Str×V))
 /-- the dict of the instance at x -/
 | own (x:Addr)
 /-- the dict of an exception -/
 | xd (fs:List (Str×V))
 /-- a bound method,f of x -/
 | met (f x:Addr)
 /-- a range object lo,lo + 1,.. below hi -/
 | rng (lo hi:Int)
 /-- a thing that is known to the object (the script;a dict while a loop walks it):read,never written while it is so -/
 | frz (o:Obj) (u:HO)
 /-- a code object's table -/
 | tbl (ps:Array Value)
 /-- any other thing,by what is true of its one object (a def of one's own:SetO a S n:=HO.ext λh=>..) -/
 | ext (φ:Heap->Prop)
abbrev Hp:=Addr->Option HO
def upd (H:Hp)(a:Addr)(o:HO):Hp:=λb=>if b=a then some o else H b
theorem aF {H:Hp}{o:HO}:upd H a o a=some o:=by unfold upd;rw [if_pos rfl]
theorem aE {H:Hp}{o:HO}(h:b≠a):upd H a o b=H b:=by unfold upd;rw [if_neg h]
theorem Ap {H:Hp}{o u:HO}(h:H a=some o)(h':H b=some u)(d:o≠u):a≠b:=by
 intro e;subst e;rw [h] at h';exact d (Option.some.inj h')
theorem cg {H:Hp}{o:HO}(h:H a=some o)(h':H b=none):a≠b:=by
 intro e;subst e;rw [h] at h';cases h'
end
section
variable (P:Program)(w:World)
def bG (H:Hp)(h:Heap)(a:Addr):HO->Prop
 | .lst xs=>xs.length<=sizeLine/\∃(its:List Value) (n:Nat),Vals xs its/\h.get? a=some {cls:=.type "list",data:=.seq its.toArray n}
 | .tup xs=>xs.length<=sizeLine/\∃its:List Value,Vals xs its/\IsTup h a its.toArray
 | .dK kvs=>kvs.length<=sizeLine/\(a==sysModules)=false/\∃vs,KV kvs vs/\h.DictOf (bH P w) a vs
 | .dT kvs=>kvs.length<=sizeLine/\(a==sysModules)=false/\∃xs:List (List Key×Addr×Value),
  Paired (λ(p:List Key×V) (q:List Key×Addr×Value)=>p.1=q.1/\H q.2.1=some (.tup (p.1.map kV))/\RelV p.2 q.2.2) kvs xs/\
  ∃o es ep,h.get? a=some o/\o.ExactDict/\o.data= .dict es ep/\es.toList=xs.map (entryOfKey (tupleKind (bH P w)))/\(xs.map (·.1)).Nodup
 | .set S n=>h.SetOf (intKind P w) a S n
 | .ins C dx fs=>H dx=some (.own a)/\fs.length<=1000/\dx≠a/\h.get? a=some (PySem.W.instObj C dx)/\
  ∃mA,h.Ns1 dx mA/\(∀f,dW (fs.lookup f) (mA f))/\PySem.Within mA (fs.map (·.1))
 | .own _=>∃o,h.get? a=some o
 | .xd fs=>∃mA,h.Ns1 a mA/\∀f,dW (fs.lookup f) (mA f)
 | .rng lo hi=>∃t u v,h.get? a=some {cls:=.type "range",data:=.fields #[.int lo t,.int hi u,.int 1 v]}
 | .frz o u=>h.get? a=some o/\bG H h a u
 | .tbl ps=>h.get? a=some {cls:=.none,data:=.fields ps}
 | .met f x=>h.get? a=some (PySem.W.methodObj (.ref f) (.ref x))
 | .ext φ=>φ h/\(∃o,h.get? a=some o)/\∀h1 h2:Heap,φ h1->(∀o,h1.get? a=some o->h2.get? a=some o)->φ h2
def bY (H:Hp)(h:Heap):Prop:=∀a o,H a=some o->bG P w H h a o
end
section
variable {P:Program}{w:World}{H H':Hp}{h h':Heap}{a:Addr}{o:HO}
theorem bG.lt (x:bG P w H h a o):a < h.objs.size:=by
 cases o with
 | lst xs=>obtain ⟨_,_,_,_,e⟩:=x;exact Heap.lt_size e
 | tup xs=>obtain ⟨_,_,_,p⟩:=x;exact p.lt
 | dK kvs=>obtain ⟨_,_,_,_,o,_,_,e,_⟩:=x;exact Heap.lt_size e
 | dT kvs=>obtain ⟨_,_,_,_,o,_,_,e,_⟩:=x;exact Heap.lt_size e
 | set S n=>obtain ⟨o,_,_,_,e,_⟩:=x;exact Heap.lt_size e
 | ins C dx fs=>obtain ⟨_,_,_,e,_⟩:=x;exact Heap.lt_size e
 | own y=>obtain ⟨_,e⟩:=x;exact Heap.lt_size e
 | xd fs=>obtain ⟨_,⟨_,_,_,e,_⟩,_⟩:=x;exact Heap.lt_size e
 | rng lo hi=>obtain ⟨_,_,_,e⟩:=x;exact Heap.lt_size e
 | frz ob u=>obtain ⟨e,_⟩:=x;exact Heap.lt_size e
 | tbl ps=>exact Heap.lt_size (show h.get? a=some _ from x)
 | met f y=>exact Heap.lt_size (show h.get? a=some _ from x)
 | ext φ=>obtain ⟨_,⟨_,e⟩,_⟩:=x;exact Heap.lt_size e
theorem Paired.sM {α β:Type}{F G:α->β->Prop}:∀{l₁:List α} {l₂:List β},Paired F l₁ l₂->(∀a b,F a b->G a b)->Paired G l₁ l₂
 | _,_,.nil,_=>.nil
 | _,_,.cons r t,f=>.cons (f _ _ r) (Paired.sM t f)
theorem bG.fJ (x:bG P w H h a o)(k:∀b u,(b=a∨H b=some (.own a))->h.get? b=some u->h'.get? b=some u)
 (ho:∀b,H b=some (.own a)->H' b=some (.own a)) (ht:∀b xs,H b=some (.tup xs)->H' b=some (.tup xs)):bG P w H' h' a o:=by
 induction o with
 | lst xs=>obtain ⟨z,its,n,r,e⟩:=x;exact ⟨z,its,n,r,k _ _ (.inl rfl) e⟩
 | tup xs=>obtain ⟨z,its,r,ob,e,c⟩:=x;exact ⟨z,its,r,ob,k _ _ (.inl rfl) e,c⟩
 | dK kvs=>obtain ⟨z,y,vs,r,ob,es,ep,e,c⟩:=x;exact ⟨z,y,vs,r,ob,es,ep,k _ _ (.inl rfl) e,c⟩
 | dT kvs=>
   obtain ⟨z,y,xs,r,ob,es,ep,e,c⟩:=x
   exact ⟨z,y,xs,Paired.sM r λp q z=>⟨z.1,ht _ _ z.2.1,z.2.2⟩,ob,es,ep,k _ _ (.inl rfl) e,c⟩
 | set S n=>obtain ⟨ob,es,ep,t,e,c⟩:=x;exact ⟨ob,es,ep,t,k _ _ (.inl rfl) e,c⟩
 | ins C dx fs=>
   obtain ⟨d,z,ne,e,mA,⟨od,es,ep,e2,c⟩,r⟩:=x
   exact ⟨ho _ d,z,ne,k _ _ (.inl rfl) e,mA,⟨od,es,ep,k _ _ (.inr d) e2,c⟩,r⟩
 | own y=>obtain ⟨ob,e⟩:=x;exact ⟨ob,k _ _ (.inl rfl) e⟩
 | xd fs=>obtain ⟨mA,⟨od,es,ep,e,c⟩,r⟩:=x;exact ⟨mA,⟨od,es,ep,k _ _ (.inl rfl) e,c⟩,r⟩
 | rng lo hi=>obtain ⟨t,u,v,e⟩:=x;exact ⟨t,u,v,k _ _ (.inl rfl) e⟩
 | frz ob u ih=>obtain ⟨e,q⟩:=x;exact ⟨k _ _ (.inl rfl) e,ih q⟩
 | tbl ps=>
   have e:h.get? a=some {cls:=.none,data:=.fields ps}:=x
   show h'.get? a=some {cls:=.none,data:=.fields ps}
   exact k a _ (.inl rfl) e
 | met f y=>
   have e:h.get? a=some (PySem.W.methodObj (.ref f) (.ref y)):=x
   show h'.get? a=some (PySem.W.methodObj (.ref f) (.ref y))
   exact k a _ (.inl rfl) e
 | ext φ=>obtain ⟨p,⟨o,e⟩,st⟩:=x;exact ⟨st _ _ p λo q=>k _ _ (.inl rfl) q,⟨o,k _ _ (.inl rfl) e⟩,st⟩
theorem bY.lt (x:bY P w H h)(e:H a=some o):a < h.objs.size:=(x a o e).lt
theorem bY.fresh (x:bY P w H h)(e:h.objs.size<=a):H a=none:=by
 cases q:H a with
 | none=>rfl
 | some u=>exact absurd (Nat.lt_of_lt_of_le (x.lt q) e) (Nat.lt_irrefl _)
theorem bY.kept (x:bY P w H h)(k:∀b u,h.get? b=some u->h'.get? b=some u):bY P w H h':=λa o e=>
 (x a o e).fJ (λb u _ q=>k b u q) (λ_ q=>q) λ_ _ q=>q
theorem bY.laid (x:bY P w H h)(k:∀b u,h.get? b=some u->h'.get? b=some u)(hp:h.objs.size<=a)(new:bG P w (upd H a o) h' a o):bY P w (upd H a o) h':=λb u e=>by
 have hn:=x.fresh hp
 by_cases hb:b=a
 ·subst hb;rw [aF] at e;cases e;exact new
 ·rw [aE hb] at e
  exact (x b u e).fJ (λc v _ q=>k c v q) (λc q=>by rw [aE (cg q hn)];exact q) λc xs q=>by rw [aE (cg q hn)];exact q
end
def Rd (H:Hp)(a:Addr)(u:HO):Prop:=H a=some u∨∃o,H a=some (.frz o u)
theorem Rd.ok {P:Program}{w:World}{H:Hp}{h:Heap}{a:Addr}{u:HO}(r:Rd H a u)(x:bY P w H h):bG P w H h a u:=by
 rcases r with r | ⟨o,r⟩
 ·exact x a u r
 ·obtain ⟨_,q⟩:=x a _ r
  exact q
def qf:Option HO->Prop
 | some (.lst _)=>True
 | some (.dK _)=>True
 | some (.dT _)=>True
 | some (.set _ _)=>True
 | some (.ins _ _ _)=>True
 | some (.ext _)=>True
 | _=>False
section
variable {P:Program}{w:World}{H:Hp}{h h':Heap}{x e:Addr}{o':HO}
theorem bY.write (ok:bY P w H h)(mu:qf (H x))(he:e=x∨H e=some (.own x))(k:∀b u,b≠e->h.get? b=some u->h'.get? b=some u)(heo:∃u,h'.get? e=some u)
 (new:bG P w (upd H x o') h' x o'):bY P w (upd H x o') h':=λb u q=>by
 have nown:∀c y,H c=some (.own y)->c≠x:=λc y r z=>by subst z;rw [r] at mu;exact mu
 have ntup:∀c xs,H c=some (.tup xs)->c≠x:=λc xs r z=>by subst z;rw [r] at mu;exact mu
 by_cases hb:b=x
 ·subst hb;rw [aF] at q;cases q;exact new
 ·rw [aE hb] at q
  by_cases hbe:b=e
  ·have q':H b=some (.own x):=by
    rcases he with z | z
    ·exact absurd (hbe.trans z) hb
    ·rw [hbe];exact z
   rw [q] at q';cases q'
   obtain ⟨v,hv⟩:=heo
   exact ⟨v,by rw [hbe];exact hv⟩
  ·refine (ok b u q).fJ (λc v hc r=>k c v ?_ r) (λc r=>by rw [aE (nown c b r)];exact r) λc xs r=>by rw [aE (ntup c xs r)];exact r
   rcases hc with rfl | hc
   ·exact hbe
   ·rintro rfl
    rcases he with z | z
    ·exact nown c b hc z
    ·rw [hc] at z;cases z;exact hb rfl
end
structure Un (fs ex:List Addr) (H H':Hp) (h h':Heap):Prop where
 keep:∀b o,h.get? b=some o->H b=none->b∉fs->b∉ex->h'.get? b=some o
 slot:∀b o,h.get? b=some o->H b=none->b∈fs->b∉ex->∃sl,h'.get? b=some {o with slots:=sl}
 free:∀b o,h.get? b=some o->H b=none->b∉ex->H' b=none
 there:∀b o,h.get? b=some o->b∉ex->∃o',h'.get? b=some o'
 tups:∀b xs,H b=some (.tup xs)->H' b=some (.tup xs)
 frzs:∀b o u,H b=some (.frz o u)->H' b=some (.frz o u)
 tbls:∀b ps,H b=some (.tbl ps)->∃more,H' b=some (.tbl (ps++more))
section
variable {fs fs' ex ex':List Addr}{H H1 H2:Hp}{h h1 h2 h':Heap}{a x e:Addr}{o:HO}
theorem Un.any (u:Un fs ex H H1 h h1){b:Addr}{ob:Obj}(q:h.get? b=some ob)(n:H b=none)(hx:b∉ex):∃sl,h1.get? b=some {ob with slots:=sl}:=by
 by_cases hb:b∈fs
 ·exact u.slot b ob q n hb hx
 ·exact ⟨ob.slots,u.keep b ob q n hb hx⟩
theorem Un.trans (a:Un fs ex H H1 h h1)(b:Un fs ex H1 H2 h1 h2):Un fs ex H H2 h h2 where
 keep:=λc ob q n hc hx=>b.keep c ob (a.keep c ob q n hc hx) (a.free c ob q n hx) hc hx
 slot:=λc ob q n hc hx=>by
  obtain ⟨sl,e1⟩:=a.slot c ob q n hc hx
  obtain ⟨sl',e2⟩:=b.slot c _ e1 (a.free c ob q n hx) hc hx
  exact ⟨sl',e2⟩
 free:=λc ob q n hx=>by
  obtain ⟨o',e1⟩:=a.there c ob q hx
  exact b.free c o' e1 (a.free c ob q n hx) hx
 there:=λc ob q hx=>by
  obtain ⟨o',e1⟩:=a.there c ob q hx
  exact b.there c o' e1 hx
 tups:=λc xs q=>b.tups c xs (a.tups c xs q)
 frzs:=λc ob xs q=>b.frzs c ob xs (a.frzs c ob xs q)
 tbls:=λc ps q=>by
  obtain ⟨m1,e1⟩:=a.tbls c ps q
  obtain ⟨m2,e2⟩:=b.tbls c _ e1
  exact ⟨m1++m2,by rw [e2,Array.append_assoc]⟩
theorem Un.kept (k:∀b u,h.get? b=some u->h'.get? b=some u):Un fs ex H H h h':=
 ⟨λb ob q _ _ _=>k b ob q,λb ob q _ _ _=>⟨ob.slots,k b ob q⟩,λ_ _ _ n _=>n,λb ob q _=>⟨ob,k b ob q⟩,λ_ _ q=>q,λ_ _ _ q=>q,λ_ ps q=>⟨#[],by rw [q];simp⟩⟩
theorem Un.refl:Un fs ex H H h h:=Un.kept λ_ _ q=>q
theorem Un.laid (k:∀b u,h.get? b=some u->h'.get? b=some u)(hp:h.objs.size<=a)(hn:H a=none):Un fs ex H (upd H a o) h h' where
 keep:=λb u q _ _ _=>k b u q
 slot:=λb u q _ _ _=>⟨u.slots,k b u q⟩
 free:=λb u q n _=>by rw [aE (Nat.ne_of_lt (Nat.lt_of_lt_of_le (Heap.lt_size q) hp))];exact n
 there:=λb u q _=>⟨u,k b u q⟩
 tups:=λb xs q=>by rw [aE (cg q hn)];exact q
 frzs:=λb u xs q=>by rw [aE (cg q hn)];exact q
 tbls:=λb ps q=>⟨#[],by rw [aE (cg q hn),q];simp⟩
theorem Un.write (mu:qf (H x))(he:e=x∨H e=some (.own x))(k:∀b u,b≠e->h.get? b=some u->h'.get? b=some u)(heo:∃u,h'.get? e=some u):Un fs ex H (upd H x o) h h':=by
 have hx:∀b,H b=none->b≠x:=λb n z=>by subst z;rw [n] at mu;exact mu
 have hb:∀b,H b=none->b≠e:=λb n z=>by
  subst z
  rcases he with r | r
  ·exact hx b n r
  ·rw [n] at r;cases r
 have hm:∀b u,H b=some u->¬qf (some u)->b≠x:=λb u q nm z=>by subst z;rw [q] at mu;exact nm mu
 refine ⟨λb u q n _ _=>k b u (hb b n) q,λb u q n _ _=>⟨u.slots,k b u (hb b n) q⟩,λb u q n _=>by rw [aE (hx b n)];exact n,λb u q _=>?_,
  λb xs q=>by rw [aE (hm b _ q λz=>z)];exact q,λb u xs q=>by rw [aE (hm b _ q λz=>z)];exact q,λb ps q=>⟨#[],by rw [aE (hm b _ q λz=>z),q];simp⟩⟩
 by_cases hbe:b=e
 ·subst hbe;exact heo
 ·exact ⟨u,k b u hbe q⟩
theorem Un.mono (u:Un fs ex H H1 h h1)(hs:∀b∈fs,b∈fs')(hx:∀b∈ex,b∈ex'):Un fs' ex' H H1 h h1:=
 ⟨λb ob q n hb he=>u.keep b ob q n (λz=>hb (hs b z)) λz=>he (hx b z),λ_ _ q n _ he=>u.any q n λz=>he (hx _ z),λb ob q n he=>u.free b ob q n λz=>he (hx b z),λb ob q he=>u.there b ob q λz=>he (hx b z),u.tups,u.frzs,u.tbls⟩
end
def tN (h:Heap)(H:Hp):List Addr:=(List.range h.objs.size).filter λa=>(H a).isSome
def gQ (h:Heap)(H:Hp):Heap:=PySem.W.hideAll h (tN h H)
theorem qA (h:Heap)(H:Hp):(gQ h H).objs.size=h.objs.size:=PySem.W.hideAll_size _ _
theorem rG {h:Heap}{H:Hp}{b:Addr}{o:Obj}(e:h.get? b=some o)(n:H b=none):(gQ h H).get? b=some o:=
 PySem.W.hideAll_get _ e λhm=>by
  have q:(H b).isSome=true:=(List.mem_filter.mp hm).2
  rw [n] at q;simp at q
theorem vD {h:Heap}{H:Hp}{b:Addr}{o:Obj}(e:(gQ h H).get? b=some o):h.get? b=some o/\H b=none:=by
 have e':h.get? b=some o:=PySem.W.of_hideAll (tN h H) e
 refine ⟨e',?_⟩
 cases q:H b with
 | none=>rfl
 | some x=>
   have hm:b∈tN h H:=List.mem_filter.mpr ⟨List.mem_range.mpr (Heap.lt_size e'),by simp [q]⟩
   have z:(gQ h H).get? b=none:=PySem.W.hideAll_none (tN h H) hm
   rw [z] at e;cases e
structure Mod (K:PySem.W.Frag) (mg:Str->Option Value) (base:Heap):Prop where
 kin:K.In base
 glob:base.Ns mainGlobals mg
 blt:∃mb,base.Ns builtinsNs mb/\∀x:Str,x≠"__name__"->mb x=bootBuiltins x
 nolimit:base.NoLimit
structure Cx where
 prog:Program
 w:World
 K:PySem.W.Frag
 mg:Str->Option Value
 base:Heap
 A:Around
 N:List Str
 s₀:Shared
 H₀:Hp
 env:Env
 outer:List Env
 stack:List Env
 ex:List Addr
 fn:Str->Bool
 calm:Bool
 pn:List (Addr×Obj)
 xe:Value->Shared->Prop
def bR (l:List Env):List Addr:=l.filterMap (·.frame)
abbrev Cx.fs (X:Cx):List Addr:=bR X.outer
def cL (sc:Scope)(x:Str):Prop:=sc.names.lookup x=some .local∨sc.names.lookup x=some .cell∨sc.names.lookup x=some .free
def Loc (sc:Scope)(x:Str):Prop:=sc.names.lookup x=some .local∨sc.names.lookup x=some .cell
def Look (env:Env)(h:Heap)(m:Str->Option Value)(x:Str)(u:Value):Prop:=
 (env.kindOf x=some .local/\m x=some u)∨((env.kindOf x=some .cell∨env.kindOf x=some .free)/\∃c,env.cells.lookup x=some c/\h.IsCell c (some u))
structure Cx.Ok (X:Cx):Prop where
 mod:Mod X.K X.mg X.base
 kind:X.env.scope.kind= .function
 glob:X.env.globals=mainGlobals
 blt:X.env.builtins=builtinsNs
 above:X.s₀.heap.objs.size<=X.env.locals
 inj:∀x y c,X.env.cells.lookup x=some c->X.env.cells.lookup y=some c->x=y
 has:∀x,(X.env.kindOf x=some .cell∨X.env.kindOf x=some .free)->∃c,X.env.cells.lookup x=some c
 cab:∀x c,X.fn x=true->X.env.cells.lookup x=some c->X.s₀.heap.objs.size<=c
 hd:X.calm=true->X.A.handled=none
 frames:X.A.frames=some X.stack
 stk:X.stack=X.outer∨(X.stack=X.env::X.outer/\X.env.frame=some X.env.locals)
 exf:∀b∈X.ex,b≠X.env.locals/\∀x c,X.env.cells.lookup x=some c->c≠b
 bs:∀b o,X.base.get? b=some o->X.s₀.heap.get? b=some o/\X.H₀ b=none
 bsz:X.base.objs.size<=X.s₀.heap.objs.size
 noex:∀b o,X.base.get? b=some o->b∉X.ex
 exfs:∀b∈X.ex,b∉X.fs
 funs:X.s₀.heap.FunFrames X.base X.outer
 frf:∀b∈X.fs,X.H₀ b=none
structure Inv (X:Cx) (pins:List (Addr×Obj)) (σ:List (Option V)) (H:Hp) (s:Shared):Prop where
 ok:X.Ok
 os:s.os=X.s₀.os
 bare:AllBare s.gens
 base:Un X.fs X.ex X.H₀ H X.s₀.heap s.heap
 loc:∃m,s.heap.Ns X.env.locals m/\∀(i:Nat) (x:Str) (v:V),X.N[i]?=some x->σ[i]?=some (some v)->cL X.env.scope x->∃u,RelV v u/\Look X.env s.heap m x u
 cell:∀x c,X.env.cells.lookup x=some c->∃v,s.heap.IsCell c v
 free:H X.env.locals=none
 freeC:∀x c,X.env.cells.lookup x=some c->H c=none
 pin:∀p∈X.pn++pins,s.heap.get? p.1=some p.2/\H p.1=none/\p.1≠X.env.locals/\p.1∉X.fs/\∀v,p.2.data≠ .cell v
 hok:bY X.prog X.w H s.heap
 len:σ.length=X.N.length
section
variable {X:Cx}{pins:List (Addr×Obj)}{σ:List (Option V)}{H H':Hp}{s:Shared}{h':Heap}
variable {t':Nat}{ch:List Addr}{x:Str}{i:Nat}
theorem Cx.Ok.Bs (ok:X.Ok){b:Addr}{o:Obj}(e:X.base.get? b=some o):b∉X.fs:=λhb=>by
 have:=(ok.funs.mem hb).1
 rw [e] at this;cases this
theorem Inv.bs (I:Inv X pins σ H s):∀b o,X.base.get? b=some o->s.heap.get? b=some o/\H b=none:=λb o e=>
 ⟨I.base.keep b o (I.ok.bs b o e).1 (I.ok.bs b o e).2 (I.ok.Bs e) (I.ok.noex b o e),I.base.free b o (I.ok.bs b o e).1 (I.ok.bs b o e).2 (I.ok.noex b o e)⟩
theorem Inv.bk (I:Inv X pins σ H s):∀b o,X.base.get? b=some o->s.heap.get? b=some o:=λb o e=>(I.bs b o e).1
theorem Inv.mod (I:Inv X pins σ H s):Mod X.K X.mg X.base:=I.ok.mod
theorem Inv.cO (I:Inv X pins σ H s):X.K.In s.heap:=I.ok.mod.kin.keeps I.bk
theorem Inv.lt (I:Inv X pins σ H s):X.env.locals < s.heap.objs.size:=let ⟨_,hn,_⟩:=I.loc;hn.lt
theorem Inv.sz (I:Inv X pins σ H s):X.s₀.heap.objs.size<=s.heap.objs.size:=Nat.le_trans I.ok.above (Nat.le_of_lt I.lt)
theorem Inv.B2 (I:Inv X pins σ H s){a:Addr}(h:s.heap.objs.size<=a):a∉X.fs:=λhb=>by
 obtain ⟨_,o,ho,_⟩:=I.ok.funs.mem hb
 exact absurd (Nat.lt_of_lt_of_le (Heap.lt_size ho) (Nat.le_trans I.sz h)) (Nat.lt_irrefl _)
theorem Inv.cne (I:Inv X pins σ H s):∀x c,X.env.cells.lookup x=some c->c≠X.env.locals:=λx c e z=>by
 obtain ⟨v,o,ho,hd⟩:=I.cell x c e
 obtain ⟨m,⟨o',es,ep,ho',hd',_⟩,_⟩:=I.loc
 rw [z,ho'] at ho;cases ho;rw [hd'] at hd;cases hd
theorem Inv.funs (I:Inv X pins σ H s):s.heap.FunFrames X.base X.outer:=by
 have all:∀(l:List Env),(∀b∈bR l,b∈X.fs)->X.s₀.heap.FunFrames X.base l->s.heap.FunFrames X.base l:=by
  intro l
  induction l with
  | nil=>intro _ _;trivial
  | cons env r ih=>
    intro hs hl
    obtain ⟨hk,⟨L,o,hf,hn,ho,hd⟩,hr⟩:=hl
    have hL:L∈X.fs:=hs L (by unfold bR;rw [List.filterMap_cons,hf];exact List.mem_cons_self)
    obtain ⟨sl,e⟩:=I.base.slot L o ho (I.ok.frf L hL) hL λz=>I.ok.exfs L z hL
    exact ⟨hk,⟨L,_,hf,hn,e,hd⟩,ih (λb hb=>hs b (by unfold bR;rw [List.filterMap_cons,hf];exact List.mem_cons_of_mem _ hb)) hr⟩
 exact all X.outer (λ_ hb=>hb) I.ok.funs
theorem Inv.stack (I:Inv X pins σ H s):s.heap.FunFrames X.base X.stack:=by
 rcases I.ok.stk with e | ⟨e,hf⟩
 ·rw [e];exact I.funs
 ·rw [e]
  obtain ⟨m,hn,_⟩:=I.loc
  refine .cons (by rw [I.ok.kind];decide) hf hn ?_ I.funs
  exact Heap.get?_none_of_le (Nat.le_trans I.ok.bsz I.ok.above)
theorem Inv.lW (I:Inv X pins σ H s):∀b∈bR X.stack,b∈X.env.locals::X.fs:=λb hb=>by
 rcases I.ok.stk with e | ⟨e,hf⟩
 ·rw [e] at hb;exact List.mem_cons_of_mem _ hb
 ·rw [e] at hb
  unfold bR at hb
  rw [List.filterMap_cons,hf] at hb
  exact hb
theorem Inv.ft (I:Inv X pins σ H s):∀b∈bR X.stack,H b=none:=λb hb=>by
 rcases List.mem_cons.mp (I.lW b hb) with e | hb
 ·rw [e];exact I.free
 ·obtain ⟨_,o,ho,_⟩:=I.ok.funs.mem hb
  exact I.base.free b o ho (I.ok.frf b hb) λz=>I.ok.exfs b z hb
theorem Inv.step {g':Array GenState}{d':Drawn}(I:Inv X pins σ H s)
 (hch:∀b∈ch,(b∈X.ex∨X.s₀.heap.objs.size<=b)/\b≠X.env.locals/\(∀x c,X.env.cells.lookup x=some c->c≠b)/\∀p∈X.pn++pins,p.1≠b)
 (keep:∀b o,b≠X.env.locals->b∉X.fs->b∉ch->s.heap.get? b=some o->H b=none->h'.get? b=some o)
 (slot:∀b o,b≠X.env.locals->b∈X.fs->b∉ch->s.heap.get? b=some o->H b=none->∃sl,h'.get? b=some {o with slots:=sl}) (free:∀b o,b∉ch->s.heap.get? b=some o->H b=none->H' b=none)
 (there:∀b o,b∉ch->s.heap.get? b=some o->∃o',h'.get? b=some o')
 (tups:∀b xs,H b=some (.tup xs)->H' b=some (.tup xs)) (frzs:∀b o u,H b=some (.frz o u)->H' b=some (.frz o u)) (tbls:∀b ps,H b=some (.tbl ps)->∃more,H' b=some (.tbl (ps++more)))
 (ns:∀m,s.heap.Ns X.env.locals m->h'.Ns X.env.locals m) (hok:bY X.prog X.w H' h') (hg:AllBare g'):
 Inv X pins σ H' {s with heap:=h',gens:=g',drawn:=d',toks:=t'}:=by
 have neL:∀b o,X.s₀.heap.get? b=some o->b≠X.env.locals:=λb o e=>Nat.ne_of_lt (Nat.lt_of_lt_of_le (Heap.lt_size e) I.ok.above)
 have neC:∀b o,X.s₀.heap.get? b=some o->b∉X.ex->b∉ch:=λb o e hx hb=>by
  rcases (hch b hb).1 with z | z
  ·exact hx z
  ·exact absurd (Nat.lt_of_lt_of_le (Heap.lt_size e) z) (Nat.lt_irrefl _)
 have cellK:∀x c,X.env.cells.lookup x=some c->∀v,s.heap.IsCell c v->h'.IsCell c v:=λx c e v ⟨o,ho,hd⟩=>by
  have nch:c∉ch:=λz=>(hch c z).2.2.1 x c e rfl
  by_cases hc:c∈X.fs
  ·obtain ⟨sl,q⟩:=slot c o (I.cne x c e) hc nch ho (I.freeC x c e)
   exact ⟨_,q,hd⟩
  ·exact ⟨o,keep c o (I.cne x c e) hc nch ho (I.freeC x c e),hd⟩
 refine ⟨I.ok,I.os,hg,⟨λb o e n hb hx=>?_,λb o e n hb hx=>?_,λb o e n hx=>?_,λb o e hx=>?_,λb xs e=>tups b xs (I.base.tups b xs e),λb o xs e=>frzs b o xs (I.base.frzs b o xs e),λb ps e=>?_⟩,?_,λx c e=>?_,?_,λx c e=>?_,λp hp=>?_,hok,I.len⟩
 ·exact keep b o (neL b o e) hb (neC b o e hx) (I.base.keep b o e n hb hx) (I.base.free b o e n hx)
 ·obtain ⟨sl,e1⟩:=I.base.slot b o e n hb hx
  obtain ⟨sl',e2⟩:=slot b _ (neL b o e) hb (neC b o e hx) e1 (I.base.free b o e n hx)
  exact ⟨sl',e2⟩
 ·obtain ⟨o',e1⟩:=I.base.there b o e hx
  exact free b o' (neC b o e hx) e1 (I.base.free b o e n hx)
 ·obtain ⟨o',e1⟩:=I.base.there b o e hx
  exact there b o' (neC b o e hx) e1
 ·obtain ⟨m1,e1⟩:=I.base.tbls b ps e
  obtain ⟨m2,e2⟩:=tbls b _ e1
  exact ⟨m1++m2,by rw [e2,Array.append_assoc]⟩
 ·obtain ⟨m,hn,hl⟩:=I.loc
  refine ⟨m,ns m hn,λi x v e1 e2 e3=>?_⟩
  obtain ⟨u,r,l⟩:=hl i x v e1 e2 e3
  refine ⟨u,r,?_⟩
  rcases l with l | ⟨k,c,e,z⟩
  ·exact .inl l
  ·exact .inr ⟨k,c,e,cellK x c e _ z⟩
 ·obtain ⟨v,z⟩:=I.cell x c e
  exact ⟨v,cellK x c e v z⟩
 ·obtain ⟨m,⟨o,_,_,ho,_⟩,_⟩:=I.loc
  exact free _ o (λz=>(hch _ z).2.1 rfl) ho I.free
 ·obtain ⟨v,o,ho,hd⟩:=I.cell x c e
  exact free c o (λz=>(hch c z).2.2.1 x c e rfl) ho (I.freeC x c e)
 ·obtain ⟨e,n,ne,nf,d⟩:=I.pin p hp
  have nch:p.1∉ch:=λz=>(hch p.1 z).2.2.2 p hp rfl
  exact ⟨keep p.1 p.2 ne nf nch e n,free p.1 p.2 nch e n,ne,nf,d⟩
theorem Inv.un (I:Inv X pins σ H s)(u:Un X.fs [] H H' s.heap h')(hok:bY X.prog X.w H' h'):Inv X pins σ H' {s with heap:=h',toks:=t'}:=by
 obtain ⟨m,⟨o,es,ep,ho,r⟩,_⟩:=id I.loc
 obtain ⟨sl,hL⟩:=u.any ho I.free (by simp)
 exact I.step (g':=s.gens) (d':=s.drawn) (ch:=[]) (λ_ z=>nomatch z) (λb o _ hb _ e n=>u.keep b o e n hb (by simp)) (λb o _ hb _ e n=>u.slot b o e n hb (by simp)) (λb o _ e n=>u.free b o e n (by simp)) (λb o _ e=>u.there b o e (by simp)) u.tups u.frzs u.tbls (λm' hm=>by
  obtain ⟨o',es',ep',ho',r'⟩:=hm
  rw [ho] at ho';cases ho'
  exact ⟨_,es',ep',hL,r'⟩) hok I.bare
theorem Inv.call {g':Array GenState}{d':Drawn}(I:Inv X pins σ H s)(u:Un (bR X.stack) ch H H' s.heap h')(hok:bY X.prog X.w H' h')(hg:AllBare g')
 (hch:∀b∈ch,(b∈X.ex∨X.s₀.heap.objs.size<=b)/\b≠X.env.locals/\(∀x c,X.env.cells.lookup x=some c->c≠b)/\∀p∈X.pn++pins,p.1≠b):
 Inv X pins σ H' {s with heap:=h',gens:=g',drawn:=d',toks:=t'}:=by
 obtain ⟨m,⟨o,es,ep,ho,r⟩,_⟩:=id I.loc
 obtain ⟨sl,hL⟩:=u.any ho I.free λz=>(hch _ z).2.1 rfl
 exact I.step (ch:=ch) hch (λb o hL hb hc e n=>u.keep b o e n (λz=>(List.mem_cons.mp (I.lW b z)).elim hL hb) hc) (λb o _ _ hc e n=>u.any e n hc) (λb o hc e n=>u.free b o e n hc) (λb o hc e=>u.there b o e hc) u.tups u.frzs u.tbls (λm' hm=>by
  obtain ⟨o',es',ep',ho',r'⟩:=hm
  rw [ho] at ho';cases ho'
  exact ⟨_,es',ep',hL,r'⟩) hok hg
theorem Inv.turned {it:Addr}(I:Inv X pins σ H s)(k:∀b o,b≠it->s.heap.get? b=some o->h'.get? b=some o)(hn:H it=none)(hL:it≠X.env.locals)
 (h1:it∈X.ex∨X.s₀.heap.objs.size<=it) (h2:∀x c,X.env.cells.lookup x=some c->c≠it) (h3:∀p∈X.pn++pins,p.1≠it):Inv X pins σ H {s with heap:=h',toks:=t'}:=by
 have nit:∀b u,H b=some u->b≠it:=λb u e z=>by rw [z,hn] at e;cases e
 refine I.step (g':=s.gens) (d':=s.drawn) (ch:=[it]) (λb hb=>?_) (λb o _ _ hc e _=>k b o (λz=>hc (by simp [z])) e) (λb o _ _ hc e _=>⟨o.slots,k b o (λz=>hc (by simp [z])) e⟩) (λ_ _ _ _ n=>n)
  (λb o hc e=>⟨o,k b o (λz=>hc (by simp [z])) e⟩) (λ_ _ e=>e) (λ_ _ _ e=>e) (λb ps e=>⟨#[],by rw [e];simp⟩) (λm hm=>?_) (λb u e=>?_) I.bare
 ·have e:b=it:=by simpa using hb
  subst e
  exact ⟨h1,hL,h2,h3⟩
 ·obtain ⟨o,es,ep,ho,r⟩:=hm
  exact ⟨o,es,ep,k _ o (Ne.symm hL) ho,r⟩
 ·refine (I.hok b u e).fJ (λc v hc q=>k c v ?_ q) (λ_ q=>q) λ_ _ q=>q
  rcases hc with z | z
  ·rw [z];exact nit b u e
  ·exact nit c _ z
theorem Inv.tok (I:Inv X pins σ H s)(t:Nat):Inv X pins σ H {s with toks:=t}:=I.un (h':=s.heap) (t':=t) Un.refl I.hok
theorem Inv.kept (I:Inv X pins σ H s)(k:∀b u,s.heap.get? b=some u->h'.get? b=some u):Inv X pins σ H {s with heap:=h',toks:=t'}:=I.un (Un.kept k) (I.hok.kept k)
theorem Inv.laid {a:Addr}{o:HO}(I:Inv X pins σ H s)(k:∀b u,s.heap.get? b=some u->h'.get? b=some u)(hp:s.heap.objs.size<=a)(new:bG X.prog X.w (upd H a o) h' a o):
 Inv X pins σ (upd H a o) {s with heap:=h',toks:=t'}:=I.un (Un.laid k hp (I.hok.fresh hp)) (I.hok.laid k hp new)
theorem Inv.write {x e:Addr}{o:HO}(I:Inv X pins σ H s)(mu:qf (H x))(he:e=x∨H e=some (.own x))(k:∀b u,b≠e->s.heap.get? b=some u->h'.get? b=some u)(heo:∃u,h'.get? e=some u)
 (new:bG X.prog X.w (upd H x o) h' x o):Inv X pins σ (upd H x o) {s with heap:=h',toks:=t'}:=I.un (Un.write mu he k heo) (I.hok.write mu he k heo new)
theorem Inv.fq {pins':List (Addr×Obj)}(I:Inv X pins σ H s)(h:∀p∈pins',s.heap.get? p.1=some p.2/\H p.1=none/\p.1≠X.env.locals/\p.1∉X.fs/\∀v,p.2.data≠ .cell v):Inv X pins' σ H s:=
 ⟨I.ok,I.os,I.bare,I.base,I.loc,I.cell,I.free,I.freeC,λp hp=>(List.mem_append.mp hp).elim (λz=>I.pin p (List.mem_append_left _ z)) (h p),I.hok,I.len⟩
theorem jg {N:List Str}(hN:N.Nodup){j:Nat}(a:N[i]?=some x)(b:N[j]?=some x):i=j:=by
 obtain ⟨h1,e1⟩:=List.getElem?_eq_some_iff.mp a
 obtain ⟨h2,e2⟩:=List.getElem?_eq_some_iff.mp b
 exact (List.getElem_inj hN).mp (e1.trans e2.symm)
theorem kR {M:Model}{A:Around}{E:Value->Shared->Prop}{v:V}{u:Value}{Q:Unit->Shared->Prop}(I:Inv X pins σ H s)(hN:X.N.Nodup)(hi:X.N[i]?=some x)(hx:Loc X.env.scope x)(r:RelV v u)
 (h:∀s',Inv X pins (σ.set i (some v)) H s'->(∃a,Heap.SameBut a s.heap s'.heap/\(a=X.env.locals∨X.env.cells.lookup x=some a))->Q () s') (hf:X.fn x=true∨X.env.scope.names.lookup x=some .local:=by first | exact .inl rfl | exact .inr rfl | assumption):wpAny M A (storeName X.env x u) Q E s:=by
 obtain ⟨m,hn,hl⟩:=id I.loc
 have hcls:(X.env.scope.kind== .class ||(X.env.scope.kind== .module&&X.env.locals != X.env.globals))=false:=by rw [I.ok.kind];rfl
 have hiσ:i < σ.length:=by rw [I.len];exact (List.getElem?_eq_some_iff.mp hi).1
 have cne:=I.cne
 have tracked:∀{a:Addr} {h':Heap},(∃o,s.heap.get? a=some o/\H a=none)->Heap.SameBut a s.heap h'->bY X.prog X.w H h':=λ{a h'} ha hs b ob e=>by
  obtain ⟨_,_,hfree⟩:=ha
  refine (I.hok b ob e).fJ (λc w' hc q=>(hs.2 c ?_).trans q) (λ_ q=>q) λ_ _ q=>q
  rintro rfl
  rcases hc with rfl | hc
  ·rw [hfree] at e;cases e
  ·rw [hfree] at hc;cases hc
 rcases hx with hk | hk
 ·refine wpAny_storeName_local hk hn (λh' hn' hs=>?_) hcls
  obtain ⟨oL,_,_,hoL,_⟩:=id hn
  refine h _ ⟨I.ok,I.os,I.bare,⟨λb o e n hb hx=>?_,λb o e n hb hx=>?_,I.base.free,λb o e hx=>?_,I.base.tups,I.base.frzs,I.base.tbls⟩,⟨_,hn',λj y v' e1 e2 e3=>?_⟩,λy c e=>?_,I.free,I.freeC,λp hp=>?_,tracked ⟨oL,hoL,I.free⟩ hs,by simpa using I.len⟩ ⟨_,hs,.inl rfl⟩
  ·exact (hs.2 b (Nat.ne_of_lt (Nat.lt_of_lt_of_le (Heap.lt_size e) I.ok.above))).trans (I.base.keep b o e n hb hx)
  ·obtain ⟨sl,e1⟩:=I.base.slot b o e n hb hx
   exact ⟨sl,(hs.2 b (Nat.ne_of_lt (Nat.lt_of_lt_of_le (Heap.lt_size e) I.ok.above))).trans e1⟩
  ·obtain ⟨o',e1⟩:=I.base.there b o e hx
   exact ⟨o',(hs.2 b (Nat.ne_of_lt (Nat.lt_of_lt_of_le (Heap.lt_size e) I.ok.above))).trans e1⟩
  ·by_cases hj:j=i
   ·subst hj
    rw [hi] at e1;cases e1
    rw [List.getElem?_set_self hiσ] at e2
    cases e2
    exact ⟨u,r,.inl ⟨hk,by simp⟩⟩
   ·rw [List.getElem?_set_ne (Ne.symm hj)] at e2
    obtain ⟨u',r',q⟩:=hl j y v' e1 e2 e3
    refine ⟨u',r',?_⟩
    rcases q with ⟨k,e⟩ | ⟨k,c,e,z⟩
    ·refine .inl ⟨k,?_⟩
     have:y≠x:=λe=>hj (jg hN e1 (e▸hi))
     simp [this,e]
    ·exact .inr ⟨k,c,e,z.sameBut hs (cne y c e)⟩
  ·obtain ⟨w',z⟩:=I.cell y c e
   exact ⟨w',z.sameBut hs (cne y c e)⟩
  ·obtain ⟨e,n,ne,nf,d⟩:=I.pin p hp
   exact ⟨(hs.2 p.1 ne).trans e,n,ne,nf,d⟩
 ·have hfn:X.fn x=true:=by
   rcases hf with z | z
   ·exact z
   ·rw [z] at hk;cases hk
  obtain ⟨c,hc⟩:=I.ok.has x (.inl hk)
  obtain ⟨w',z⟩:=I.cell x c hc
  refine wpAny_storeName_cell I.ok.kind hk hc z (λh' hc' hs=>?_)
  obtain ⟨oc,hoc,hocd⟩:=id z
  refine h {s with heap:=h'} ⟨I.ok,I.os,I.bare,⟨λb o e n hb hx=>?_,λb o e n hb hx=>?_,I.base.free,λb o e hx=>?_,I.base.tups,I.base.frzs,I.base.tbls⟩,⟨m,hn.sameBut hs (Ne.symm (cne x c hc)),λj y v' e1 e2 e3=>?_⟩,λy c' e=>?_,I.free,I.freeC,λp hp=>?_,tracked ⟨oc,hoc,I.freeC x c hc⟩ hs,by simpa using I.len⟩ ⟨c,hs,.inr hc⟩
  ·exact (hs.2 b (Nat.ne_of_lt (Nat.lt_of_lt_of_le (Heap.lt_size e) (I.ok.cab x c hfn hc)))).trans (I.base.keep b o e n hb hx)
  ·obtain ⟨sl,e1⟩:=I.base.slot b o e n hb hx
   exact ⟨sl,(hs.2 b (Nat.ne_of_lt (Nat.lt_of_lt_of_le (Heap.lt_size e) (I.ok.cab x c hfn hc)))).trans e1⟩
  ·obtain ⟨o',e1⟩:=I.base.there b o e hx
   exact ⟨o',(hs.2 b (Nat.ne_of_lt (Nat.lt_of_lt_of_le (Heap.lt_size e) (I.ok.cab x c hfn hc)))).trans e1⟩
  ·by_cases hj:j=i
   ·subst hj
    rw [hi] at e1;cases e1
    rw [List.getElem?_set_self hiσ] at e2
    cases e2
    exact ⟨u,r,.inr ⟨.inl hk,c,hc,hc'⟩⟩
   ·rw [List.getElem?_set_ne (Ne.symm hj)] at e2
    obtain ⟨u',r',q⟩:=hl j y v' e1 e2 e3
    refine ⟨u',r',?_⟩
    rcases q with q | ⟨k,c',e,z'⟩
    ·exact .inl q
    ·refine .inr ⟨k,c',e,z'.sameBut hs ?_⟩
     rintro rfl
     exact hj (jg hN e1 (I.ok.inj _ _ _ e hc▸hi))
  ·by_cases hcc:c'=c
   ·subst hcc;exact ⟨_,hc'⟩
   ·obtain ⟨w2,z2⟩:=I.cell y c' e
    exact ⟨w2,z2.sameBut hs hcc⟩
  ·obtain ⟨e,n,ne,nf,d⟩:=I.pin p hp
   refine ⟨(hs.2 p.1 ?_).trans e,n,ne,nf,d⟩
   intro q
   rw [q,hoc] at e
   have q':oc=p.2:=Option.some.inj e
   exact d w' (by rw [← q'];exact hocd)
theorem ju {M:Model}{A:Around}{E:Value->Shared->Prop}{v:V}{u:Value}{Q:Unit->Shared->Prop}(I:Inv X pins σ H s)(hN:X.N.Nodup)(hi:X.N[i]?=some x)(hx:Loc X.env.scope x)(r:RelV v u)
 (h:∀s',Inv X pins (σ.set i (some v)) H s'->Q () s') (hf:X.fn x=true∨X.env.scope.names.lookup x=some .local:=by first | exact .inl rfl | exact .inr rfl | assumption):wpAny M A (storeName X.env x u) Q E s:=
 kR I hN hi hx r (λs' I' _=>h s' I') hf
theorem Inv.oI {s':Shared}(I:Inv X pins σ H s)(ho:s'.os=s.os)(u:Un (bR X.stack) ch H H' s.heap s'.heap)(hok:bY X.prog X.w H' s'.heap)(hg:AllBare s'.gens)
 (hch:∀b∈ch,(b∈X.ex∨X.s₀.heap.objs.size<=b)/\b≠X.env.locals/\(∀x c,X.env.cells.lookup x=some c->c≠b)/\∀p∈X.pn++pins,p.1≠b):Inv X pins σ H' s':=by
 obtain ⟨h',g',d',t',o'⟩:=s'
 have e:o'=s.os:=ho
 subst e
 exact I.call (g':=g') (t':=t') (d':=d') u hok hg hch
end
abbrev XK:=Value->Option Addr->Hp->Prop
abbrev St:=List (Option V)
abbrev VK:=V->Hp->Prop
abbrev TE:=St->Hp->VK->Prop
abbrev TT:=St->Hp->(Bool->Hp->Prop)->Prop
abbrev TA:=St->Hp->(List V->Hp->Prop)->Prop
structure Ends where
 nx:St->Hp->Prop
 rt:VK
 bk:St->Hp->Prop:=λ_ _=>False
 ct:St->Hp->Prop:=λ_ _=>False
abbrev TS:=Ends->St->Hp->Prop
def EP (X:Cx)(pins:List (Addr×Obj))(σ:St)(Q:VK)(u:Value)(s':Shared):Prop:=∃v H',Inv X pins σ H' s'/\RelV v u/\Q v H'
def TP (X:Cx)(pins:List (Addr×Obj))(σ:St)(Q:Bool->Hp->Prop)(b:Bool)(s':Shared):Prop:=∃H',Inv X pins σ H' s'/\Q b H'
def AP (X:Cx)(pins:List (Addr×Obj))(σ:St)(Q:List V->Hp->Prop)(us:List Value)(s':Shared):Prop:=∃vs H',Inv X pins σ H' s'/\Vals vs us/\Q vs H'
def SP (X:Cx)(pins:List (Addr×Obj))(D:Ends)(f:Flow)(s':Shared):Prop:=
 match f with
 | .next=>∃σ' H',Inv X pins σ' H' s'/\D.nx σ' H'
 | .brk=>∃σ' H',Inv X pins σ' H' s'/\D.bk σ' H'
 | .cont=>∃σ' H',Inv X pins σ' H' s'/\D.ct σ' H'
 | .ret u=>∃v σ' H',Inv X pins σ' H' s'/\RelV v u/\D.rt v H'
def PE (X:Cx)(e:Expr)(t:TE):Prop:=
 ∀(pins:List (Addr×Obj)) (s:Shared) (σ:St) (H:Hp) (Q:VK),Inv X pins σ H s->t σ H Q->wpAny (model X.prog X.w) X.A (eval e X.env) (EP X pins σ Q) X.xe s
def PT (X:Cx)(e:Expr)(t:TT):Prop:=
 ∀(pins:List (Addr×Obj)) (s:Shared) (σ:St) (H:Hp) (Q:Bool->Hp->Prop),Inv X pins σ H s->t σ H Q->wpAny (model X.prog X.w) X.A (isTrue e X.env (eval e X.env)) (TP X pins σ Q) X.xe s
def PW (X:Cx)(e:Expr)(t:TT):Prop:=
 ∀(whole:Sem Value) (pins:List (Addr×Obj)) (s:Shared) (σ:St) (H:Hp) (Q:Bool->Hp->Prop),Inv X pins σ H s->t σ H Q->wpAny (model X.prog X.w) X.A (isTrue e X.env whole) (TP X pins σ Q) X.xe s
theorem PW.pt {X:Cx}{e:Expr}{t:TT}(h:PW X e t):PT X e t:=h _
def PA (X:Cx)(es:List Expr)(t:TA):Prop:=
 ∀(pos:Pos) (pins:List (Addr×Obj)) (s:Shared) (σ:St) (H:Hp) (Q:List V->Hp->Prop),Inv X pins σ H s->t σ H Q->wpAny (model X.prog X.w) X.A (spliced (backTo pos (starEach es X.env))) (AP X pins σ Q) X.xe s
def PS (X:Cx)(st:Stmt)(t:TS):Prop:=
 ∀(pins:List (Addr×Obj)) (s:Shared) (σ:St) (H:Hp) (D:Ends),Inv X pins σ H s->t D σ H->wpAny (model X.prog X.w) X.A (exec st X.env) (SP X pins D) X.xe s
def eZ (X:Cx)(st:List Stmt)(t:TS):Prop:=
 ∀(pins:List (Addr×Obj)) (s:Shared) (σ:St) (H:Hp) (D:Ends),Inv X pins σ H s->t D σ H->wpAny (model X.prog X.w) X.A (execs st X.env) (SP X pins D) X.xe s
theorem aT {α:Type}{t:Sem α}{Q Q':α->Shared->Prop}{M:Model}{A:Around}{E:Value->Shared->Prop}{s:Shared}(h:wpAny M A t Q E s)(hQ:∀a s,Q a s->Q' a s):wpAny M A t Q' E s:=wpAny_mono h hQ λ_ _ x=>x
section
variable {X:Cx}
def Bw (i:Nat):TE:=λσ H Q=>∃v,σ[i]?=some (some v)/\Q v H
def tC (v:V):TE:=λ_ H Q=>Q v H
theorem bM {i:Nat}{x:Str}{pos:Pos}(hN:X.N[i]?=some x)(hv:cL X.env.scope x)(hd:(x==("__debug__":Str))=false:=by decide)(hcd:(x==("__classdict__":Str))=false:=by decide):PE X (.Name x pos) (Bw i):=by
 intro pins s σ H Q I h
 obtain ⟨v,e,h⟩:=h
 obtain ⟨m,hn,hl⟩:=I.loc
 obtain ⟨u,r,l⟩:=hl i x v hN e hv
 have fin:EP X pins σ Q u s:=⟨v,H,I,r,h⟩
 rcases l with ⟨hk,hm⟩ | ⟨hk,c,hc,hcell⟩
 ·exact wpAny_Name (wpAny_loadName_local I.ok.kind hk hn hm fin) hd
 ·rcases hk with hk | hk
  ·exact wpAny_Name (wpAny_loadName_cell I.ok.kind hk hc hcell fin) hd
  ·exact wpAny_Name (wpAny_loadName_free I.ok.kind hk hc hcell fin hcd) hd
theorem gZ {i j pos}:PE X (.Constant (.int i) j pos) (tC (.int i)):=λ_ _ _ H _ I h=>wpAny_Constant_int ⟨.int i,H,I.tok _,⟨_,rfl⟩,h⟩
theorem Ab {b j pos}:PE X (.Constant (.bool b) j pos) (tC (.bl b)):=λ_ _ _ H _ I h=>Constant_bool ⟨.bl b,H,I,rfl,h⟩
theorem yI {j pos}:PE X (.Constant .none j pos) (tC .non):=λ_ _ _ H _ I h=>Constant_none ⟨.non,H,I,rfl,h⟩
theorem jy {x j pos}:PE X (.Constant (.str x) j pos) (tC (.str x)):=λ_ _ _ H _ I h=>Calls.Constant_str ⟨.str x,H,I.tok _,⟨_,rfl⟩,h⟩
def Gl (X:Cx)(x:Str):Prop:=X.env.kindOf x=some .globalImplicit
theorem eG {E:Value->Shared->Prop}{pins:List (Addr×Obj)}{s:Shared}{σ:St}{H:Hp}{x:Str}{u:Value}{pos:Pos}{Q:Value->Shared->Prop}(I:Inv X pins σ H s)(hg:Gl X x)(hm:X.mg x=some u)(h:Q u s)
 (hd:(x==("__debug__":Str))=false:=by decide):wpAny (model X.prog X.w) X.A (eval (.Name x pos) X.env) Q E s:=
 Calls.Name_function_global I.ok.kind hg (Calls.loadGlobal_global (by rw [I.ok.glob];exact I.mod.glob.keeps I.bk) hm h) hd
theorem gi {E:Value->Shared->Prop}{pins:List (Addr×Obj)}{s:Shared}{σ:St}{H:Hp}{x:Str}{u:Value}{pos:Pos}{Q:Value->Shared->Prop}(I:Inv X pins σ H s)(hg:Gl X x)(hm:X.mg x=none)(hv:bootBuiltins x=some u)(h:Q u s)
 (hn:x≠"__name__":=by decide) (hd:(x==("__debug__":Str))=false:=by decide):wpAny (model X.prog X.w) X.A (eval (.Name x pos) X.env) Q E s:=by
 obtain ⟨mb,h1,h2⟩:=I.mod.blt
 exact Calls.Name_function_global I.ok.kind hg (Calls.loadGlobal_builtin (by rw [I.ok.glob];exact I.mod.glob.keeps I.bk) hm (by rw [I.ok.blt];exact h1.keeps I.bk) ((h2 x hn).trans hv) h) hd
theorem fu {x:Str}{v:V}{u:Value}{pos:Pos}(hg:Gl X x)(hm:X.mg x=some u)(r:RelV v u)(hd:(x==("__debug__":Str))=false:=by decide):PE X (.Name x pos) (tC v):=
 λ_ _ _ H _ I h=>eG I hg hm ⟨v,H,I,r,h⟩ hd
theorem nK {x:Str}{v:V}{u:Value}{pos:Pos}(hg:Gl X x)(hm:X.mg x=none)(hv:bootBuiltins x=some u)(r:RelV v u)(hn:x≠"__name__":=by decide)(hd:(x==("__debug__":Str))=false:=by decide):PE X (.Name x pos) (tC v):=
 λ_ _ _ H _ I h=>gi I hg hm hv ⟨v,H,I,r,h⟩ hn hd
variable {a b:Expr}{ta tb:TE}{pos:Pos}
def PC (X:Cx)(op:CmpOp)(a b:Expr)(t:TE):Prop:=
 ∀(pins:List (Addr×Obj)) (s:Shared) (σ:St) (H:Hp) (Q:VK),Inv X pins σ H s->t σ H Q->
  wpAny (model X.prog X.w) X.A (eval a X.env) (λv s₁=>wpAny (model X.prog X.w) X.A (eval b X.env) (λu s₂=>wpAny (model X.prog X.w) X.A (compareOp op v u) (EP X pins σ Q) X.xe s₂) X.xe s₁) X.xe s
def tB (t:TE):TT:=λσ H Q=>t σ H λx H1=>∃c,x= .bl c/\Q c H1
theorem zm {op:CmpOp}{t:TE}(h:PC X op a b t)(h1:behindInMarks op b=false:=by first | exact nobehind _ (by decide) (by decide) | rfl):PT X (.Compare a [op] [b] pos) (tB t):=by
 intro pins s σ H Q I hw
 refine wpAny_isTrue_Compare1 (aT (h pins s σ H _ I hw) λv s1 h1=>aT h1 λu s2 h2=>aT h2 λc s3 ⟨x,H1,I1,r1,q1⟩=>?_) h1
 obtain ⟨d,rfl,q⟩:=q1
 cases r1
 exact wpAny_truthy_bool ⟨H1,I1,q⟩
theorem xq {e:Expr}{t:TE}(h:PE X e t)(he:∀whole,isTrue e X.env whole=(do let v ← whole;standAt e.pos;holding [v] (truthy v)):=by intro _;rfl):PT X e (tB t):=by
 intro pins s σ H Q I hw
 refine isTrue_plain (aT (h pins s σ H _ I hw) λv s1 ⟨x,H1,I1,r1,q1⟩=>?_) (he _)
 obtain ⟨d,rfl,q⟩:=q1
 cases r1
 exact wpAny_truthy_bool ⟨H1,I1,q⟩
variable {tA tB':TT}{rest:List Expr}
def BH (t u:TT):TT:=λσ H Q=>t σ H λc H1=>if c=true then u σ H1 Q else Q false H1
def tOr (t u:TT):TT:=λσ H Q=>t σ H λc H1=>if c=true then Q true H1 else u σ H1 Q
def Bz (t:TT):TT:=λσ H Q=>t σ H λc H1=>Q (!c) H1
theorem uL (ha:PT X a tA):PW X (.BoolOp .And [a] pos) tA:=by
 intro wh pins s σ H Q I h
 refine isTrue_and (aT (ha pins s σ H Q I h) λc s1 e=>?_)
 cases c with
 | true=>exact isTrue_and_nil e
 | false=>exact e
theorem yc (ha:PT X a tA):PW X (.BoolOp .Or [a] pos) tA:=by
 intro wh pins s σ H Q I h
 refine isTrue_or (aT (ha pins s σ H Q I h) λc s1 e=>?_)
 cases c with
 | false=>exact isTrue_or_nil e
 | true=>exact e
theorem w9 (ha:PT X a tA)(hb:PW X (.BoolOp .And (b::rest) pos) tB'):PW X (.BoolOp .And (a::b::rest) pos) (BH tA tB'):=by
 intro wh pins s σ H Q I h
 refine isTrue_and (aT (ha pins s σ H _ I h) λc s1 ⟨H1,I1,q1⟩=>?_)
 cases c with
 | true=>exact hb wh pins s1 σ H1 Q I1 q1
 | false=>exact ⟨H1,I1,q1⟩
theorem Ah (ha:PT X a tA)(hb:PW X (.BoolOp .Or (b::rest) pos) tB'):PW X (.BoolOp .Or (a::b::rest) pos) (tOr tA tB'):=by
 intro wh pins s σ H Q I h
 refine isTrue_or (aT (ha pins s σ H _ I h) λc s1 ⟨H1,I1,q1⟩=>?_)
 cases c with
 | true=>exact ⟨H1,I1,q1⟩
 | false=>exact hb wh pins s1 σ H1 Q I1 q1
theorem wq (ha:PT X a tA):PT X (.UnaryOp .Not a pos) (Bz tA):=by
 intro pins s σ H Q I h
 exact isTrue_not (ha pins s σ H (λc H1=>Q (!c) H1) I h)
def zC (ta tb:TE):TE:=λσ H Q=>ta σ H λx H1=>∃c,x= .bl c/\if c=true then tb σ H1 Q else Q (.bl false) H1
def BV (ta tb:TE):TE:=λσ H Q=>ta σ H λx H1=>∃c,x= .bl c/\if c=true then Q (.bl true) H1 else tb σ H1 Q
def zS (ta:TE):TE:=λσ H Q=>ta σ H λx H1=>∃c,x= .bl c/\Q (.bl (!c)) H1
theorem xG {op}{t:TE}(h:PE X a t):PE X (.BoolOp op [a] pos) t:=λpins s σ H Q I hw=>BoolOp_one (h pins s σ H Q I hw)
theorem yr (ha:PE X a ta)(hb:PE X (.BoolOp .And (b::rest) pos) tb):PE X (.BoolOp .And (a::b::rest) pos) (zC ta tb):=by
 intro pins s σ H Q I h
 refine BoolOp_and (aT (ha pins s σ H _ I h) λv s1 ⟨x,H1,I1,r1,q1⟩=>?_)
 obtain ⟨c,rfl,q1⟩:=q1
 cases r1
 refine wpAny_truthy_bool ?_
 cases c with
 | true=>exact hb pins s1 σ H1 Q I1 q1
 | false=>exact ⟨.bl false,H1,I1,rfl,q1⟩
theorem zH (ha:PE X a ta)(hb:PE X (.BoolOp .Or (b::rest) pos) tb):PE X (.BoolOp .Or (a::b::rest) pos) (BV ta tb):=by
 intro pins s σ H Q I h
 refine BoolOp_or (aT (ha pins s σ H _ I h) λv s1 ⟨x,H1,I1,r1,q1⟩=>?_)
 obtain ⟨c,rfl,q1⟩:=q1
 cases r1
 refine wpAny_truthy_bool ?_
 cases c with
 | false=>exact hb pins s1 σ H1 Q I1 q1
 | true=>exact ⟨.bl true,H1,I1,rfl,q1⟩
theorem wm (ha:PE X a ta):PE X (.UnaryOp .Not a pos) (zS ta):=by
 intro pins s σ H Q I h
 refine UnaryOp_ (aT (ha pins s σ H _ I h) λv s1 ⟨x,H1,I1,r1,q1⟩=>?_)
 obtain ⟨c,rfl,q1⟩:=q1
 cases r1
 exact not_of (wpAny_truthy_bool ⟨.bl (!c),H1,I1,rfl,q1⟩)
def tIf (t:TT)(ta tb:TE):TE:=λσ H Q=>t σ H λc H1=>if c=true then ta σ H1 Q else tb σ H1 Q
theorem jd {c:Expr}(hc:PT X c tA)(ha:PE X a ta)(hb:PE X b tb):PE X (.IfExp c a b pos) (tIf tA ta tb):=by
 intro pins s σ H Q I h
 refine wpAny_IfExp (aT (hc pins s σ H _ I h) λd s1 ⟨H1,I1,q1⟩=>?_)
 cases d with
 | true=>exact ha pins s1 σ H1 Q I1 q1
 | false=>exact hb pins s1 σ H1 Q I1 q1
end
def bz (K:PySem.W.Frag)(H:Hp)(a:Addr)(xs:List V):Prop:=
 Rd H a (.lst xs)∨
  ∃(o:Obj) (its:Array Value) (n:Nat),K.lookup a=some o/\o.cls= .type "list"/\o.dict=none/\o.data= .seq its n/\its.size<=sizeLine/\Vals xs its.toList
def bL (K:PySem.W.Frag)(H:Hp)(a:Addr)(xs:List V):Prop:=
 Rd H a (.tup xs)∨
  ∃(o:Obj) (its:Array Value) (n:Nat),K.lookup a=some o/\o.cls= .type "tuple"/\o.data= .seq its n/\its.size<=sizeLine/\Vals xs its.toList
def BS:Value->Option V
 | .none=>some .non
 | .bool b=>some (.bl b)
 | .int i _=>some (.int i)
 | .str x _=>some (.str x)
 | .bytes b _=>some (.byt b)
 | .float b _=>some (.flt b)
 | .ref a=>some (.ref a)
 | .type n=>some (.ty n)
 | _=>none
theorem RelV.abs {x:V}{u:Value}(r:RelV x u):BS u=some x:=by
 cases x with
 | non=>cases r;rfl
 | bl _=>cases r;rfl
 | int _=>obtain ⟨t,rfl⟩:=r;rfl
 | str _=>obtain ⟨t,rfl⟩:=r;rfl
 | byt _=>obtain ⟨t,rfl⟩:=r;rfl
 | flt _=>obtain ⟨t,rfl⟩:=r;rfl
 | ref _=>cases r;rfl
 | ty _=>cases r;rfl
theorem RelV.inj {x y:V}{u:Value}(r:RelV x u)(q:RelV y u):x=y:=Option.some.inj (r.abs.symm.trans q.abs)
theorem Vals.inj:∀{xs ys:List V} {us:List Value},Vals xs us->Vals ys us->xs=ys
 | _,_,_,.nil,.nil=>rfl
 | _,_,_,.cons r t,.cons r' t'=>by rw [r.inj r',Vals.inj t t']
section
variable {X:Cx}{pins:List (Addr×Obj)}{σ:St}{H:Hp}{s:Shared}{a:Addr}{xs ys:List V}
theorem bz.of {K:PySem.W.Frag}(h:H a=some (.lst xs)):bz K H a xs:=.inl (.inl h)
theorem bL.of {K:PySem.W.Frag}(h:H a=some (.tup xs)):bL K H a xs:=.inl (.inl h)
theorem Inv.list (I:Inv X pins σ H s)(h:bz X.K H a xs):∃its:List Value,Vals xs its/\PlainL s.heap a its.toArray/\xs.length<=sizeLine:=by
 rcases h with h | ⟨o,its,n,hk,hc,hd,hs,hz,r⟩
 ·obtain ⟨z,its,n,r,e⟩:=h.ok I.hok
  exact ⟨its,r,⟨_,n,e,rfl,rfl,rfl⟩,z⟩
 ·refine ⟨its.toList,r,⟨o,n,I.cO a o hk,hc,hd,by simpa using hs⟩,?_⟩
  have e:=r.length
  simp only [Array.length_toList] at e
  omega
theorem Inv.tuple (I:Inv X pins σ H s)(h:bL X.K H a xs):∃its:List Value,Vals xs its/\IsTup s.heap a its.toArray/\xs.length<=sizeLine:=by
 rcases h with h | ⟨o,its,n,hk,hc,hs,hz,r⟩
 ·obtain ⟨z,its,r,p⟩:=h.ok I.hok
  exact ⟨its,r,p,z⟩
 ·refine ⟨its.toList,r,⟨o,I.cO a o hk,hc,n,by simpa using hs⟩,?_⟩
  have e:=r.length
  simp only [Array.length_toList] at e
  omega
theorem Inv.mG (I:Inv X pins σ H s)(h:bz X.K H a xs)(h':bz X.K H a ys):xs=ys:=by
 obtain ⟨its,r,⟨o,n,e,_,_,d⟩,_⟩:=I.list h
 obtain ⟨its',r',⟨o',n',e',_,_,d'⟩,_⟩:=I.list h'
 rw [e] at e';cases e'
 rw [d] at d'
 injection d' with d1 _
 have:its=its':=by simpa using congrArg Array.toList d1
 subst this
 exact r.inj r'
theorem Inv.hG (I:Inv X pins σ H s)(h:bL X.K H a xs)(h':bL X.K H a ys):xs=ys:=by
 obtain ⟨its,r,⟨o,e,_,n,d⟩,_⟩:=I.tuple h
 obtain ⟨its',r',⟨o',e',_,n',d'⟩,_⟩:=I.tuple h'
 rw [e] at e';cases e'
 rw [d] at d'
 injection d' with d1 _
 have:its=its':=by simpa using congrArg Array.toList d1
 subst this
 exact r.inj r'
end
abbrev Cx.ez (X:Cx)(E:Value->Shared->Prop):Cx:={X with xe:=E}
abbrev Cx.cH (X:Cx):Cx:=X.ez λ_ _=>False
theorem Cx.Ok.ez {X:Cx}(ok:X.Ok)(E:Value->Shared->Prop):(X.ez E).Ok:=
 ⟨ok.mod,ok.kind,ok.glob,ok.blt,ok.above,ok.inj,ok.has,ok.cab,ok.hd,ok.frames,ok.stk,ok.exf,ok.bs,ok.bsz,ok.noex,ok.exfs,ok.funs,ok.frf⟩
theorem Cx.Ok.dq {X:Cx}{E:Value->Shared->Prop}(ok:(X.ez E).Ok):X.Ok:=
 ⟨ok.mod,ok.kind,ok.glob,ok.blt,ok.above,ok.inj,ok.has,ok.cab,ok.hd,ok.frames,ok.stk,ok.exf,ok.bs,ok.bsz,ok.noex,ok.exfs,ok.funs,ok.frf⟩
section
variable {X:Cx}{pins:List (Addr×Obj)}{σ:St}{H:Hp}{s:Shared}{E:Value->Shared->Prop}
theorem Inv.ez (I:Inv X pins σ H s)(E:Value->Shared->Prop):Inv (X.ez E) pins σ H s:=⟨I.ok.ez E,I.os,I.bare,I.base,I.loc,I.cell,I.free,I.freeC,I.pin,I.hok,I.len⟩
theorem Inv.dq (I:Inv (X.ez E) pins σ H s):Inv X pins σ H s:=⟨I.ok.dq,I.os,I.bare,I.base,I.loc,I.cell,I.free,I.freeC,I.pin,I.hok,I.len⟩
theorem SP.dq {D:Ends}{f:Flow}{s':Shared}(h:SP (X.ez E) pins D f s'):SP X pins D f s':=by
 cases f with
 | next=>obtain ⟨σ',H',I,q⟩:=h;exact ⟨σ',H',I.dq,q⟩
 | brk=>obtain ⟨σ',H',I,q⟩:=h;exact ⟨σ',H',I.dq,q⟩
 | cont=>obtain ⟨σ',H',I,q⟩:=h;exact ⟨σ',H',I.dq,q⟩
 | ret u=>obtain ⟨v,σ',H',I,r,q⟩:=h;exact ⟨v,σ',H',I.dq,r,q⟩
theorem eZ.cH {st:List Stmt}{t:TS}(h:eZ X.cH st t):eZ X st t:=λpins s σ H D I hw=>
 wpAny_mono (h pins s σ H D (I.ez _) hw) (λ_ _ q=>q.dq) λ_ _ z=>False.elim z
end
section
variable {X:Cx}{st:Stmt}{rest:List Stmt}{t u:TS}{e:Expr}{te:TE}{pos:Pos}
def Aj:TS:=λD σ H=>D.nx σ H
def B4 (t u:TS):TS:=λD σ H=>t {D with nx:=u D} σ H
theorem uK:eZ X [] Aj:=λ_ _ σ H _ I h=>wpAny_execs_nil ⟨σ,H,I,h⟩
theorem l9 (h1:PS X st t)(h2:eZ X rest u):eZ X (st::rest) (B4 t u):=by
 intro pins s σ H D I h
 refine wpAny_execs_cons (aT (h1 pins s σ H {D with nx:=u D} I h) λf s1 q=>?_)
 cases f with
 | next=>
   obtain ⟨σ',H',I',q⟩:=q
   exact h2 pins s1 σ' H' D I' q
 | ret v=>exact q
 | brk=>exact q
 | cont=>exact q
theorem wb (h1:PS X st t):eZ X [st] t:=by
 intro pins s σ H D I h
 refine wpAny_execs_cons (aT (h1 pins s σ H D I h) λf s1 q=>?_)
 cases f with
 | next=>exact wpAny_execs_nil q
 | ret v=>exact q
 | brk=>exact q
 | cont=>exact q
theorem Inv.quiet {pins:List (Addr×Obj)}{σ:St}{H:Hp}{s:Shared}(I:Inv X pins σ H s):interactive X.env=false:=by simp [interactive,I.ok.kind]
def zu (te:TE):TS:=λD σ H=>te σ H λ_ H1=>D.nx σ H1
theorem eC (he:PE X e te)(hs:swapsWith e none pos.line X.env=pure false:=by rfl):PS X (.Expr e pos) (zu te):=by
 intro pins s σ H D I h
 exact wpAny_Expr_any (aT (he pins s σ H _ I h) λv s1 ⟨x,H1,I1,r1,q1⟩=>⟨σ,H1,I1,q1⟩) I.quiet hs
def BD (te:TE):TS:=λD σ H=>te σ H D.rt
theorem eA (he:PE X e te):PS X (.Return (some e) pos) (BD te):=by
 intro pins s σ H D I h
 exact wpAny_Return_some (aT (he pins s σ H _ I h) λv s1 ⟨x,H1,I1,r1,q1⟩=>⟨x,σ,H1,I1,r1,q1⟩)
def BN (c:TT)(t u:TS):TS:=λD σ H=>c σ H λb H1=>if b=true then t D σ H1 else u D σ H1
theorem Ay {c:Expr}{a b:List Stmt}{tc:TT}(hc:PT X c tc)(ha:eZ X a t)(hb:eZ X b u):PS X (.If c a b pos) (BN tc t u):=by
 intro pins s σ H D I h
 refine wpAny_If (aT (hc pins s σ H _ I h) λd s1 ⟨H1,I1,q1⟩=>?_)
 cases d with
 | true=>exact ha pins s1 σ H1 D I1 q1
 | false=>exact hb pins s1 σ H1 D I1 q1
end
abbrev TG:=V->St->Hp->(St->Hp->Prop)->Prop
abbrev mF:=List V->St->Hp->(St->Hp->Prop)->Prop
def PG (X:Cx)(target:Expr)(t:TG):Prop:=
 ∀(pins:List (Addr×Obj)) (s:Shared) (σ:St) (H:Hp) (v:V) (u:Value) (Q:St->Hp->Prop),Inv X pins σ H s->RelV v u->t v σ H Q->
  wpAny (model X.prog X.w) X.A (assign target X.env u) (λ_ s'=>∃σ' H',Inv X pins σ' H' s'/\Q σ' H') X.xe s
def um (X:Cx)(ts:List Expr)(t:mF):Prop:=
 ∀(pins:List (Addr×Obj)) (s:Shared) (σ:St) (H:Hp) (vs:List V) (us:List Value) (Q:St->Hp->Prop),Inv X pins σ H s->Vals vs us->t vs σ H Q->
  wpAny (model X.prog X.w) X.A (assignInOrder ((assignEach ts X.env).map (·.2)) us) (λ_ s'=>∃σ' H',Inv X pins σ' H' s'/\Q σ' H') X.xe s
abbrev sF:=V->V->V->Hp->(Hp->Prop)->Prop
def zq (X:Cx)(t:sF):Prop:=
 ∀(pins:List (Addr×Obj)) (s:Shared) (σ:St) (H:Hp) (o i v:V) (ov iv u:Value) (Q:Hp->Prop),Inv X pins σ H s->RelV o ov->RelV i iv->RelV v u->t o i v H Q->
  wpAny (model X.prog X.w) X.A (setItem ov iv u) (λ_ s'=>∃H',Inv X pins σ H' s'/\Q H') X.xe s
section
variable {X:Cx}{pos:Pos}
variable {e:Expr}
def pq (i:Nat):TG:=λv σ H Q=>Q (σ.set i (some v)) H
theorem cy {i:Nat}{x:Str}(hN:X.N.Nodup)(hi:X.N[i]?=some x)(hx:Loc X.env.scope x)(hf:X.fn x=true∨X.env.scope.names.lookup x=some .local:=by first | exact .inl rfl | exact .inr rfl | assumption):PG X (.Name x pos) (pq i):=by
 intro pins s σ H v u Q I r h
 exact wpAny_assign_Name (ju I hN hi hx r (λs' I'=>⟨_,H,I',h⟩) hf)
def B1:mF:=λvs σ H Q=>vs=[]/\Q σ H
def Av (t:TG)(u:mF):mF:=λvs σ H Q=>∃v r,vs=v::r/\t v σ H λσ' H'=>u r σ' H' Q
theorem iN:um X [] B1:=by
 intro pins s σ H vs us Q I r h
 obtain ⟨e,h⟩:=h
 subst e
 cases r
 exact assignInOrder_nil ⟨σ,H,I,h⟩
theorem cj {es:List Expr}{t:TG}{u:mF}(h1:PG X e t)(h2:um X es u)
 (hs:(assignEach (e::es) X.env).map (·.2)=assign e X.env::(assignEach es X.env).map (·.2):=by rfl):um X (e::es) (Av t u):=by
 intro pins s σ H vs us Q I r h
 obtain ⟨v,vr,e1,h⟩:=h
 subst e1
 cases r with
 | cons r rr=>
   rw [hs]
   refine assignInOrder_cons (aT (h1 pins s σ H _ _ _ I r h) λ_ s1 ⟨σ1,H1,I1,q1⟩=>?_)
   exact h2 pins s1 σ1 H1 _ _ Q I1 rr q1
def BI (K:PySem.W.Frag)(n:Nat)(t:mF):TG:=λv σ H Q=>∃a xs,v= .ref a/\bL K H a xs/\xs.length=n/\t xs σ H Q
theorem jR {es:List Expr}{k:Nat}{t:mF}{n:Nat}(hc:X.calm=true)(h:um X es t)
 (hn:(assignEach es X.env).length=n:=by rfl) (hst:(assignEach es X.env).findIdx? (·.1)=none:=by rfl):PG X (.Tuple es k pos) (BI X.K n t):=by
 intro pins s σ H v u Q I r hw
 obtain ⟨a,xs,e1,hq,hl,hw⟩:=hw
 subst e1
 cases r
 obtain ⟨its,rv,ht,hz⟩:=I.tuple hq
 refine assign_Tuple_tuple (I.ok.hd hc) ht (by simp [hn,← hl,rv.length]) hst λh' hx=>?_
 have I1:Inv X pins σ H {s with heap:=h'}:=I.kept (t':=s.toks) λb o e=>hx b o (Nat.ne_of_lt (Heap.lt_size e)) e
 exact h pins _ σ H xs _ Q I1 (by simpa using rv) hw
def BA (to ti:TE)(t:sF):TG:=λv σ H Q=>to σ H λo H1=>ti σ H1 λi H2=>t o i v H2 λH3=>Q σ H3
theorem yW {o i:Expr}{to ti:TE}{t:sF}(ho:PE X o to)(hi:PE X i ti)(hs:zq X t)
 (ha:∀v,assign (.Subscript o i pos) X.env v=(do
  let ov ← holding [v] (eval o X.env)
  let iv ← holding [v,ov] (eval i X.env)
  standAt pos
  holding [v,ov,iv] (setItem ov iv v)
  release [v,ov,iv] []):=by intro _;rfl):PG X (.Subscript o i pos) (BA to ti t):=by
 intro pins s σ H v u Q I r h
 rw [ha]
 refine wpAny_bind (wpAny_holding (aT (ho pins s σ H _ I h) λov s1 ⟨x,H1,I1,r1,q1⟩=>?_))
 refine wpAny_bind (wpAny_holding (aT (hi pins s1 σ H1 _ I1 q1) λiv s2 ⟨y,H2,I2,r2,q2⟩=>?_))
 refine wpAny_bind (wpAny_standAt (wpAny_bind (wpAny_holding (aT (hs pins s2 σ H2 x y v ov iv u _ I2 r1 r2 r q2) λ_ s3 ⟨H3,I3,q3⟩=>?_))))
 exact wpAny_release ⟨σ,H3,I3,q3⟩
def sd (te:TE)(g:TG):TS:=λD σ H=>te σ H λx H1=>g x σ H1 D.nx
theorem j9 {tg:Expr}{te:TE}{g:TG}(he:PE X e te)(hg:PG X tg g)(hs:swapsWithSole [tg] e pos.line X.env=pure false:=by rfl)(hw:swappedStores [tg] e X.env=pure none:=by rfl)
 (h1:(assignEach [tg] X.env).map (·.2)=[assign tg X.env]:=by rfl):PS X (.Assign [tg] e pos) (sd te g):=by
 intro pins s σ H D I h
 refine wpAny_Assign_stores (aT (he pins s σ H _ I h) λv s1 ⟨x,H1,I1,r1,q1⟩=>?_) hs hw
 rw [h1]
 exact aT (hg pins s1 σ H1 x v _ I1 r1 q1) λ_ s2 q=>q
theorem eP {i:Nat}{x:Str}{te:TE}{pos':Pos}(hN:X.N.Nodup)(hi:X.N[i]?=some x)(hx:Loc X.env.scope x)(he:PE X e te)(hs:swapsWith e (some (.Name x pos')) pos.line X.env=pure false:=by rfl)(hf:X.fn x=true∨X.env.scope.names.lookup x=some .local:=by first | exact .inl rfl | exact .inr rfl | assumption):
 PS X (.Assign [.Name x pos'] e pos) (sd te (pq i)):=by
 intro pins s σ H D I h
 refine wpAny_Assign_Name (aT (he pins s σ H _ I h) λv s1 ⟨y,H1,I1,r1,q1⟩=>?_) hs
 exact ju I1 hN hi hx r1 (λs2 I2=>⟨_,H1,I2,q1⟩) hf
end
section
variable {X:Cx}{pos:Pos}
def ym (c:TT)(tb:TS):TS:=λD σ H=>∃W:Nat->St->Hp->Prop,(∃m,W m σ H)/\∀m σ H,W m σ H->
 c σ H λb H1=>if b=true then∃N:St->Hp->Prop,(∀σ' H',N σ' H'->∃m',m' < m/\W m' σ' H')/\tb {D with nx:=N,ct:=N,bk:=D.nx} σ H1 else D.nx σ H1
theorem sL {c:Expr}{body:List Stmt}{tc:TT}{tb:TS}(hp:PassesOwn (model X.prog X.w) X.A X.env X.xe)(hc:PT X c tc)(hb:eZ X body tb):PS X (.While c body [] pos) (ym tc tb):=by
 intro pins s σ H D I h
 obtain ⟨W,⟨m0,w0⟩,turn⟩:=h
 refine wpAny_While (codeAny_whileLoop (λn s'=>∃σ' H',Inv X pins σ' H' s'/\W n σ' H') ?_ m0 ⟨σ,H,I,w0⟩)
 rintro n s1 ⟨σ1,H1,I1,w1⟩
 refine wpAny_passesOwn hp (aT (hc pins s1 σ1 H1 _ I1 (turn n σ1 H1 w1)) λb s2 ⟨H2,I2,q2⟩=>?_)
 cases b with
 | true=>
   obtain ⟨N,hN,q2⟩:=q2
   rw [if_pos rfl]
   refine wpAny_passesOwn hp (aT (hb pins s2 σ1 H2 _ I2 q2) λf s3 q3=>?_)
   cases f with
   | next=>
     obtain ⟨σ3,H3,I3,n3⟩:=q3
     obtain ⟨m',hm,w3⟩:=hN σ3 H3 n3
     exact ⟨m',hm,σ3,H3,I3,w3⟩
   | cont=>
     obtain ⟨σ3,H3,I3,n3⟩:=q3
     obtain ⟨m',hm,w3⟩:=hN σ3 H3 n3
     exact ⟨m',hm,σ3,H3,I3,w3⟩
   | brk=>exact q3
   | ret v=>exact q3
 | false=>
   rw [if_neg Bool.false_ne_true]
   exact wpAny_execs_nil ⟨σ1,H2,I2,q2⟩
end
section
variable {tg:Expr}{P:Program}{w:World}{K:PySem.W.Frag}
structure It where
 go:Nat->Hp->Prop
 yld:Nat->Hp->V->Hp->Prop
 stop:Nat->Hp->Prop
def f9 (X:Cx)(pins:List (Addr×Obj))(H:Hp)(b:Addr):Prop:=
 H b=none/\b≠X.env.locals/\b∉X.fs/\(b∈X.ex∨X.s₀.heap.objs.size<=b)/\(∀x c,X.env.cells.lookup x=some c->c≠b)/\∀p∈X.pn++pins,p.1≠b
theorem Inv.ib {X:Cx}{pins:List (Addr×Obj)}{σ:St}{H H':Hp}{s:Shared}{b:Addr}(I:Inv X pins σ H s)(hb:s.heap.objs.size<=b)(hn:H' b=none):f9 X pins H' b:=by
 refine ⟨hn,Nat.ne_of_gt (Nat.lt_of_lt_of_le I.lt hb),I.B2 hb,.inr (Nat.le_trans I.sz hb),λx c e z=>?_,λp hp z=>?_⟩
 ·obtain ⟨v,q⟩:=I.cell x c e
  exact absurd (Nat.lt_of_lt_of_le q.lt (by rw [z];exact hb)) (Nat.lt_irrefl _)
 ·exact absurd (Nat.lt_of_lt_of_le (Heap.lt_size (I.pin p hp).1) (by rw [z];exact hb)) (Nat.lt_irrefl _)
structure Turn (P:Program) (w:World) (K:PySem.W.Frag) (tg:Expr) (J:It) (fp:List Addr) (it:Addr) (tn:Nat->Heap->Prop):Prop where
 mem:it∈fp
 obj:∀i h,tn i h->∀b∈fp,∃o,h.get? b=some o/\∀v,o.data≠ .cell v
 keep:∀i h h',tn i h->(∀b∈fp,∀o,h.get? b=some o->h'.get? b=some o)->tn i h'
 item:∀(X:Cx),X.prog=P->X.w=w->X.K=K->X.calm=true->∀(i:Nat) (pins:List (Addr×Obj)) (s:Shared) (σ:St) (H:Hp) (E:Value->Shared->Prop),Inv X pins σ H s->(∀b∈fp,f9 X pins H b)->tn i s.heap->J.go i H->
  wpAny (model P w) X.A (pyNext (.ref it)) (λr s1=>∃u,r=some u/\
   wpAny (model P w) X.A (letOwnedTupleGo tg (.ref it) u) (λ_ s2=>∃x H',Inv X pins σ H' s2/\RelV x u/\J.yld i H x H'/\tn (i + 1) s2.heap/\∀b∈fp,H' b=none) E s1) E s
 done:∀(X:Cx),X.prog=P->X.w=w->X.K=K->X.calm=true->∀(i:Nat) (pins:List (Addr×Obj)) (s:Shared) (σ:St) (H:Hp) (E:Value->Shared->Prop),Inv X pins σ H s->(∀b∈fp,f9 X pins H b)->tn i s.heap->J.stop i H->
  wpAny (model P w) X.A (pyNext (.ref it)) (λr s1=>r=none/\Inv X pins σ H s1) E s
 self:∀(A:Around) (i:Nat) (s:Shared) (Q:Value->Shared->Prop) (E:Value->Shared->Prop),tn i s.heap->Q (.ref it) s->wpAny (model P w) A (pyIter (.ref it)) Q E s
abbrev TI:=St->Hp->(It->Hp->Prop)->Prop
def Bg (X:Cx)(pins:List (Addr×Obj))(σ:St)(tg:Expr)(R:It->Hp->Prop)(itv:Value)(s2:Shared):Prop:=
 ∃(it:Addr) (fp:List Addr) (tn:Nat->Heap->Prop) (J:It) (H':Hp),itv= .ref it/\Inv X pins σ H' s2/\Turn X.prog X.w X.K tg J fp it tn/\tn 0 s2.heap/\(∀b∈fp,f9 X pins H' b)/\R J H'
def PI (X:Cx)(tg iter:Expr)(wi:TI):Prop:=
 ∀(pins:List (Addr×Obj)) (s:Shared) (σ:St) (H:Hp) (R:It->Hp->Prop),Inv X pins σ H s->wi σ H R->
  wpAny (model X.prog X.w) X.A (eval iter X.env) (λv s1=>wpAny (model X.prog X.w) X.A (pyIter v) (Bg X pins σ tg R) X.xe s1) X.xe s
theorem oM {M:Model}{A:Around}{E:Value->Shared->Prop}{s:Shared}{it:Addr}{u:Value}{o:Obj}{n:String}{vs:Array Value}{Q:Unit->Shared->Prop}(ho:s.heap.get? it=some o)(hc:o.cls= .type n)(hd:o.data= .fields vs)
 (hn:["enumerate","zip","dict_itemiterator","dict_reverseitemiterator","odict_iterator","itertools.zip_longest","itertools.pairwise"].contains n=false) (hQ:Q () s):wpAny M A (letOwnedTupleGo tg (.ref it) u) Q E s:=by
 unfold letOwnedTupleGo
 cases tg<;>first
  | exact wpAny_pure hQ
  | (cases u<;>first
   | exact wpAny_pure hQ
   | (refine wpAny_bind (wpAny_load ho ?_)
      rw [hc,hd]
      show wpAny M A (if (["enumerate","zip","dict_itemiterator","dict_reverseitemiterator","odict_iterator","itertools.zip_longest","itertools.pairwise"].contains n&&vs[0]?==some (rawInt _))=true then _ else _) Q E s
      rw [if_neg (by intro h;rw [hn,Bool.false_and] at h;cases h)]
      exact wpAny_pure hQ))
def A3 (K:PySem.W.Frag)(a:Addr):It:=
 ⟨λi H=>∃xs x,bz K H a xs/\xs[i]?=some x,λi H x H'=>H'=H/\∀xs,bz K H a xs->xs[i]?=some x,λi H=>∃xs,bz K H a xs/\xs.length<=i⟩
def AN (K:PySem.W.Frag)(a:Addr):It:=
 ⟨λi H=>∃xs x,bL K H a xs/\xs[i]?=some x,λi H x H'=>H'=H/\∀xs,bL K H a xs->xs[i]?=some x,λi H=>∃xs,bL K H a xs/\xs.length<=i⟩
def tJ (lo:Int)(n:Nat):It:=⟨λi _=>i < n,λi H x H'=>H'=H/\x= .int (lo + i),λi _=>n<=i⟩
theorem rl (a it:Addr):Turn P w K tg (A3 K a) [it] it (λi h=>h.IsListIter it a i) where
 mem:=by simp
 obj:=λi h st b hb=>by
  have e:b=it:=by simpa using hb
  subst e
  obtain ⟨o,e,c,d⟩:=st
  exact ⟨o,e,λv z=>by rw [d] at z;cases z⟩
 keep:=λi h h' st k=>st.at λo e=>k it (by simp) o e
 item:=by
  intro X hP hw hK hc i pins s σ H E I hf st hg
  subst hP hw hK
  obtain ⟨xs,x,hq,hx⟩:=hg
  obtain ⟨its,rv,p,hz⟩:=I.list hq
  obtain ⟨u,hu,ru⟩:=rv.get hx
  obtain ⟨f0,f1,f2,f3,f4,f5⟩:=hf it (by simp)
  refine wpAny_pyNext_list_item st p.isList (x:=u) (by simpa using hu) λh' st' sb=>?_
  have I1:Inv X pins σ H {s with heap:=h'}:=I.turned (t':=s.toks) (λb o hb e=>(sb.2 b hb).trans e) f0 f1 f3 f4 f5
  obtain ⟨o,e,c,d⟩:=id st'
  exact ⟨u,rfl,oM (s:={s with heap:=h'}) e c d (by decide) ⟨x,H,I1,ru,⟨rfl,λys hy=>by rw [I.mG hy hq];exact hx⟩,st',λb hb=>(hf b hb).1⟩⟩
 done:=by
  intro X hP hw hK hc i pins s σ H E I hf st hg
  subst hP hw hK
  obtain ⟨xs,hq,hx⟩:=hg
  obtain ⟨its,rv,p,hz⟩:=I.list hq
  obtain ⟨f0,f1,f2,f3,f4,f5⟩:=hf it (by simp)
  have hl:=rv.length
  exact wpAny_pyNext_list_end (I.ok.hd hc) st p.isList (by simp;omega) λh' eb=>⟨rfl,I.turned (t':=s.toks) (λb o hb e=>eb b o hb e) f0 f1 f3 f4 f5⟩
 self:=λ_ _ _ _ _ st h=>wpAny_pyIter_listiter st h
theorem oW (a it:Addr):Turn P w K tg (AN K a) [it] it (λi h=>h.IsTupleIter it a i) where
 mem:=by simp
 obj:=λi h st b hb=>by
  have e:b=it:=by simpa using hb
  subst e
  obtain ⟨o,e,c,d⟩:=st
  exact ⟨o,e,λv z=>by rw [d] at z;cases z⟩
 keep:=λi h h' st k=>st.at λo e=>k it (by simp) o e
 item:=by
  intro X hP hw hK hc i pins s σ H E I hf st hg
  subst hP hw hK
  obtain ⟨xs,x,hq,hx⟩:=hg
  obtain ⟨its,rv,p,hz⟩:=I.tuple hq
  obtain ⟨u,hu,ru⟩:=rv.get hx
  obtain ⟨f0,f1,f2,f3,f4,f5⟩:=hf it (by simp)
  refine wpAny_pyNext_tuple_item st (show s.heap.IsTuple a its.toArray from p) (x:=u) (by simpa using hu) λh' st' sb=>?_
  have I1:Inv X pins σ H {s with heap:=h'}:=I.turned (t':=s.toks) (λb o hb e=>(sb.2 b hb).trans e) f0 f1 f3 f4 f5
  obtain ⟨o,e,c,d⟩:=id st'
  exact ⟨u,rfl,oM (s:={s with heap:=h'}) e c d (by decide) ⟨x,H,I1,ru,⟨rfl,λys hy=>by rw [I.hG hy hq];exact hx⟩,st',λb hb=>(hf b hb).1⟩⟩
 done:=by
  intro X hP hw hK hc i pins s σ H E I hf st hg
  subst hP hw hK
  obtain ⟨xs,hq,hx⟩:=hg
  obtain ⟨its,rv,p,hz⟩:=I.tuple hq
  obtain ⟨f0,f1,f2,f3,f4,f5⟩:=hf it (by simp)
  have hl:=rv.length
  exact wpAny_pyNext_tuple_end (I.ok.hd hc) st (show s.heap.IsTuple a its.toArray from p) (by simp;omega) λh' eb=>⟨rfl,I.turned (t':=s.toks) (λb o hb e=>eb b o hb e) f0 f1 f3 f4 f5⟩
 self:=λ_ _ _ _ _ st h=>wpAny_pyIter_tupleiter st h
theorem nZ (it:Addr)(lo:Int)(n:Nat):Turn P w K tg (tJ lo n) [it] it (λi h=>IsRangeIter h it (lo + (i:Nat) * 1) ((n:Int) - (i:Nat)) 1) where
 mem:=by simp
 obj:=λi h st b hb=>by
  have e:b=it:=by simpa using hb
  subst e
  exact ⟨_,st,λv z=>by
   have z':Data.fields _=Data.cell v:=z
   cases z'⟩
 keep:=λi h h' st k=>k it (by simp) _ st
 item:=by
  intro X hP hw hK hc i pins s σ H E I hf st hg
  subst hP hw hK
  obtain ⟨f0,f1,f2,f3,f4,f5⟩:=hf it (by simp)
  have W:=Walks.range (prog:=X.prog) (w:=X.w) (I.ok.hd hc) it lo 1 n
  refine W.item i s _ _ hg st λv h' tk hv st' kk=>?_
  obtain ⟨t,rfl⟩:=hv
  have I1:Inv X pins σ H {s with heap:=h',toks:=tk}:=I.turned (λb o hb e=>kk b o (by simpa using hb) e) f0 f1 f3 f4 f5
  refine ⟨_,rfl,oM (s:={s with heap:=h',toks:=tk}) (n:="range_iterator") st' rfl rfl (by decide) ⟨.int (lo + i),H,I1,⟨t,?_⟩,⟨rfl,rfl⟩,st',λb hb=>(hf b hb).1⟩⟩
  rw [Int.mul_one]
 done:=by
  intro X hP hw hK hc i pins s σ H E I hf st hg
  subst hP hw hK
  obtain ⟨f0,f1,f2,f3,f4,f5⟩:=hf it (by simp)
  exact wpAny_pyNext_range_end (I.ok.hd hc) st (by have:n<=i:=hg;omega) λh' eb=>⟨rfl,I.turned (t':=s.toks) (λb o hb e=>eb b o hb e) f0 f1 f3 f4 f5⟩
 self:=λ_ _ _ _ _ st h=>wpAny_pyIter_rangeiter st h
end
section
variable {X:Cx}{tg:Expr}
variable {pins:List (Addr×Obj)}{σ:St}{H:Hp}{s:Shared}
def zE (K:PySem.W.Frag)(tl:TE):TI:=λσ H R=>tl σ H λx H1=>∃a,x= .ref a/\(∃xs,bz K H1 a xs)/\R (A3 K a) H1
def Bo (K:PySem.W.Frag)(tl:TE):TI:=λσ H R=>tl σ H λx H1=>∃a,x= .ref a/\(∃xs,bL K H1 a xs)/\R (AN K a) H1
theorem vx {l:Expr}{tl:TE}(hl:PE X l tl):PI X tg l (zE X.K tl):=by
 intro pins s σ H R I h
 refine aT (hl pins s σ H _ I h) λv s1 ⟨x,H1,I1,r1,q1⟩=>?_
 obtain ⟨a,e,⟨xs,hq⟩,q⟩:=q1
 subst e
 cases r1
 obtain ⟨its,rv,p,hz⟩:=I1.list hq
 refine wpAny_pyIter_list p.isList ?_
 refine ⟨s1.heap.objs.size,[s1.heap.objs.size],_,_,H1,rfl,I1.kept (t':=s1.toks) λb o e=>Heap.get?_push_of_some _ e,rl a _,⟨_,Heap.get?_push_size _ rfl,rfl,rfl⟩,λb hb=>?_,q⟩
 have e:b=s1.heap.objs.size:=by simpa using hb
 subst e
 exact I1.ib (Nat.le_refl _) (I1.hok.fresh (Nat.le_refl _))
theorem xK {l:Expr}{tl:TE}(hl:PE X l tl):PI X tg l (Bo X.K tl):=by
 intro pins s σ H R I h
 refine aT (hl pins s σ H _ I h) λv s1 ⟨x,H1,I1,r1,q1⟩=>?_
 obtain ⟨a,e,⟨xs,hq⟩,q⟩:=q1
 subst e
 cases r1
 obtain ⟨its,rv,p,hz⟩:=I1.tuple hq
 refine wpAny_pyIter_tuple (show s1.heap.IsTuple a its.toArray from p) ?_
 refine ⟨s1.heap.objs.size,[s1.heap.objs.size],_,_,H1,rfl,I1.kept (t':=s1.toks) λb o e=>Heap.get?_push_of_some _ e,oW a _,⟨_,Heap.get?_push_size _ rfl,rfl,rfl⟩,λb hb=>?_,q⟩
 have e:b=s1.heap.objs.size:=by simpa using hb
 subst e
 exact I1.ib (Nat.le_refl _) (I1.hok.fresh (Nat.le_refl _))
theorem su {R:It->Hp->Prop}{E:Value->Shared->Prop}{lo hi:Int}{t u v:Tok}{tk:Nat}(I:Inv X pins σ H s)(h1: -(2 ^ 62)<=lo)(h2:lo < 2 ^ 62)(h3: -(2 ^ 62)<=hi)(h4:hi < 2 ^ 62)
 (q:R (tJ lo (hi - lo).toNat) H):wpAny (model X.prog X.w) X.A (pyIter (.ref s.heap.objs.size)) (Bg X pins σ tg R) E {s with heap:=s.heap.push {cls:=.type "range",data:=.fields #[.int lo t,.int hi u,.int 1 v]},toks:=tk}:=by
 refine wpAny_pyIter_range (IsRange.new ..) (small_one h1 h2 h3 h4) ?_
 have I1:Inv X pins σ H {s with heap:=s.heap.push {cls:=.type "range",data:=.fields #[.int lo t,.int hi u,.int 1 v]},toks:=tk}:=I.kept λb o e=>Heap.get?_push_of_some _ e
 refine ⟨(s.heap.push {cls:=.type "range",data:=.fields #[.int lo t,.int hi u,.int 1 v]}).objs.size,[(s.heap.push {cls:=.type "range",data:=.fields #[.int lo t,.int hi u,.int 1 v]}).objs.size],_,_,H,rfl,
  I1.kept (t':=tk) λb o e=>Heap.get?_push_of_some _ e,nZ _ lo (hi - lo).toNat,?_,λb hb=>?_,q⟩
 ·have e1:lo + ((0:Nat):Int) * 1=lo:=by simp
  have e2:(((hi - lo).toNat:Nat):Int) - ((0:Nat):Int)=Builtin.Range.rangeSize lo hi 1:=by rw [rangeSize_one];split<;>omega
  show IsRangeIter _ _ (lo + ((0:Nat):Int) * 1) ((((hi - lo).toNat:Nat):Int) - ((0:Nat):Int)) 1
  rw [e1,e2]
  exact Heap.get?_push_size _ rfl
 ·have e:b=(s.heap.push {cls:=.type "range",data:=.fields #[.int lo t,.int hi u,.int 1 v]}).objs.size:=by simpa using hb
  subst e
  exact I1.ib (Nat.le_refl _) (I1.hok.fresh (Nat.le_refl _))
def zL (ta:TA):TI:=λσ H R=>ta σ H λvs H1=>∃j:Int,vs=[.int j]/\ -(2 ^ 62)<=j/\j < 2 ^ 62/\R (tJ 0 j.toNat) H1
theorem qw {a:Expr}{ta:TA}{p pos:Pos}(hg:Gl X "range")(hm:X.mg "range"=none)(ha:PA X [a] ta)(hs:starEach [a] X.env=[(false,eval a X.env)]:=by rfl):PI X tg (.Call (.Name "range" p) [a] [] pos) (zL ta):=by
 intro pins s σ H R I h
 refine Call_ (gi I hg hm boot_range (PyProof.Rows.callWith_type1 (aT (ha pos pins s σ H _ I h) λus s1 ⟨vs,H1,I1,r1,q1⟩=>?_) hs rfl))
 obtain ⟨j,e,q1,q2,q⟩:=q1
 subst e
 cases r1 with
 | cons r rr=>
   cases rr
   obtain ⟨t,rfl⟩:=r
   exact call_range_1 (su I1 (by omega) (by omega) q1 q2 (by simpa using q))
def BF (wi:TI)(g:TG)(tb:TS):TS:=λD σ H=>wi σ H λJ H1=>∃W:Nat->Nat->St->Hp->Prop,(∃m,W 0 m σ H1)/\∀i m σ H,W i m σ H->
 (J.stop i H/\D.nx σ H)∨(J.go i H/\∃N:St->Hp->Prop,(∀σ' H',N σ' H'->∃m',m' < m/\W (i + 1) m' σ' H')/\∀x H',J.yld i H x H'->g x σ H' λσ2 H2=>tb {D with nx:=N,ct:=N,bk:=D.nx} σ2 H2)
def gw (fp:List Addr)(h:Heap):List (Addr×Obj):=fp.filterMap λb=>(h.get? b).map λo=>(b,o)
theorem fh {fp:List Addr}{h:Heap}{b:Addr}{o:Obj}(hb:b∈fp)(e:h.get? b=some o):(b,o)∈gw fp h:=List.mem_filterMap.mpr ⟨b,hb,by rw [e];rfl⟩
theorem qD {fp:List Addr}{h:Heap}{p:Addr×Obj}(hp:p∈gw fp h):p.1∈fp/\h.get? p.1=some p.2:=by
 obtain ⟨b,hb,e⟩:=List.mem_filterMap.mp hp
 cases q:h.get? b with
 | none=>rw [q] at e;cases e
 | some o=>
   rw [q] at e
   have e':(b,o)=p:=Option.some.inj e
   subst e'
   exact ⟨hb,q⟩
theorem Inv.pinned {fp:List Addr}(I:Inv X pins σ H s)(hf:∀b∈fp,f9 X pins H b)(ho:∀b∈fp,∃o,s.heap.get? b=some o/\∀v,o.data≠ .cell v):Inv X (pins++gw fp s.heap) σ H s:=
 I.fq λp hp=>(List.mem_append.mp hp).elim (λz=>I.pin p (List.mem_append_right _ z)) λz=>by
   obtain ⟨hb,e⟩:=qD z
   obtain ⟨f0,f1,f2,_⟩:=hf p.1 hb
   obtain ⟨o,e',d⟩:=ho p.1 hb
   rw [e] at e';cases e'
   exact ⟨e,f0,f1,f2,d⟩
theorem Inv.dz {pl:List (Addr×Obj)}(I:Inv X (pins++pl) σ H s):Inv X pins σ H s:=I.fq λp hp=>I.pin p (List.mem_append_right _ (List.mem_append_left _ hp))
theorem xi {iter:Expr}{body:List Stmt}{wi:TI}{g:TG}{tb:TS}{pos:Pos}(hp:PassesOwn (model X.prog X.w) X.A X.env X.xe)(hc:X.calm=true)(hi:PI X tg iter wi)(hg:PG X tg g)(hb:eZ X body tb)
 (hs:∀x,foldedSetIterable iter X.env x=pure x:=by intro _;rfl):PS X (.For tg iter body [] pos) (BF wi g tb):=by
 intro pins s σ H D I h
 refine wpAny_For (aT (hi pins s σ H _ I h) λv s1 h1=>aT h1 λitv s2 h2=>?_) hs
 obtain ⟨it,fp,tn,J,H2,e,I2,T,st2,f2,W,⟨m0,w0⟩,turn⟩:=h2
 subst e
 -- what stays true of the iterator's objects through the loop
 have stat:∀{H':Hp},(∀b∈fp,H' b=none)->∀b∈fp,f9 X pins H' b:=λhn b hb=>⟨hn b hb,(f2 b hb).2⟩
 refine codeAny_forLoop_any (λn s'=>∃i σ' H',Inv X pins σ' H' s'/\tn i s'.heap/\(∀b∈fp,H' b=none)/\W i n σ' H') ?_ m0 ⟨0,σ,H2,I2,st2,λb hb=>(f2 b hb).1,w0⟩
 rintro n s3 ⟨i,σ3,H3,I3,st3,fr3,w3⟩
 rcases turn i n σ3 H3 w3 with ⟨stop,qn⟩ | ⟨go,N,hN,step⟩
 ·refine wpAny_passesOwn hp (aT (T.done X rfl rfl rfl hc i pins s3 σ3 H3 X.xe I3 (stat fr3) st3 stop) λr s4 ⟨hr,I4⟩=>?_)
  subst hr
  exact wpAny_execs_nil ⟨σ3,H3,I4,qn⟩
 ·refine wpAny_passesOwn hp (aT (T.item X rfl rfl rfl hc i pins s3 σ3 H3 X.xe I3 (stat fr3) st3 go) λr s4 ⟨u,hr,h4⟩=>?_)
  subst hr
  refine wpAny_passesOwn hp (aT h4 λ_ s5 ⟨x,H5,I5,r5,y5,st5,fr5⟩=>?_)
  have I5':=I5.pinned (stat fr5) (T.obj _ _ st5)
  refine wpAny_passesOwn hp (aT (hg _ s5 σ3 H5 x u _ I5' r5 (step x H5 y5)) λ_ s6 ⟨σ6,H6,I6,q6⟩=>?_)
  refine wpAny_passesOwn hp (aT (hb _ s6 σ6 H6 _ I6 q6) λf s7 q7=>?_)
  have again:∀{σ7:St} {H7:Hp},Inv X (pins++gw fp s5.heap) σ7 H7 s7->N σ7 H7->∃m,m < n/\∃i σ' H',Inv X pins σ' H' s7/\tn i s7.heap/\(∀b∈fp,H' b=none)/\W i m σ' H':=λ{σ7 H7} I7 n7=>by
   obtain ⟨m',hm,w7⟩:=hN σ7 H7 n7
   refine ⟨m',hm,i + 1,σ7,H7,I7.dz,T.keep _ _ _ st5 λb hb o e=>(I7.pin (b,o) (List.mem_append_right _ (List.mem_append_right _ (fh hb e)))).1,λb hb=>?_,w7⟩
   obtain ⟨o,e,d⟩:=T.obj _ _ st5 b hb
   exact (I7.pin (b,o) (List.mem_append_right _ (List.mem_append_right _ (fh hb e)))).2.1
  cases f with
  | next=>obtain ⟨σ7,H7,I7,n7⟩:=q7;exact again I7 n7
  | cont=>obtain ⟨σ7,H7,I7,n7⟩:=q7;exact again I7 n7
  | brk=>obtain ⟨σ7,H7,I7,q7⟩:=q7;exact ⟨σ7,H7,I7.dz,q7⟩
  | ret v=>obtain ⟨x7,σ7,H7,I7,r7,q7⟩:=q7;exact ⟨x7,σ7,H7,I7.dz,r7,q7⟩
end
abbrev R2:=V->V->Hp->VK->Prop
def cP (X:Cx)(f:Value->Value->Sem Value)(r:R2):Prop:=
 ∀(pins:List (Addr×Obj)) (s:Shared) (σ:St) (H:Hp) (x y:V) (v u:Value) (Q:VK),Inv X pins σ H s->RelV x v->RelV y u->r x y H Q->
  wpAny (model X.prog X.w) X.A (f v u) (EP X pins σ Q) X.xe s
def wN (X:Cx)(f:Value->Sem Value)(r:V->Hp->VK->Prop):Prop:=
 ∀(pins:List (Addr×Obj)) (s:Shared) (σ:St) (H:Hp) (x:V) (v:Value) (Q:VK),Inv X pins σ H s->RelV x v->r x H Q->
  wpAny (model X.prog X.w) X.A (f v) (EP X pins σ Q) X.xe s
def dg (X:Cx)(f:Value)(r:List V->Hp->VK->Prop):Prop:=
 ∀(pins:List (Addr×Obj)) (s:Shared) (σ:St) (H:Hp) (xs:List V) (us:List Value) (Q:VK),Inv X pins σ H s->Vals xs us->r xs H Q->
  wpAny (model X.prog X.w) X.A (call f us) (EP X pins σ Q) X.xe s
def BR (X:Cx)(r:V->Hp->(Bool->Hp->Prop)->Prop):Prop:=
 ∀(pins:List (Addr×Obj)) (s:Shared) (σ:St) (H:Hp) (x:V) (v:Value) (Q:Bool->Hp->Prop),Inv X pins σ H s->RelV x v->r x H Q->
  wpAny (model X.prog X.w) X.A (truthy v) (TP X pins σ Q) X.xe s
def tV (r:R2)(ta tb:TE):TE:=λσ H Q=>ta σ H λx H1=>tb σ H1 λy H2=>r x y H2 Q
def tUn (r:V->Hp->VK->Prop)(ta:TE):TE:=λσ H Q=>ta σ H λx H1=>r x H1 Q
def rI (C:Int->Int->Prop)(g:Int->Int->V):R2:=λx y H Q=>∃i j,x= .int i/\y= .int j/\C i j/\Q (g i j) H
def kL (g:Int->Int->V):R2:=λx y H Q=>∃i j,x= .int i/\y= .int j/\Q (g i j) H
def rU (g:Int->V):V->Hp->VK->Prop:=λx H Q=>∃i,x= .int i/\Q (g i) H
section
variable {X:Cx}{a b c:Expr}{ta tb tc:TE}{pos:Pos}
variable {f:Value->Value->Sem Value}
theorem rV (ha:PE X a ta)(hb:PE X b tb){pins:List (Addr×Obj)}{s:Shared}{σ:St}{H:Hp}{R:V->V->Hp->Prop}(I:Inv X pins σ H s)
 (h:ta σ H λx H1=>tb σ H1 λy H2=>R x y H2) {Q:Value->Shared->Prop}
 (hf:∀v u s2 x y H2,Inv X pins σ H2 s2->RelV x v->RelV y u->R x y H2->wpAny (model X.prog X.w) X.A (f v u) Q X.xe s2):
 wpAny (model X.prog X.w) X.A (eval a X.env) (λv s₁=>wpAny (model X.prog X.w) X.A (eval b X.env) (λu s₂=>wpAny (model X.prog X.w) X.A (f v u) Q X.xe s₂) X.xe s₁) X.xe s:=by
 refine aT (ha pins s σ H _ I h) λv s1 ⟨x,H1,I1,r1,q1⟩=>?_
 refine aT (hb pins s1 σ H1 _ I1 q1) λu s2 ⟨y,H2,I2,r2,q2⟩=>?_
 exact hf v u s2 x y H2 I2 r1 r2 q2
theorem lz {op:Operator}{r:R2}(ho:cP X (binaryOp op) r)(ha:PE X a ta)(hb:PE X b tb):PE X (.BinOp a op b pos) (tV r ta tb):=by
 intro pins s σ H Q I h
 exact wpAny_BinOp (rV ha hb I h λv u s2 x y H2 I2 rx ry q=>ho pins s2 σ H2 x y v u Q I2 rx ry q)
theorem zB {op:UnaryOp}{r:V->Hp->VK->Prop}(ho:wN X (unaryOp op) r)(ha:PE X a ta):PE X (.UnaryOp op a pos) (tUn r ta):=by
 intro pins s σ H Q I h
 exact UnaryOp_ (aT (ha pins s σ H _ I h) λv s1 ⟨x,H1,I1,r1,q1⟩=>ho pins s1 σ H1 x v Q I1 r1 q1)
theorem nv {C:Int->Int->Prop}{g:Int->Int->Int}
 (rule:∀(i j:Int) (t u:Tok) (s:Shared) (Q:Value->Shared->Prop) (E:Value->Shared->Prop),C i j->Q (.int (g i j) s.toks) {s with toks:=s.toks + 1}->wpAny (model X.prog X.w) X.A (f (.int i t) (.int j u)) Q E s):
 cP X f (rI C λi j=>.int (g i j)):=by
 intro pins s σ H x y v u Q I rx ry h
 obtain ⟨i,j,rfl,rfl,hc,q⟩:=h
 obtain ⟨t,rfl⟩:=rx
 obtain ⟨t',rfl⟩:=ry
 exact rule i j t t' s _ _ hc ⟨.int (g i j),H,I.tok _,⟨_,rfl⟩,q⟩
theorem xN {g:Int->Int->Int}
 (rule:∀(i j:Int) (t u:Tok) (s:Shared) (Q:Value->Shared->Prop) (E:Value->Shared->Prop),Q (.int (g i j) s.toks) {s with toks:=s.toks + 1}->wpAny (model X.prog X.w) X.A (f (.int i t) (.int j u)) Q E s):
 cP X f (kL λi j=>.int (g i j)):=by
 intro pins s σ H x y v u Q I rx ry h
 obtain ⟨i,j,rfl,rfl,q⟩:=h
 obtain ⟨t,rfl⟩:=rx
 obtain ⟨t',rfl⟩:=ry
 exact rule i j t t' s _ _ ⟨.int (g i j),H,I.tok _,⟨_,rfl⟩,q⟩
theorem oS {g:Int->Int->Bool}
 (rule:∀(i j:Int) (t u:Tok) (s:Shared) (Q:Value->Shared->Prop) (E:Value->Shared->Prop),Q (.bool (g i j)) s->wpAny (model X.prog X.w) X.A (f (.int i t) (.int j u)) Q E s):
 cP X f (kL λi j=>.bl (g i j)):=by
 intro pins s σ H x y v u Q I rx ry h
 obtain ⟨i,j,rfl,rfl,q⟩:=h
 obtain ⟨t,rfl⟩:=rx
 obtain ⟨t',rfl⟩:=ry
 exact rule i j t t' s _ _ ⟨.bl (g i j),H,I,rfl,q⟩
def xR (i j:Int):Prop:=0 < j/\j < 1073741824
def wF (i j:Int):Prop:=0<=j/\j<=1000000/\i.natAbs < 2 ^ 64
def oH (i j:Int):Prop:=(-(2 ^ 64) < i/\i < 2 ^ 64)∨(-(2 ^ 64) < j/\j < 2 ^ 64)
theorem oH.ok {i j:Int}(h:oH i j):IntMulOk i j:=by
 rcases h with ⟨h1,h2⟩ | ⟨h1,h2⟩
 ·exact .of_left (intBits_le_64 h1 h2)
 ·exact .of_right (intBits_le_64 h1 h2)
theorem wk:cP X (binaryOp .Add) (kL λi j=>.int (i + j)):=xN λ_ _ _ _ _ _ _ q=>add_int q
theorem yx:cP X (binaryOp .Sub) (kL λi j=>.int (i - j)):=xN λ_ _ _ _ _ _ _ q=>sub_int q
theorem zc:cP X (binaryOp .Mult) (rI oH λi j=>.int (i * j)):=nv λ_ _ _ _ _ _ _ hc q=>mul_int q hc.ok
theorem vw:cP X (binaryOp .FloorDiv) (rI xR λi j=>.int (i / j)):=nv λi j _ _ _ _ _ hc q=>by
 have h1:(0:Int) < j:=hc.1
 have h2:j < 1073741824:=hc.2
 exact floordiv_int (by omega) (by rw [Int.fdiv_eq_ediv_of_nonneg i (by omega)];exact q) (.inl (PyProof.noPylong_small (by omega)))
theorem xE:cP X (binaryOp .Mod) (rI (λ_ j=>0 < j) λi j=>.int (i % j)):=nv λi j _ _ _ _ _ hc q=>by
 have h1:(0:Int) < j:=hc
 exact mod_int' (by omega) (by rw [Int.fmod_eq_emod_of_nonneg i (by omega)];exact q)
theorem yg:cP X (binaryOp .Pow) (rI wF λi j=>.int (i ^ j.toNat)):=nv λ_ _ _ _ _ _ _ hc q=>pow_int_small hc.1 hc.2.1 hc.2.2 q
theorem pT {f:Value->Sem Value}{g:Int->Int}
 (rule:∀(i:Int) (t:Tok) (s:Shared) (Q:Value->Shared->Prop) (E:Value->Shared->Prop),Q (.int (g i) s.toks) {s with toks:=s.toks + 1}->wpAny (model X.prog X.w) X.A (f (.int i t)) Q E s):
 wN X f (rU λi=>.int (g i)):=by
 intro pins s σ H x v Q I rx h
 obtain ⟨i,rfl,q⟩:=h
 obtain ⟨t,rfl⟩:=rx
 exact rule i t s _ _ ⟨.int (g i),H,I.tok _,⟨_,rfl⟩,q⟩
theorem yG:wN X (unaryOp .USub) (rU λi=>.int (-i)):=pT λ_ _ _ _ _ q=>neg_int q
end
def wt:V->V->Bool
 | .non,.non=>true | .non,.int _=>true | .int _,.non=>true | .non,.bl _=>true | .bl _,.non=>true | .non,.str _=>true | .str _,.non=>true
 | .int _,.int _=>true | .bl _,.bl _=>true | .str _,.str _=>true | .byt _,.byt _=>true
 | .int _,.str _=>true | .str _,.int _=>true | .bl _,.str _=>true | .str _,.bl _=>true
 | _,_=>false
def rEq:R2:=λx y H Q=>wt x y=true/\Q (.bl (decide (x=y))) H
def rNe:R2:=λx y H Q=>wt x y=true/\Q (.bl (!decide (x=y))) H
theorem iF {i j:Int}:decide (V.int i=V.int j)=(i==j):=by
 rw [Bool.eq_iff_iff]
 simp
theorem qy {i j:Bool}:decide (V.bl i=V.bl j)=(i==j):=by
 rw [Bool.eq_iff_iff]
 simp
theorem gq {i j:Str}:decide (V.str i=V.str j)=(i==j):=by
 rw [Bool.eq_iff_iff]
 simp
theorem nO {i j:Array UInt8}:decide (V.byt i=V.byt j)=(i.toList==j.toList):=by
 rw [Bool.eq_iff_iff]
 cases i
 cases j
 simp
section
variable {X:Cx}{a b c:Expr}{ta tb tc:TE}{pos:Pos}
variable {op:CmpOp}{r:R2}
theorem bq {pins:List (Addr×Obj)}{σ:St}{H:Hp}{s:Shared}{Q:VK}{k k':Bool}(I:Inv X pins σ H s)(q:Q (.bl k) H)(e:k=k'):EP X pins σ Q (.bool k') s:=by
 subst e
 exact ⟨.bl k,H,I,rfl,q⟩
theorem tK:cP X (compareOp .Eq) rEq:=by
 intro pins s σ H x y v u Q I rx ry h
 obtain ⟨hs,q⟩:=h
 cases x with
 | non=>
   cases rx
   cases y with
   | non=>cases ry;exact PySem.EqNone.eq_none_none (bq I q (by simp))
   | bl j=>cases ry;exact PySem.EqNone.eq_none_bool (bq I q (by simp))
   | int j=>obtain ⟨t',rfl⟩:=ry;exact PySem.EqNone.eq_none_int (bq I q (by simp))
   | str j=>obtain ⟨t',rfl⟩:=ry;exact PySem.EqNone.eq_none_str (bq I q (by simp))
   | _=>exact absurd (show false=true from hs) Bool.false_ne_true
 | bl i=>
   cases rx
   cases y with
   | non=>cases ry;exact PySem.EqNone.eq_bool_none (bq I q (by simp))
   | bl j=>cases ry;exact eq_bool (bq I q qy)
   | str j=>obtain ⟨t',rfl⟩:=ry;exact PySem.EqMixed.eq_bool_str (bq I q (by simp))
   | _=>exact absurd (show false=true from hs) Bool.false_ne_true
 | int i=>
   obtain ⟨t,rfl⟩:=rx
   cases y with
   | non=>cases ry;exact PySem.EqNone.eq_int_none (bq I q (by simp))
   | int j=>obtain ⟨t',rfl⟩:=ry;exact eq_int (bq I q iF)
   | str j=>obtain ⟨t',rfl⟩:=ry;exact PySem.EqMixed.eq_int_str (bq I q (by simp))
   | _=>exact absurd (show false=true from hs) Bool.false_ne_true
 | str i=>
   obtain ⟨t,rfl⟩:=rx
   cases y with
   | non=>cases ry;exact PySem.EqNone.eq_str_none (bq I q (by simp))
   | bl j=>cases ry;exact PySem.EqMixed.eq_str_bool (bq I q (by simp))
   | int j=>obtain ⟨t',rfl⟩:=ry;exact PySem.EqMixed.eq_str_int (bq I q (by simp))
   | str j=>obtain ⟨t',rfl⟩:=ry;exact eq_str (bq I q gq)
   | _=>exact absurd (show false=true from hs) Bool.false_ne_true
 | byt i=>
   obtain ⟨t,rfl⟩:=rx
   cases y with
   | byt j=>obtain ⟨t',rfl⟩:=ry;exact PySem.W.eq_bytes (bq I q nO)
   | _=>exact absurd (show false=true from hs) Bool.false_ne_true
 | _=>cases y<;>exact absurd (show false=true from hs) Bool.false_ne_true
theorem tR:cP X (compareOp .NotEq) rNe:=by
 intro pins s σ H x y v u Q I rx ry h
 obtain ⟨hs,q⟩:=h
 cases x with
 | non=>
   cases rx
   cases y with
   | non=>cases ry;exact PySem.EqNone.ne_none_none (bq I q (by simp))
   | bl j=>cases ry;exact PySem.EqNone.ne_none_bool (bq I q (by simp))
   | int j=>obtain ⟨t',rfl⟩:=ry;exact PySem.EqNone.ne_none_int (bq I q (by simp))
   | str j=>obtain ⟨t',rfl⟩:=ry;exact PySem.EqNone.ne_none_str (bq I q (by simp))
   | _=>exact absurd (show false=true from hs) Bool.false_ne_true
 | bl i=>
   cases rx
   cases y with
   | non=>cases ry;exact PySem.EqNone.ne_bool_none (bq I q (by simp))
   | bl j=>cases ry;exact ne_bool (bq I q (congrArg not qy))
   | str j=>obtain ⟨t',rfl⟩:=ry;exact PySem.EqMixed.ne_bool_str (bq I q (by simp))
   | _=>exact absurd (show false=true from hs) Bool.false_ne_true
 | int i=>
   obtain ⟨t,rfl⟩:=rx
   cases y with
   | non=>cases ry;exact PySem.EqNone.ne_int_none (bq I q (by simp))
   | int j=>obtain ⟨t',rfl⟩:=ry;exact ne_int (bq I q (congrArg not iF))
   | str j=>obtain ⟨t',rfl⟩:=ry;exact PySem.EqMixed.ne_int_str (bq I q (by simp))
   | _=>exact absurd (show false=true from hs) Bool.false_ne_true
 | str i=>
   obtain ⟨t,rfl⟩:=rx
   cases y with
   | non=>cases ry;exact PySem.EqNone.ne_str_none (bq I q (by simp))
   | bl j=>cases ry;exact PySem.EqMixed.ne_str_bool (bq I q (by simp))
   | int j=>obtain ⟨t',rfl⟩:=ry;exact PySem.EqMixed.ne_str_int (bq I q (by simp))
   | str j=>obtain ⟨t',rfl⟩:=ry;exact ne_str (bq I q (congrArg not gq))
   | _=>exact absurd (show false=true from hs) Bool.false_ne_true
 | byt i=>
   obtain ⟨t,rfl⟩:=rx
   cases y with
   | byt j=>obtain ⟨t',rfl⟩:=ry;exact PySem.W.ne_bytes (bq I q (congrArg not nO))
   | _=>exact absurd (show false=true from hs) Bool.false_ne_true
 | _=>cases y<;>exact absurd (show false=true from hs) Bool.false_ne_true
theorem AB:cP X (compareOp .Lt) (kL λi j=>.bl (decide (i < j))):=oS λ_ _ _ _ _ _ _ q=>lt_int q
theorem zw:cP X (compareOp .LtE) (kL λi j=>.bl (decide (i<=j))):=oS λ_ _ _ _ _ _ _ q=>le_int q
theorem zI:cP X (compareOp .Gt) (kL λi j=>.bl (decide (j < i))):=oS λ_ _ _ _ _ _ _ q=>gt_int q
theorem Af:cP X (compareOp .GtE) (kL λi j=>.bl (decide (j<=i))):=oS λ_ _ _ _ _ _ _ q=>ge_int q
theorem wg:cP X (compareOp .Is) (λx y H Q=>y= .non/\Q (.bl (decide (x= .non))) H):=by
 intro pins s σ H x y v u Q I rx ry h
 obtain ⟨rfl,q⟩:=h
 cases ry
 refine is_none_gen (bq I q ?_)
 cases x<;>first
  | (cases rx;rfl)
  | (obtain ⟨t,rfl⟩:=rx;rfl)
theorem vG:cP X (compareOp .IsNot) (λx y H Q=>y= .non/\Q (.bl (!decide (x= .non))) H):=by
 intro pins s σ H x y v u Q I rx ry h
 obtain ⟨rfl,q⟩:=h
 cases ry
 refine isnot_none_gen (bq I q ?_)
 cases x<;>first
  | (cases rx;rfl)
  | (obtain ⟨t,rfl⟩:=rx;rfl)
theorem qI (b:Expr)(h:op≠ .In:=by decide)(h2:op≠ .NotIn:=by decide):behindInMarks op b=false:=by
 have e1:(op==CmpOp.In)=false:=by cases op<;>first | rfl | exact absurd rfl h
 have e2:(op==CmpOp.NotIn)=false:=by cases op<;>first | rfl | exact absurd rfl h2
 cases b<;>simp [behindInMarks,e1,e2]
theorem vy (ho:cP X (compareOp op) r)(ha:PE X a ta)(hb:PE X b tb)(hm:behindInMarks op b=false):PE X (.Compare a [op] [b] pos) (tV r ta tb):=by
 intro pins s σ H Q I h
 exact wpAny_Compare1 (rV ha hb I h λv u s2 x y H2 I2 rx ry q=>ho pins s2 σ H2 x y v u Q I2 rx ry q) hm
def zW (t:TE):TT:=λσ H Q=>t σ H λx H'=>∃k,x= .bl k/\Q k H'
theorem vS (ho:cP X (compareOp op) r)(ha:PE X a ta)(hb:PE X b tb)(hm:behindInMarks op b=false):PT X (.Compare a [op] [b] pos) (zW (tV r ta tb)):=by
 intro pins s σ H Q I h
 refine wpAny_isTrue_Compare1 (aT (ha pins s σ H _ I h) λv s1 ⟨x,H1,I1,r1,q1⟩=>aT (hb pins s1 σ H1 _ I1 q1) λu s2 ⟨y,H2,I2,r2,q2⟩=>
  aT (ho pins s2 σ H2 x y v u _ I2 r1 r2 q2) λc s3 ⟨z,H3,I3,r3,k,e,q3⟩=>?_) hm
 subst e
 cases r3
 exact wpAny_truthy_bool ⟨H3,I3,q3⟩
def yD (r r':R2)(ta tb tc:TE):TE:=λσ H Q=>ta σ H λx H1=>tb σ H1 λy H2=>r x y H2 λz H3=>∃k,z= .bl k/\
 (if k=true then tc σ H3 λw' H4=>r' y w' H4 Q else Q (.bl false) H3)
theorem rP {op':CmpOp}{r':R2}(ho:cP X (compareOp op) r)(ho':cP X (compareOp op') r')(ha:PE X a ta)(hb:PE X b tb)(hc:PE X c tc)
 (hm:lastMarks [op,op'] [b,c]=false:=by with_unfolding_all rfl):PE X (.Compare a [op,op'] [b,c] pos) (yD r r' ta tb tc):=by
 intro pins s σ H Q I h
 refine Compare_chain (aT (ha pins s σ H _ I h) λv s1 ⟨x,H1,I1,r1,q1⟩=>chain_link (aT (hb pins s1 σ H1 _ I1 q1) λu s2 ⟨y,H2,I2,r2,q2⟩=>
  aT (ho pins s2 σ H2 x y v u _ I2 r1 r2 q2) λd s3 ⟨z,H3,I3,r3,k,e,q3⟩=>?_)) hm
 subst e
 cases r3
 refine wpAny_truthy_bool ?_
 cases k with
 | false=>exact ite_ff ⟨.bl false,H3,I3,rfl,q3⟩
 | true=>exact ite_tt (chain_last (aT (hc pins s3 σ H3 _ I3 q3) λw' s4 ⟨z',H4,I4,r4,q4⟩=>ho' pins s4 σ H4 y z' u w' Q I4 r2 r4 q4))
def yM (K:PySem.W.Frag)(x:V)(H:Hp)(k:Bool):Prop:=
 match x with
 | .non=>k=false
 | .bl b=>k=b
 | .int i=>k=(i != 0)
 | .str y=>y.length<=sizeLine/\k=((y.length:Int) != 0)
 | .byt y=>y.size<=sizeLine/\k=((y.size:Int) != 0)
 | .ref p=>(∃xs,bz K H p xs/\k= !xs.isEmpty)∨(∃xs,bL K H p xs/\k= !xs.isEmpty)∨∃kvs,H p=some (.dK kvs)/\k= !kvs.isEmpty
 | _=>False
theorem oB {κ:Type}{kvs:List (κ×V)}{vs:List (κ×Value)}(r:KV kvs vs):(!vs.isEmpty)= !kvs.isEmpty:=by
 cases r<;>rfl
theorem jC {xs:List V}{its:List Value}(r:Vals xs its):(!its.toArray.isEmpty)= !xs.isEmpty:=by
 cases r<;>simp
theorem iC:(sizeLine:Nat) < 2 ^ 63:=by rw [sizeLine_eq];decide
theorem xI:BR X (λx H Q=>∃k,yM X.K x H k/\Q k H):=by
 intro pins s σ H x v Q I rx h
 obtain ⟨k,e,q⟩:=h
 have hl:=iC
 have hs:sizeLine=16777216:=sizeLine_eq
 cases x with
 | non=>
   cases rx
   have e':k=false:=e
   subst e'
   exact truthy_none ⟨H,I,q⟩
 | bl b=>
   cases rx
   have e':k=b:=e
   subst e'
   exact wpAny_truthy_bool ⟨H,I,q⟩
 | int i=>
   obtain ⟨t,rfl⟩:=rx
   have e':k=(i != 0):=e
   subst e'
   exact PySem.P.truthy_int ⟨H,I,q⟩
 | str y=>
   obtain ⟨t,rfl⟩:=rx
   obtain ⟨hy,e'⟩:y.length<=sizeLine/\k=((y.length:Int) != 0):=e
   subst e'
   exact PySem.P.truthy_str (by omega) ⟨H,I.tok _,q⟩
 | byt y=>
   obtain ⟨t,rfl⟩:=rx
   obtain ⟨hy,e'⟩:y.size<=sizeLine/\k=((y.size:Int) != 0):=e
   subst e'
   exact PySem.W.truthy_bytes (by omega) ⟨H,I.tok _,q⟩
 | ref p=>
   cases rx
   have e':(∃xs,bz X.K H p xs/\k= !xs.isEmpty)∨(∃xs,bL X.K H p xs/\k= !xs.isEmpty)∨∃kvs,H p=some (.dK kvs)/\k= !kvs.isEmpty:=e
   rcases e' with ⟨xs,hx,e'⟩ | ⟨xs,hx,e'⟩ | ⟨kvs,hx,e'⟩
   ·subst e'
    obtain ⟨its,r,pl,hz⟩:=I.list hx
    have hlen:=r.length
    exact wpAny_truthy_list pl.isList (by simp only [List.size_toArray];omega) ⟨H,I.tok _,by rw [jC r];exact q⟩
   ·subst e'
    obtain ⟨its,r,pl,hz⟩:=I.tuple hx
    have hlen:=r.length
    exact truthy_tuple pl (by simp only [List.size_toArray];omega) ⟨H,I.tok _,by rw [jC r];exact q⟩
   ·subst e'
    obtain ⟨hz,hS,vs,r,m⟩:kvs.length<=sizeLine/\(p==sysModules)=false/\∃vs,KV kvs vs/\s.heap.DictOf (bH X.prog X.w) p vs:=I.hok p _ hx
    have hlen:kvs.length=vs.length:=Paired.length r
    exact wpAny_truthy_dict hS m (by omega) ⟨H,I.tok _,by rw [oB r];exact q⟩
 | _=>exact (show False from e).elim
theorem rQ (ha:PE X a ta)(he:∀whole,isTrue a X.env whole=(do let v ← whole;standAt a.pos;holding [v] (truthy v))):
 PT X a (λσ H Q=>ta σ H λx H'=>∃k,yM X.K x H' k/\Q k H'):=by
 intro pins s σ H Q I h
 exact isTrue_plain (aT (ha pins s σ H _ I h) λv s1 ⟨x,H1,I1,r1,q1⟩=>xI pins s1 σ H1 x v Q I1 r1 q1) (he _)
theorem vals1 {x:V}{us:List Value}(r:Vals [x] us):∃u,us=[u]/\RelV x u:=by
 cases r with
 | cons r1 r2=>cases r2;exact ⟨_,rfl,r1⟩
theorem vals2 {x y:V}{us:List Value}(r:Vals [x,y] us):∃u w',us=[u,w']/\RelV x u/\RelV y w':=by
 cases r with
 | cons r1 r2=>
   cases r2 with
   | cons r3 r4=>cases r4;exact ⟨_,_,rfl,r1,r3⟩
theorem qx (hc:X.calm=true):dg X (.builtin "min") (λxs H Q=>∃i j,xs=[.int i,.int j]/\Q (.int (if j < i then j else i)) H):=by
 intro pins s σ H xs us Q I r h
 obtain ⟨i,j,rfl,q⟩:=h
 obtain ⟨u,w',rfl,⟨t,rfl⟩,⟨t',rfl⟩⟩:=vals2 r
 refine min_two_ints (I.ok.hd hc) λh' tk k=>⟨_,H,I.kept k,?_,q⟩
 by_cases hj:j < i
 ·rw [if_pos hj,if_pos hj];exact ⟨_,rfl⟩
 ·rw [if_neg hj,if_neg hj];exact ⟨_,rfl⟩
theorem qJ:dg X (.type "int") (λxs H Q=>(∃i,xs=[.int i]/\Q (.int i) H)∨∃k,xs=[.bl k]/\Q (.int (if k then 1 else 0)) H):=by
 intro pins s σ H xs us Q I r h
 rcases h with ⟨i,rfl,q⟩ | ⟨k,rfl,q⟩
 ·obtain ⟨u,rfl,t,rfl⟩:=vals1 r
  exact call_int_int ⟨.int i,H,I,⟨_,rfl⟩,q⟩
 ·obtain ⟨u,rfl,r1⟩:=vals1 r
  cases r1
  exact call_int_bool ⟨.int (if k then 1 else 0),H,I.tok _,⟨_,rfl⟩,q⟩
end
structure kB (h:Heap) (x dx C:Addr) (mA:Str->Option Value):Prop where
 obj:h.get? x=some (PySem.W.instObj C dx)
 ns:h.Ns1 dx mA
 ne:dx≠x
theorem qS {h:Heap}{dx:Addr}{mA:Str->Option Value}(n:h.Ns1 dx mA):∃od,h.get? dx=some od/\∀name,PySem.W.lookIn name od=some (mA name):=by
 obtain ⟨o,es,ep,ho,hd,hk,_,hm⟩:=n
 refine ⟨o,ho,λname=>?_⟩
 have e:=hm name
 unfold nsFind findBy at e
 rw [← Array.find?_toList] at e
 unfold PySem.W.lookIn
 rw [hd]
 dsimp only
 split
 ·rename_i y q
  rw [q] at e
  exact congrArg some e
 ·rename_i q
  rw [q] at e
  have a:es.toList.any (·.refKey)=false:=by
   rw [List.any_eq_false]
   intro y hy
   obtain ⟨z,t,hkey⟩:=hk y (Array.mem_toList_iff.mp hy)
   simp [DictEntry.refKey,hkey]
  have a':¬es.toList.any (·.refKey)=true:=by rw [a];exact Bool.false_ne_true
  rw [if_neg a']
  exact congrArg some e
theorem kB.look {h:Heap}{x dx C:Addr}{mA:Str->Option Value}(I:kB h x dx C mA):∃od,PySem.W.InstAt h x (PySem.W.instObj C dx) C (some od)/\∀name,PySem.W.lookIn name od=some (mA name):=
 let ⟨od,ho,hl⟩:=qS I.ns
 ⟨od,⟨I.obj,rfl,rfl,ho⟩,hl⟩
section
variable {prog:Program}{w:World}{A:Around}{E:Value->Shared->Prop}{s:Shared}{K:PySem.W.Frag}{x dx C f:Addr}{mA:Str->Option Value}{name:Str}{v:Value}
theorem get_map {expr:Bool}{Q:Value->Shared->Prop}(X:K.In s.heap)(I:kB s.heap x dx C mA)(hg:PySem.W.plainGet K C name=true)(hh:PySem.W.hasDictIn K C=true)
 (ha:PySem.W.findIn K (.ref C) name=some none) (hv:mA name=some v) (hv':PySem.W.handedIn v=true) (h:Q v {s with toks:=s.toks + 1}):
 wpAny (model prog w) A (getAttr (.ref x) name expr) Q E s:=by
 obtain ⟨od,J,hl⟩:=I.look
 exact PySem.W.get_value X J (PySem.W.plainGet_of hg).1 (PySem.W.findObj_own hh ha rfl (by rw [hl,hv])) hv' h
theorem uU {ns:List Str}{Q:Unit->Shared->Prop}(X:K.In s.heap)(I:kB s.heap x dx C mA)
 (hs:PySem.W.findIn K (.ref C) "__setattr__"=some (some (.builtin "object.__setattr__"))) (hp:PySem.W.plainOver K C=true) (ht:PySem.W.takerIn K C name=some none) (hh:PySem.W.hasDictIn K C=true)
 (hw:PySem.Within mA ns) (hsz:ns.length<=sizeLine)
 (h:∀h',kB h' x dx C (λy=>if y=name then some v else mA y)->Heap.SameBut dx s.heap h'->Q () {s with heap:=h',toks:=s.toks + 2}):
 wpAny (model prog w) A (setAttr (.ref x) name v) Q E s:=by
 obtain ⟨od,J,hl⟩:=I.look
 refine PySem.W.set_plain X J hs (PySem.W.osa_open (s:={s with toks:=s.toks + 1}) (r:=none) X J hp ht λb=>?_)
 obtain ⟨cd,hc,hd'⟩:=PySem.W.any_some hh
 have hx:s.heap.get? x=some ⟨.ref C,some dx,.plain, #[]⟩:=I.obj
 refine wpAny_bind (wpAny_pure (wpAny_bind (wpAny_bind (wpAny_loadPart hx (wpAny_bind (PySem.W.Looks.here (s:={s with toks:=s.toks + 1}) (PySem.W.looks_clsIn X hc) ?_))))))
 rw [hd']
 refine wpAny_pure (a:=some dx) (wpAny_bind (wpAny_pure (wpAny_bind ?_)))
 refine wpAny_nsSet1 (s:={s with toks:=s.toks + 1}) I.ns λh' hn2 hs2=>?_
 obtain ⟨oD,esD,epD,hoD,hdD,hcD⟩:=hn2.count (PySem.Within.cons name v hw)
 refine wpAny_bind (wpAny_lookBehind hoD (by rw [hdD];exact pastItsLine_dict (Nat.le_trans hcD (by rw [List.length_cons];omega))) ?_)
 exact wpAny_pure (h _ ⟨(hs2.2 _ (Ne.symm I.ne)).trans I.obj,hn2,I.ne⟩ hs2)
theorem rT {R:Result->Shared->Prop}{vs:List Value}{kw:List (Str×Value)}(X:K.In s.heap)(hm:PySem.W.makesIn K C=true)
 (hi:PySem.W.findIn K (.ref C) "__init__"=some (some (.ref f))) (hf:PySem.W.typeIn K (.ref f)=some (.type "function"))
 (h:codeAny (model prog w) (A.under (.builtin "type.__call__" ⟨.ref C::vs,kw⟩)) (.call (.ref f) ⟨.ref (s.heap.objs.size + 1)::vs,kw⟩) (PySem.W.InitBack (s.heap.objs.size + 1) R)
  {s with heap:=(s.heap.push PySem.W.emptyDict).push (PySem.W.instObj C s.heap.objs.size)}):
 codeAny (model prog w) A (.call (.ref C) ⟨vs,kw⟩) R s:=by
 obtain ⟨hh,g,d,t,os⟩:=s
 exact PySem.W.make_core (PySem.W.makes_of X hm) (PySem.W.looks_findIn X hi) (λself=>PySem.W.bind_fn X self hf) (.inl rfl) h
end
def de (f:Str)(v:V):List (Str×V)->List (Str×V)
 | []=>[(f,v)]
 | (g,x)::r=>if g=f then (g,v)::r else (g,x)::de f v r
theorem iZ (f g:Str)(v:V):∀fs:List (Str×V),(de f v fs).lookup g=if g=f then some v else fs.lookup g
 | []=>by
   show List.lookup g [(f,v)]=_
   by_cases h:g=f
   ·have hb:(g==f)=true:=beq_iff_eq.mpr h
    simp only [List.lookup,hb,if_pos h]
   ·have hb:(g==f)=false:=beq_eq_false_iff_ne.mpr h
    simp only [List.lookup,hb,if_neg h]
 | (k,x)::r=>by
   have ih:=iZ f g v r
   rw [show de f v ((k,x)::r)=(if k=f then (k,v)::r else (k,x)::de f v r) from rfl]
   by_cases hk:k=f
   ·rw [if_pos hk]
    by_cases h:g=k
    ·have hb:(g==k)=true:=beq_iff_eq.mpr h
     simp only [List.lookup,hb,if_pos (h.trans hk)]
    ·have hb:(g==k)=false:=beq_eq_false_iff_ne.mpr h
     simp only [List.lookup,hb,if_neg (λe:g=f=>h (e.trans hk.symm))]
   ·rw [if_neg hk]
    by_cases h:g=k
    ·have hb:(g==k)=true:=beq_iff_eq.mpr h
     simp only [List.lookup,hb,if_neg (λe:g=f=>hk (h.symm.trans e))]
    ·have hb:(g==k)=false:=beq_eq_false_iff_ne.mpr h
     simp only [List.lookup,hb]
     exact ih
theorem hZ (f:Str)(v:V):∀fs:List (Str×V),f∈(de f v fs).map (·.1)/\∀g,g∈fs.map (·.1)->g∈(de f v fs).map (·.1)
 | []=>⟨by simp [de],λg h=>by simp at h⟩
 | (k,x)::r=>by
   obtain ⟨i1,i2⟩:=hZ f v r
   rw [show de f v ((k,x)::r)=(if k=f then (k,v)::r else (k,x)::de f v r) from rfl]
   by_cases hk:k=f
   ·rw [if_pos hk]
    subst hk
    exact ⟨by simp,λg h=>by simpa using h⟩
   ·rw [if_neg hk]
    refine ⟨?_,λg h=>?_⟩
    ·rw [List.map_cons]
     exact List.mem_cons_of_mem _ i1
    ·rw [List.map_cons] at h ⊢
     rcases List.mem_cons.mp h with e | e
     ·exact List.mem_cons.mpr (.inl e)
     ·exact List.mem_cons_of_mem _ (i2 g e)
theorem iU (f:Str)(v:V):∀fs:List (Str×V),(de f v fs).length<=fs.length + 1
 | []=>by simp [de]
 | (k,x)::r=>by
   have ih:=iU f v r
   rw [show de f v ((k,x)::r)=(if k=f then (k,v)::r else (k,x)::de f v r) from rfl]
   by_cases hk:k=f
   ·rw [if_pos hk,List.length_cons,List.length_cons];omega
   ·rw [if_neg hk,List.length_cons,List.length_cons];omega
theorem dW.some_of {v:V}{o:Option Value}(r:dW (some v) o):∃u,o=some u/\RelV v u:=by
 cases o with
 | none=>exact (show False from r).elim
 | some u=>exact ⟨u,rfl,r⟩
theorem qZ {v:V}{u:Value}(r:RelV v u):PySem.W.handedIn u=true:=by
 cases v with
 | non=>cases (show u=Value.none from r);rfl
 | bl b=>cases (show u=Value.bool b from r);rfl
 | int i=>obtain ⟨t,e⟩:=(show∃t,u=Value.int i t from r);cases e;rfl
 | str x=>obtain ⟨t,e⟩:=(show∃t,u=Value.str x t from r);cases e;rfl
 | byt b=>obtain ⟨t,e⟩:=(show∃t,u=Value.bytes b t from r);cases e;rfl
 | flt b=>obtain ⟨t,e⟩:=(show∃t,u=Value.float b t from r);cases e;rfl
 | ref a=>cases (show u=Value.ref a from r);rfl
 | ty n=>cases (show u=Value.type n from r);rfl
section
variable {P:Program}{w:World}{H H':Hp}{h h':Heap}{a C dx:Addr}{fs fs':List (Str×V)}
theorem kx (hok:bY P w H h)(e:H a=some (.ins C dx fs)):∃mA,kB h a dx C mA/\(∀f,dW (fs.lookup f) (mA f))/\PySem.Within mA (fs.map (·.1))/\fs.length<=1000/\H dx=some (.own a):=by
 obtain ⟨d,z,ne,ob,mA,n,r,q⟩:=(show bG P w H h a (.ins C dx fs) from hok a _ e)
 exact ⟨mA,⟨ob,n,ne⟩,r,q,z,d⟩
end
structure jU (K:PySem.W.Frag) (C:Addr):Prop where
 pg:PySem.W.plainGet K C Str.empty=true
 hd:PySem.W.hasDictIn K C=true
 po:PySem.W.plainOver K C=true
 sa:PySem.W.findIn K (.ref C) "__setattr__"=some (some (.builtin "object.__setattr__"))
theorem jU.get {K:PySem.W.Frag}{C:Addr}(c:jU K C)(f:Str):PySem.W.plainGet K C f=true:=c.pg
def eU (K:PySem.W.Frag)(C:Addr)(f:Str):Prop:=PySem.W.findIn K (.ref C) f=some none
theorem eU.zO {K:PySem.W.Frag}{C:Addr}{f:Str}(n:eU K C f):PySem.W.takerIn K C f=some none:=by
 unfold PySem.W.takerIn
 rw [show PySem.W.findIn K (.ref C) f=some none from n]
 rfl
section
variable {X:Cx}{pins:List (Addr×Obj)}{σ:St}{H:Hp}{s:Shared}{a C dx:Addr}{fs:List (Str×V)}{f:Str}{v:V}{A:Around}{E:Value->Shared->Prop}
theorem jF {b:Bool}{Q:Value->Shared->Prop}(I:Inv X pins σ H s)(e:H a=some (.ins C dx fs))(c:jU X.K C)(n:eU X.K C f)(l:fs.lookup f=some v)
 (h:∀u s',Inv X pins σ H s'->RelV v u->Q u s'):wpAny (model X.prog X.w) A (getAttr (.ref a) f b) Q E s:=by
 obtain ⟨mA,O,r,_,_,_⟩:=kx I.hok e
 obtain ⟨u,hu,ru⟩:=dW.some_of (v:=v) (o:=mA f) (by rw [← l];exact r f)
 exact get_map I.cO O (c.get f) c.hd n hu (qZ ru) (h u _ (I.tok _) ru)
theorem jL {y:V}{u:Value}{Q:Unit->Shared->Prop}(I:Inv X pins σ H s)(e:H a=some (.ins C dx fs))(c:jU X.K C)(n:eU X.K C f)(hl:fs.length < 1000)(ry:RelV y u)
 (h:∀s',Inv X pins σ (upd H a (.ins C dx (de f y fs))) s'->Q () s'):wpAny (model X.prog X.w) A (setAttr (.ref a) f u) Q E s:=by
 obtain ⟨mA,O,r,wi,_,ho⟩:=kx I.hok e
 have hz:(fs.map (·.1)).length<=sizeLine:=by rw [List.length_map,sizeLine_eq];omega
 refine uU I.cO O c.sa c.po n.zO c.hd wi hz λh' O' sb=>h _ ?_
 have hd:∃o,h'.get? dx=some o:=let ⟨o,_,_,e',_⟩:=O'.ns;⟨o,e'⟩
 refine I.write (x:=a) (e:=dx) (by rw [e];exact True.intro) (.inr ho) (λb q hb z=>(sb.2 b hb).trans z) hd ?_
 refine ⟨by rw [aE O.ne];exact ho,?_,O.ne,O'.obj,_,O'.ns,λg=>?_,λg hg=>?_⟩
 ·have:=iU f y fs;omega
 ·show dW ((de f y fs).lookup g) (if g=f then some u else mA g)
  rw [iZ]
  by_cases q:g=f
  ·rw [if_pos q,if_pos q];exact ry
  ·rw [if_neg q,if_neg q];exact r g
 ·by_cases q:g=f
  ·rw [q];exact (hZ f y fs).1
  ·refine (hZ f y fs).2 g (wi g λz=>hg ?_)
   show (if g=f then some u else mA g)=none
   rw [if_neg q];exact z
theorem Inv.made (I:Inv X pins σ H s):Inv X pins σ (upd (upd H s.heap.objs.size (.own (s.heap.objs.size + 1))) (s.heap.objs.size + 1) (.ins C s.heap.objs.size []))
 {s with heap:=(s.heap.push PySem.W.emptyDict).push (PySem.W.instObj C s.heap.objs.size)}:=by
 have e1:(s.heap.push PySem.W.emptyDict).get? s.heap.objs.size=some PySem.W.emptyDict:=Heap.get?_push_size s.heap rfl
 have e2:((s.heap.push PySem.W.emptyDict).push (PySem.W.instObj C s.heap.objs.size)).get? (s.heap.objs.size + 1)=some (PySem.W.instObj C s.heap.objs.size):=by
  have:=Heap.get?_push_size (s.heap.push PySem.W.emptyDict) (o:=PySem.W.instObj C s.heap.objs.size) rfl
  rwa [Heap.size_push] at this
 have e3:(s.heap.push PySem.W.emptyDict).Ns s.heap.objs.size (λ_=>none):=⟨PySem.W.emptyDict, #[],_,e1,rfl,(λe he=>absurd he (by simp)),λ_=>rfl⟩
 have I1:=I.laid (a:=s.heap.objs.size) (o:=.own (s.heap.objs.size + 1)) (h':=s.heap.push PySem.W.emptyDict) (t':=s.toks) (λb u q=>Heap.get?_push_of_some _ q) (Nat.le_refl _) ⟨_,e1⟩
 refine I1.laid (a:=s.heap.objs.size + 1) (o:=.ins C s.heap.objs.size []) (t':=s.toks) (λb u q=>Heap.get?_push_of_some _ q) (Nat.le_of_eq (Heap.size_push _ _)) ?_
 have ne:s.heap.objs.size≠s.heap.objs.size + 1:=Nat.ne_of_lt (Nat.lt_succ_self _)
 refine ⟨by rw [aE ne,aF],Nat.zero_le _,ne,e2,λ_=>none,(Heap.Ns1.of_empty e3).at λo q=>Heap.get?_push_of_some _ q,λ_=>True.intro,λy hy=>absurd rfl hy⟩
theorem vT {prog:Program}{w:World}{env:Env}{e:Expr}{f:Str}{pos:Pos}{s:Shared}{Q:Value->Shared->Prop}(hb:attributeBase e f env (eval e env)=eval e env)
 (h:wpAny (model prog w) A (eval e env) (λo s₁=>wpAny (model prog w) A (getAttr o f true) Q E s₁) E s):wpAny (model prog w) A (eval (.Attribute e f pos) env) Q E s:=
 Attribute_any_ h (by rw [arm_eval_Attribute,hb])
end
def BZ (K:PySem.W.Frag)(ta:TE)(f:Str):TE:=λσ H Q=>ta σ H λx H1=>∃a C dx fs v,x= .ref a/\H1 a=some (.ins C dx fs)/\jU K C/\eU K C f/\fs.lookup f=some v/\Q v H1
def BJ (K:PySem.W.Frag)(ta tv:TE)(f:Str):TS:=λD σ H=>tv σ H λy H1=>ta σ H1 λx H2=>∃a C dx fs,x= .ref a/\H2 a=some (.ins C dx fs)/\jU K C/\eU K C f/\fs.length < 1000/\
 D.nx σ (upd H2 a (.ins C dx (de f y fs)))
def wB (X:Cx)(op:Operator)(rd:V->V->Hp->VK->Prop):Prop:=
 ∀(pins:List (Addr×Obj)) (s:Shared) (σ:St) (H:Hp) (x y:V) (u v:Value) (Q:VK),Inv X pins σ H s->RelV x u->RelV y v->rd x y H Q->wpAny (model X.prog X.w) X.A (inplaceOp op u v) (EP X pins σ Q) X.xe s
def vB (K:PySem.W.Frag)(ta tv:TE)(rd:V->V->Hp->VK->Prop)(f:Str):TS:=λD σ H=>ta σ H λx H1=>∃a C dx fs v,x= .ref a/\H1 a=some (.ins C dx fs)/\jU K C/\eU K C f/\fs.lookup f=some v/\
 tv σ H1 λy H2=>rd v y H2 λz H3=>∃dx' fs',H3 a=some (.ins C dx' fs')/\fs'.length < 1000/\D.nx σ (upd H3 a (.ins C dx' (de f z fs')))
section
variable {X:Cx}{o e value:Expr}{f:Str}{pos pos' tpos:Pos}{ta tv:TE}
theorem dm (he:PE X e ta)(hb:attributeBase e f X.env (eval e X.env)=eval e X.env):PE X (.Attribute e f pos) (BZ X.K ta f):=by
 intro pins s σ H Q I h
 refine vT hb (aT (he pins s σ H _ I h) λu s1 ⟨x,H1,I1,rx,a,C,dx,fs,v,ex,ea,c,n,l,q⟩=>?_)
 subst ex
 obtain rfl:u=Value.ref a:=rx
 exact jF I1 ea c n l λu' s2 I2 ru=>⟨v,H1,I2,ru,q⟩
theorem qV (ha:PE X o ta)(hv:PE X value tv)(hs:swapsWith value (some (.Attribute o f pos')) pos.line X.env=pure false):PS X (.Assign [.Attribute o f pos'] value pos) (BJ X.K ta tv f):=by
 intro pins s σ H D I h
 refine plainObj_wpAny_Assign_Attribute (aT (hv pins s σ H _ I h) λu s1 ⟨y,H1,I1,ry,q⟩=>aT (ha pins s1 σ H1 _ I1 q) λov s2 ⟨x,H2,I2,rx,a,C,dx,fs,ex,ea,c,n,l,q2⟩=>?_) hs
 subst ex
 obtain rfl:ov=Value.ref a:=rx
 exact jL I2 ea c n l ry λs3 I3=>⟨σ,_,I3,q2⟩
theorem qQ {op:Operator}{rd:V->V->Hp->VK->Prop}(ha:PE X o ta)(hv:PE X value tv)(hop:wB X op rd):PS X (.AugAssign (.Attribute o f tpos) op value pos) (vB X.K ta tv rd f):=by
 intro pins s σ H D I h
 refine wpAny_AugAssign_AttributeAny (aT (ha pins s σ H _ I h) λov s1 ⟨x,H1,I1,rx,a,C,dx,fs,v,ex,ea,c,n,l,q⟩=>?_)
 subst ex
 obtain rfl:ov=Value.ref a:=rx
 refine jF I1 ea c n l λu s2 I2 ru=>aT (hv pins s2 σ H1 _ I2 q) λw3 s3 ⟨y,H2,I3,ry,q3⟩=>aT (hop pins s3 σ H2 v y u w3 _ I3 ru ry q3) λw4 s4 ⟨z,H3,I4,rz,dx',fs',ea',l',q4⟩=>?_
 exact jL I4 ea' c n l' rz λs5 I5=>⟨σ,_,I5,q4⟩
def BP:V->V->Hp->VK->Prop:=λx y H Q=>∃i j,x= .int i/\y= .int j/\Q (.int (i + j)) H
theorem xv:wB X .Add BP:=by
 rintro pins s σ H x y u v Q I rx ry ⟨i,j,rfl,rfl,q⟩
 obtain ⟨t,rfl⟩:=(show∃t,u=Value.int i t from rx)
 obtain ⟨t',rfl⟩:=(show∃t',v=Value.int j t' from ry)
 exact PyProof.Rows.iadd_int ⟨.int (i + j),H,I.tok _,⟨_,rfl⟩,q⟩
end
section
variable {X:Cx}{pins:List (Addr×Obj)}{σ:St}{H:Hp}{s:Shared}{A:Around}{E:Value->Shared->Prop}{Q:Value->Shared->Prop}{c:Value}{b:Bool}
inductive dk (K:PySem.W.Frag) (H:Hp):V->Value->Prop where
 | non:dk K H .non (.type "NoneType")
 | bl (x:Bool):dk K H (.bl x) (.type "bool")
 | int (i:Int):dk K H (.int i) (.type "int")
 | str (x:Str):dk K H (.str x) (.type "str")
 | flt (x:UInt64):dk K H (.flt x) (.type "float")
 | lst {a:Addr} {xs:List V} (e:H a=some (.lst xs)):dk K H (.ref a) (.type "list")
 | frz {a:Addr} {o:Obj} {xs:List V} (e:H a=some (.frz o (.lst xs))):dk K H (.ref a) (.type "list")
 | tup {a:Addr} {xs:List V} (e:H a=some (.tup xs)):dk K H (.ref a) (.type "tuple")
 | dK {a:Addr} {kvs:List (Key×V)} (e:H a=some (.dK kvs)):dk K H (.ref a) (.type "dict")
 | dT {a:Addr} {kvs:List (List Key×V)} (e:H a=some (.dT kvs)):dk K H (.ref a) (.type "dict")
 | ins {a C dx:Addr} {fs:List (Str×V)} (e:H a=some (.ins C dx fs)) (cl:jU K C) (ha:PySem.W.findIn K (.ref C) "__class__"=some (some (.builtin "object.__class__")))
  (hn:PySem.W.specialIn K (.builtin "object.__class__") "__get__"=some (some (.builtin "getset_descriptor.__get__"))) (htk:PySem.W.takesIn K (.builtin "object.__class__")=some true)
  (hm:PySem.W.mroIn K C (.type "object")=some true):dk K H (.ref a) (.ref C)
theorem rg {x:V}{u t:Value}(I:Inv X pins σ H s)(rx:RelV x u)(ty:dk X.K H x t)(e:PySem.W.kitOne X.K t c=some b)(h:∀tk,Q (.bool b) {s with toks:=tk}):
 wpAny (model X.prog X.w) A (call (.builtin "isinstance") [u,c]) Q E s:=by
 cases ty with
 | non=>cases (show u=Value.none from rx);exact PySem.W.kia_one PySem.W.kitx_none I.cO True.intro e (λz=>nomatch z) h
 | bl y=>cases (show u=Value.bool y from rx);exact PySem.W.kia_one PySem.W.kitx_bool I.cO True.intro e (λz=>nomatch z) h
 | int i=>obtain ⟨t,q⟩:=(show∃t,u=Value.int i t from rx);cases q;exact PySem.W.kia_one PySem.W.kitx_int I.cO True.intro e (λz=>nomatch z) h
 | str y=>obtain ⟨t,q⟩:=(show∃t,u=Value.str y t from rx);cases q;exact PySem.W.kia_one PySem.W.kitx_str I.cO True.intro e (λz=>nomatch z) h
 | flt y=>obtain ⟨t,q⟩:=(show∃t,u=Value.float y t from rx);cases q;exact PySem.W.kia_one PySem.W.kitx_float I.cO True.intro e (λz=>nomatch z) h
 | @lst a xs ea=>
   cases (show u=Value.ref a from rx)
   obtain ⟨_,_,n,_,h1⟩:=(show bG X.prog X.w H s.heap a (.lst xs) from I.hok a _ ea)
   exact PySem.W.kia_one PySem.W.kitx_list I.cO ⟨_,h1,rfl⟩ e (λz=>nomatch z) h
 | @frz a ob xs ea=>
   cases (show u=Value.ref a from rx)
   obtain ⟨_,_,_,n,_,h1⟩:=(show bG X.prog X.w H s.heap a (.frz ob (.lst xs)) from I.hok a _ ea)
   exact PySem.W.kia_one PySem.W.kitx_list I.cO ⟨_,h1,rfl⟩ e (λz=>nomatch z) h
 | @tup a xs ea=>
   cases (show u=Value.ref a from rx)
   obtain ⟨_,_,_,p⟩:=(show bG X.prog X.w H s.heap a (.tup xs) from I.hok a _ ea)
   obtain ⟨o,h1,h2,_⟩:=p
   exact PySem.W.kia_one PySem.W.kitx_tuple I.cO ⟨o,h1,h2⟩ e (λz=>nomatch z) h
 | @dK a kvs ea=>
   cases (show u=Value.ref a from rx)
   obtain ⟨_,_,vs,_,p⟩:=(show bG X.prog X.w H s.heap a (.dK kvs) from I.hok a _ ea)
   obtain ⟨o,es,ep,h1,h2,_⟩:=p
   exact PySem.W.kia_one PySem.W.kitx_dict I.cO ⟨o,h1,h2.1⟩ e (λz=>nomatch z) h
 | @dT a kvs ea=>
   cases (show u=Value.ref a from rx)
   obtain ⟨_,_,xs,_,o,es,ep,h1,h2,_⟩:=(show bG X.prog X.w H s.heap a (.dT kvs) from I.hok a _ ea)
   exact PySem.W.kia_one PySem.W.kitx_dict I.cO ⟨o,h1,h2.1⟩ e (λz=>nomatch z) h
 | @ins a C dx fs ea cl ha hn htk hm=>
   cases (show u=Value.ref a from rx)
   obtain ⟨mA,O,_⟩:=kx I.hok ea
   obtain ⟨od,J,_⟩:=O.look
   exact PySem.W.kia_one (PySem.W.kitx_own (cl.get _) cl.hd ha hn htk hm) I.cO J e (λz=>nomatch z) h
end
section
variable {A:Around}
structure bj (k:Nat) (A:Around):Prop where
 hd:A.handled=none
 dp:A.depth + 3 * k + 5 < recursionLimit
 un:A.units + 16 * k + 200 < cLine
theorem bj.mono {j k:Nat}(r:bj k A)(h:j<=k):bj j A:=⟨r.hd,by have:=r.dp;omega,by have:=r.un;omega⟩
theorem bj.deeper {k:Nat}(r:bj (k + 1) A)(env:Env):bj k (A.deeper env):=
 ⟨r.hd,by have:=r.dp;show A.depth + 1 + 3 * k + 5 < _;omega,by have:=r.un;show A.units + 3 + 16 * k + 200 < _;omega⟩
theorem oC {C:Addr}{us:List Value}{kw:List (Str×Value)}:(A.under (.builtin "type.__call__" ⟨.ref C::us,kw⟩)).depth=A.depth + 1:=by
 first | rfl | simp [Around.under,Code.weight,Code.isCreation,Code.isGuard,Code.isCaller,Code.frames,Code.isFrame,guardIds]
theorem oQ {C:Addr}{us:List Value}{kw:List (Str×Value)}:(A.under (.builtin "type.__call__" ⟨.ref C::us,kw⟩)).units=A.units + 1:=by
 first | rfl | simp [Around.under,Code.cUnits,Code.frames,Code.isFrame]
theorem bj.make {k:Nat}(r:bj (k + 1) A)(C:Addr)(us:List Value)(kw:List (Str×Value)):bj k (A.under (.builtin "type.__call__" ⟨.ref C::us,kw⟩)):=
 ⟨r.hd,by have:=r.dp;rw [oC];omega,by have:=r.un;rw [oQ];omega⟩
theorem bj.depth {k:Nat}(r:bj k A):A.depth < recursionLimit:=by have:=r.dp;omega
theorem bj.units {k:Nat}(r:bj k A):A.units + 64 < cLine:=by have:=r.un;omega
def wQ:TA:=λ_ H Q=>Q [] H
def zy (ta:TE)(tr:TA):TA:=λσ H Q=>ta σ H λx H1=>tr σ H1 λxs H2=>Q (x::xs) H2
end
section
variable {X:Cx}{e:Expr}{es:List Expr}{te:TE}{t:TA}{pos:Pos}
theorem br:PA X [] wQ:=λ_ _ _ _ H Q I h=>Calls.spliced_nil ⟨[],H,I,.nil,h⟩
theorem aH (ha:PE X e te)(hr:PA X es t)(hs:starEach (e::es) X.env=(false,eval e X.env)::starEach es X.env:=by rfl):PA X (e::es) (zy te t):=by
 intro pos pins s σ H Q I h
 rw [hs]
 show wpAny _ _ (spliced ((false,eval e X.env)::backTo pos (starEach es X.env))) _ _ s
 refine Calls.spliced_cons (aT (ha pins s σ H _ I h) λu s1 ⟨x,H1,I1,r1,q1⟩=>?_)
 exact aT (hr pos pins s1 σ H1 _ I1 q1) λus s2 ⟨xs,H2,I2,r2,q2⟩=>⟨x::xs,H2,I2,.cons r1 r2,q2⟩
def Bq (t:TA):TE:=λσ H Q=>t σ H λxs H1=>xs.length<=sizeLine/\∀p,H1 p=none->Q (.ref p) (upd H1 p (.tup xs))
def BC (t:TA):TE:=λσ H Q=>t σ H λxs H1=>xs.length<=sizeLine/\∀p,H1 p=none->Q (.ref p) (upd H1 p (.lst xs))
theorem fF {x1}(h:PA X es t):PE X (.Tuple es x1 pos) (Bq t):=by
 intro pins s σ H Q I hq
 refine wpAny_Tuple_spliced (aT (h pos pins s σ H _ I hq) λus s1 ⟨xs,H1,I1,r,z,q⟩=>⟨by rw [← r.length];exact z,?_⟩)
 have hf:H1 s1.heap.objs.size=none:=I1.hok.fresh (Nat.le_refl _)
 refine ⟨.ref s1.heap.objs.size,upd H1 s1.heap.objs.size (.tup xs),I1.laid (t':=s1.toks) (λb u e=>Heap.get?_push_of_some _ e) (Nat.le_refl _) ?_,rfl,q _ hf⟩
 exact ⟨z,us,r,⟨_,Heap.get?_push_size _ rfl,rfl,_,rfl⟩⟩
theorem mE (h:PA X es t):PE X (.List es pos) (BC t):=by
 intro pins s σ H Q I hq
 refine wpAny_List_spliced (aT (h pos pins s σ H _ I hq) λus s1 ⟨xs,H1,I1,r,z,q⟩=>⟨by rw [← r.length];exact z,?_⟩)
 have hf:H1 s1.heap.objs.size=none:=I1.hok.fresh (Nat.le_refl _)
 refine ⟨.ref s1.heap.objs.size,upd H1 s1.heap.objs.size (.lst xs),I1.laid (t':=s1.toks) (λb u e=>Heap.get?_push_of_some _ e) (Nat.le_refl _) ?_,rfl,q _ hf⟩
 exact ⟨z,us,0,r,Heap.get?_push_size _ rfl⟩
end
abbrev Sp:=List V->Hp->VK->XK->Prop
abbrev gx:=List Env->Hp->Shared->XK->Value->Shared->Prop
structure jj (P:Program) (w:World) (K:PySem.W.Frag) (mg:Str->Option Value) (base:Heap) (A:Around) (outer:List Env) (s:Shared) (H:Hp):Prop where
 frames:A.frames=some outer
 mod:Mod K mg base
 bs:∀b o,base.get? b=some o->s.heap.get? b=some o/\H b=none
 bsz:base.objs.size<=s.heap.objs.size
 funs:s.heap.FunFrames base outer
 frf:∀b∈bR outer,H b=none
 hok:bY P w H s.heap
 bare:AllBare s.gens
def CE (outer:List Env)(P:Program)(w:World)(H:Hp)(s:Shared)(Q:VK)(u:Value)(s':Shared):Prop:=
 ∃v H',s'.os=s.os/\AllBare s'.gens/\Un (bR outer) [] H H' s.heap s'.heap/\bY P w H' s'.heap/\RelV v u/\Q v H'
def CR (CX:gx)(outer:List Env)(P:Program)(w:World)(H:Hp)(s:Shared)(Q:VK)(E:XK)(r:Result)(s':Shared):Prop:=
 match r with
 | .ok (.ret u)=>CE outer P w H s Q u s'
 | .ok _=>False
 | .error e=>CX outer H s E e s'
structure cJ (P:Program) (w:World) (K:PySem.W.Frag) (mg:Str->Option Value) (base:Heap) (CX:gx) (k:Nat) (f:Addr) (fd:FuncData) (ps:List Str) (sp:Sp):Prop where
 len:∀vs H Q E,sp vs H Q E->vs.length=ps.length
 run:∀(A:Around) (outer:List Env) (s:Shared) (H:Hp) (args:Args) (us:List Value) (vs:List V) (Q:VK) (E:XK),bj k A->jj P w K mg base A outer s H->BindsTo s fd args (ps.zip us)->Vals vs us->sp vs H Q E->
  codeAny (model P w) A (.call (.ref f) args) (CR CX outer P w H s Q E) s
theorem cJ.mono {P:Program}{w:World}{K:PySem.W.Frag}{mg:Str->Option Value}{base:Heap}{CX:gx}{j k:Nat}{f:Addr}{fd:FuncData}{ps:List Str}{sp:Sp}(F:cJ P w K mg base CX j f fd ps sp)(h:j<=k):
 cJ P w K mg base CX k f fd ps sp:=⟨F.len,λA outer s H args us vs Q E hr=>F.run A outer s H args us vs Q E (hr.mono h)⟩
theorem jj.make {P:Program}{w:World}{K:PySem.W.Frag}{mg:Str->Option Value}{base:Heap}{A:Around}{outer:List Env}{s:Shared}{H:Hp}(e:jj P w K mg base A outer s H)(C:Addr)(us:List Value)(kw:List (Str×Value)):
 jj P w K mg base (A.under (.builtin "type.__call__" ⟨.ref C::us,kw⟩)) outer s H:=⟨by first | exact e.frames | (simpa [Around.under,Code.envs,Code.isFrame,pushEnvs] using e.frames),e.mod,e.bs,e.bsz,e.funs,e.frf,e.hok,e.bare⟩
section
variable {X:Cx}{pins:List (Addr×Obj)}{σ:St}{H:Hp}{s s':Shared}
theorem Inv.rE (I:Inv X pins σ H s):jj X.prog X.w X.K X.mg X.base X.A X.stack s H:=
 ⟨I.ok.frames,I.ok.mod,I.bs,Nat.le_trans I.ok.bsz I.sz,I.stack,I.ft,I.hok,I.bare⟩
theorem Inv.after {Q:VK}{u:Value}(I:Inv X pins σ H s)(h:CE X.stack X.prog X.w H s Q u s'):EP X pins σ Q u s':=by
 obtain ⟨v,H',os,bare,un,hok,r,q⟩:=h
 obtain ⟨hh,g,d,t,os'⟩:=s'
 obtain rfl:os'=s.os:=os
 exact ⟨v,H',I.call (h':=hh) (g':=g) (d':=d) (t':=t) (ch:=[]) un hok bare (λb z=>absurd z (by simp)),r,q⟩
end
def uC (sp:Sp)(dvs:List V)(E:XK)(t:TA):TE:=λσ H Q=>t σ H λvs H1=>sp (vs++dvs) H1 Q E
def zU (C:Addr)(sp:Sp)(dvs:List V)(E:XK)(t:TA):TE:=λσ H Q=>t σ H λvs H1=>∀x dx,H1 x=none->H1 dx=none->dx≠x->
 sp (.ref x::(vs++dvs)) (upd (upd H1 dx (.own x)) x (.ins C dx [])) (λv H2=>v= .non/\Q (.ref x) H2) E
def Binds (K:PySem.W.Frag)(fd:FuncData)(ps:List Str)(ds:List Value):Prop:=
 ∀(s:Shared) (us:List Value),K.In s.heap->(us++ds).length=ps.length->BindsTo s fd ⟨us,[]⟩ (ps.zip (us++ds))
theorem Binds.all {K:PySem.W.Frag}{fd:FuncData}{ps:List Str}(h:∀us:List Value,us.length=ps.length->bindArgs fd ⟨us,[]⟩=pure (ps.zip us)):Binds K fd ps []:=λs us _ hl=>by
 rw [List.append_nil] at hl ⊢
 exact .of_eq (h us hl)
def Passes (CX:gx)(X:Cx)(E:XK):Prop:=∀(pins:List (Addr×Obj)) (σ:St) (H:Hp) (s:Shared) (e:Value) (s':Shared),Inv X pins σ H s->CX X.stack H s E e s'->X.xe e s'
section
variable {X:Cx}{CX:gx}{k:Nat}{f C:Addr}{fd:FuncData}{ps:List Str}{sp:Sp}{dvs:List V}{ds:List Value}{E:XK}{x m:Str}{p pos apos:Pos}{e o:Expr}{es:List Expr}{ta:TE}{t:TA}
theorem qk {pins:List (Addr×Obj)}{σ:St}{H:Hp}{s:Shared}{Q:VK}{us:List Value}{vs:List V}(F:cJ X.prog X.w X.K X.mg X.base CX k f fd ps sp)(hr:bj k X.A)(hb:Binds X.K fd ps ds)(hd:Vals dvs ds)(hx:Passes CX X E)
 (I:Inv X pins σ H s) (r:Vals vs us) (h:sp (vs++dvs) H Q E):wpAny (model X.prog X.w) X.A (call (.ref f) us) (EP X pins σ Q) X.xe s:=by
 have r2:Vals (vs++dvs) (us++ds):=r.append hd
 have hl:(us++ds).length=ps.length:=by rw [← r2.length];exact F.len _ _ _ _ h
 refine wpAny_call (codeAny_mono (F.run X.A X.stack s H ⟨us,[]⟩ (us++ds) (vs++dvs) Q E hr I.rE (hb s us I.cO hl) r2 h) λr s' hq=>?_)
 cases r with
 | error e=>exact hx pins σ H s e s' I hq
 | ok fl=>
   cases fl with
   | ret u=>exact I.after hq
   | next=>exact False.elim hq
   | brk=>exact False.elim hq
   | cont=>exact False.elim hq
theorem iM (F:cJ X.prog X.w X.K X.mg X.base CX k f fd ps sp)(hr:bj k X.A)(hg:Gl X x)(hm:X.mg x=some (.ref f))(hk:PySem.W.keepIn X.K (.ref f)=true)(hb:Binds X.K fd ps ds)(hd:Vals dvs ds)(hx:Passes CX X E)
 (ha:PA X (e::es) t) (hdb:(x==("__debug__":Str))=false:=by decide) (he:starEach (e::es) X.env=(false,eval e X.env)::starEach es X.env:=by rfl) (hpl:(backTo pos (starEach es X.env)).any (·.1)=false:=by rfl):
 PE X (.Call (.Name x p) (e::es) [] pos) (uC sp dvs E t):=by
 intro pins s σ H Q I h
 refine wpAny_Call_Name_kw (eG I hg hm ?_ hdb)
 refine PySem.W.callWith_K (h₀:=X.base) I.ok.mod.kin hk (aT (ha pos pins s σ H _ I h) λus s1 ⟨vs,H1,I1,r,q⟩=>⟨I1.cO,?_⟩) he hpl
 exact qk F hr hb hd hx I1 r q
theorem my (F:cJ X.prog X.w X.K X.mg X.base CX k f fd ps sp)(hr:bj k X.A)(hg:Gl X x)(hm:X.mg x=some (.ref f))(hk:PySem.W.keepIn X.K (.ref f)=true)(hb:Binds X.K fd ps ds)(hd:Vals dvs ds)(hx:Passes CX X E)
 (hdb:(x==("__debug__":Str))=false:=by decide):PE X (.Call (.Name x p) [] [] pos) (uC sp dvs E wQ):=by
 intro pins s σ H Q I h
 refine wpAny_Call_Name_kw (eG I hg hm ?_ hdb)
 exact PySem.W.callWith_K0 I.cO hk (qk (us:=[]) F hr hb hd hx I .nil h)
structure Mk (K:PySem.W.Frag) (C f:Addr):Prop where
 makes:PySem.W.makesIn K C=true
 init:PySem.W.findIn K (.ref C) "__init__"=some (some (.ref f))
 fn:PySem.W.isFn K (.ref f)=true
 kp:PySem.W.keepIn K (.ref C)=true
theorem sW {pins:List (Addr×Obj)}{σ:St}{H:Hp}{s:Shared}{Q:VK}{us:List Value}{vs:List V}(M:Mk X.K C f)(F:cJ X.prog X.w X.K X.mg X.base CX k f fd ps sp)(hr:bj (k + 1) X.A)(hb:Binds X.K fd ps ds)(hd:Vals dvs ds)
 (hx:Passes CX X E) (I:Inv X pins σ H s) (r:Vals vs us)
 (h:∀x dx,H x=none->H dx=none->dx≠x->sp (.ref x::(vs++dvs)) (upd (upd H dx (.own x)) x (.ins C dx [])) (λv H2=>v= .non/\Q (.ref x) H2) E):
 wpAny (model X.prog X.w) X.A (call (.ref C) us) (EP X pins σ Q) X.xe s:=by
 have hq:=h (s.heap.objs.size + 1) s.heap.objs.size (I.hok.fresh (Nat.le_succ _)) (I.hok.fresh (Nat.le_refl _)) (Nat.ne_of_lt (Nat.lt_succ_self _))
 have I2:=Inv.made (C:=C) I
 have r2:Vals (V.ref (s.heap.objs.size + 1)::(vs++dvs)) (Value.ref (s.heap.objs.size + 1)::(us++ds)):=.cons rfl (r.append hd)
 have hl:(Value.ref (s.heap.objs.size + 1)::us++ds).length=ps.length:=by
  have e:=r2.length
  rw [F.len _ _ _ _ hq] at e
  exact e.symm
 refine wpAny_call (rT (f:=f) I.cO M.makes M.init (beq_iff_eq.mp M.fn) (codeAny_mono (F.run _ X.stack _ _ ⟨Value.ref (s.heap.objs.size + 1)::us,[]⟩ (Value.ref (s.heap.objs.size + 1)::(us++ds)) _ _ E (hr.make C us [])
  (I2.rE.make C us []) (hb _ (Value.ref (s.heap.objs.size + 1)::us) I2.cO hl) r2 hq) λr s' hq'=>?_))
 cases r with
 | error e=>exact hx pins σ _ _ e s' I2 hq'
 | ok fl=>
   cases fl with
   | ret u=>
     obtain ⟨v,H',I3,rv,ev,q3⟩:=I2.after hq'
     subst ev
     exact ⟨rv,⟨V.ref (s.heap.objs.size + 1),H',I3,rfl,q3⟩⟩
   | next=>exact False.elim hq'
   | brk=>exact False.elim hq'
   | cont=>exact False.elim hq'
theorem uR (M:Mk X.K C f)(F:cJ X.prog X.w X.K X.mg X.base CX k f fd ps sp)(hr:bj (k + 1) X.A)(hg:Gl X x)(hm:X.mg x=some (.ref C))(hb:Binds X.K fd ps ds)(hd:Vals dvs ds)(hx:Passes CX X E)
 (ha:PA X (e::es) t) (hdb:(x==("__debug__":Str))=false:=by decide) (he:starEach (e::es) X.env=(false,eval e X.env)::starEach es X.env:=by rfl) (hpl:(backTo pos (starEach es X.env)).any (·.1)=false:=by rfl):
 PE X (.Call (.Name x p) (e::es) [] pos) (zU C sp dvs E t):=by
 intro pins s σ H Q I h
 refine wpAny_Call_Name_kw (eG I hg hm ?_ hdb)
 refine PySem.W.callWith_K (h₀:=X.base) I.ok.mod.kin M.kp (aT (ha pos pins s σ H _ I h) λus s1 ⟨vs,H1,I1,r,q⟩=>⟨I1.cO,?_⟩) he hpl
 exact sW M F hr hb hd hx I1 r q
end
section
variable {X:Cx}{CX:gx}{k:Nat}{f C:Addr}{fd:FuncData}{ps ks:List Str}{sp:Sp}{E:XK}{x m:Str}{p pos apos kpos:Pos}{e o:Expr}{es:List Expr}{kws:List Keyword}{te ta:TE}{t tk:TA}{nm:Option Str}
variable {g:List Value->List Value->List Value}{gV:List V->List V->List V}
end
structure aU (N P:List Str) (sc:Scope):Prop where
 kind:sc.kind= .function
 co:sc.isCoroutine=false
 gen:sc.isGenerator=false
 nd:N.Nodup
 pre:N.take P.length=P
 par:∀x∈P,sc.names.lookup x=some .local∨sc.names.lookup x=some .cell
 nofree:∀y∈sc.names,y.2≠ .free
theorem kZ {kindOf:Str->Option NameKind}{x:Str}:∀{binds:List (Str×Value)} {m:Str->Option Value},(∀v,(x,v)∉binds)->bindL kindOf binds m x=m x
 | [],_,_=>rfl
 | (n,v)::r,m,h=>by
   unfold bindL
   rw [kZ λw hw=>h w (List.mem_cons_of_mem _ hw)]
   split
   ·have:x≠n:=by rintro rfl;exact h v List.mem_cons_self
    simp [this]
   ·rfl
theorem kS {kindOf:Str->Option NameKind}{x:Str}:∀{binds:List (Str×Value)} {m:Str->Option Value},(∀v,(x,v)∉binds)->bindC kindOf binds m x=m x
 | [],_,_=>rfl
 | (n,v)::r,m,h=>by
   unfold bindC
   rw [kS λw hw=>h w (List.mem_cons_of_mem _ hw)]
   split
   ·rfl
   ·have:x≠n:=by rintro rfl;exact h v List.mem_cons_self
    simp [this]
theorem kP {kindOf:Str->Option NameKind}{x:Str}{v:Value}:∀{P:List Str} {vs:List Value} {i:Nat} {m:Str->Option Value},P.Nodup->P[i]?=some x->vs[i]?=some v->kindOf x=some .local->
 bindL kindOf (P.zip vs) m x=some v
 | [],_,_,_,_,h,_,_=>by simp at h
 | _::_,[],_,_,_,_,h,_=>by simp at h
 | p::P,w::vs,0,m,nd,h1,h2,hk=>by
   simp at h1 h2;subst h1;subst h2
   show bindL kindOf ((p,w)::P.zip vs) m p=_
   unfold bindL
   rw [kZ λv hv=>(List.nodup_cons.mp nd).1 (List.of_mem_zip hv).1,if_pos hk]
   simp
 | p::P,w::vs,i + 1,m,nd,h1,h2,hk=>by
   show bindL kindOf ((p,w)::P.zip vs) m x=_
   unfold bindL
   exact kP (i:=i) (List.nodup_cons.mp nd).2 (by simpa using h1) (by simpa using h2) hk
theorem kU {kindOf:Str->Option NameKind}{x:Str}{v:Value}:∀{P:List Str} {vs:List Value} {i:Nat} {m:Str->Option Value},P.Nodup->P[i]?=some x->vs[i]?=some v->kindOf x≠some .local->
 bindC kindOf (P.zip vs) m x=some v
 | [],_,_,_,_,h,_,_=>by simp at h
 | _::_,[],_,_,_,_,h,_=>by simp at h
 | p::P,w::vs,0,m,nd,h1,h2,hk=>by
   simp at h1 h2;subst h1;subst h2
   show bindC kindOf ((p,w)::P.zip vs) m p=_
   unfold bindC
   rw [kS λv hv=>(List.nodup_cons.mp nd).1 (List.of_mem_zip hv).1,if_neg hk]
   simp
 | p::P,w::vs,i + 1,m,nd,h1,h2,hk=>by
   show bindC kindOf ((p,w)::P.zip vs) m x=_
   unfold bindC
   exact kU (i:=i) (List.nodup_cons.mp nd).2 (by simpa using h1) (by simpa using h2) hk
def start (N:List Str)(vs:List V):St:=vs.map some++List.replicate (N.length - vs.length) none
def cf (CX:gx)(P:Program)(w:World)(K:PySem.W.Frag)(mg:Str->Option Value)(base:Heap)(N:List Str)(qual:Str)(scope:Scope)(f:Addr)(cd:Value)(A:Around)(outer:List Env)(s:Shared)(H:Hp)(E:XK):Cx where
 prog:=P
 w:=w
 K:=K
 mg:=mg
 base:=base
 A:=A.deeper (envOfC qual scope s.heap.objs.size f cd)
 N:=N
 s₀:=s
 H₀:=H
 env:=envOfC qual scope s.heap.objs.size f cd
 outer:=outer
 stack:=envOfC qual scope s.heap.objs.size f cd::outer
 ex:=[]
 calm:=true
 fn:=λ_=>true
 pn:=[]
 xe:=λe s'=>wpAny (model P w) (A.deeper (envOfC qual scope s.heap.objs.size f cd)) (leaving (envOfC qual scope s.heap.objs.size f cd) e) (λ_ s''=>CX outer H s E e s'') (λe' s''=>CX outer H s E e' s'') s'
theorem cx {sc:Scope}{n:Nat}{x:Str}(h:sc.names.lookup x=some .cell):∃c,(cellsFrom n sc.names []).lookup x=some c:=by
 have q:=PySem.W.cellsFrom_some sc.names n [] (.inl h)
 exact Option.isSome_iff_exists.mp q
theorem qC {CX:gx}{P:Program}{w:World}{K:PySem.W.Frag}{mg:Str->Option Value}{base:Heap}{N ps:List Str}{qual:Str}{scope:Scope}{f:Addr}{cd:Value}{A:Around}{outer:List Env}{s s1:Shared}{H:Hp}{E:XK}{us:List Value}{vs:List V}
 (S:aU N ps scope) (hd:A.handled=none) (e0:jj P w K mg base A outer s H) (hl:vs.length=ps.length) (r:Vals vs us)
 (x:InCallC s s.heap.objs.size (bindL (envOfC qual scope s.heap.objs.size f cd).kindOf (ps.zip us) λ_=>none) (cellsFrom (s.heap.objs.size + 1) scope.names []) (bindC (envOfC qual scope s.heap.objs.size f cd).kindOf (ps.zip us) λ_=>none) s1):
 Inv (cf CX P w K mg base N qual scope f cd A outer s H E) [] (start N vs) H s1:=by
 have hpl:ps.length<=N.length:=by have:=congrArg List.length S.pre;rw [List.length_take] at this;omega
 obtain ⟨h1,tk,rfl,hk⟩:=x.done
 have noA:∀b:Addr,b∉(cf CX P w K mg base N qual scope f cd A outer s H E).ex:=λb z=>absurd (show b∈([]:List Addr) from z) (by simp)
 refine ⟨⟨e0.mod,S.kind,rfl,rfl,Nat.le_refl _,λy z c h1 h2=>?_,λy hy=>?_,λy c _ h=>?_,λ_=>hd,Around.frames_deeper e0.frames,.inr ⟨rfl,rfl⟩,λb z=>absurd z (noA b),e0.bs,e0.bsz,λb _ _=>noA b,λb z=>absurd z (noA b),e0.funs,e0.frf⟩,
  rfl,e0.bare,Un.kept hk,⟨_,x.toInCall.ns,λi y v h1 h2 h3=>?_⟩,λy c h=>⟨_,x.cell y c h⟩,e0.hok.fresh (Nat.le_refl _),λy c h=>?_,λp hp=>absurd (show p∈([]:List (Addr×Obj)) from hp) (by simp),e0.hok.kept hk,?_⟩
 ·exact name_of_addr x.apart (PySem.mem_of_lookup h1) (PySem.mem_of_lookup h2)
 ·have hy:scope.names.lookup y=some .cell∨scope.names.lookup y=some .free:=hy
  rcases hy with hy | hy
  ·exact cx hy
  ·exact absurd rfl (S.nofree _ (PySem.mem_of_lookup hy))
 ·exact Nat.le_of_lt (x.above y c (PySem.mem_of_lookup h))
 ·have hi:i < vs.length:=by
   unfold start at h2
   by_cases hi:i < vs.length
   ·exact hi
   ·rw [List.getElem?_append_right (by simpa using hi)] at h2
    rw [List.getElem?_replicate] at h2
    split at h2<;>cases h2
  have ha:vs[i]?=some v:=by
   unfold start at h2
   rw [List.getElem?_append_left (by simpa using hi),List.getElem?_map] at h2
   cases e:vs[i]? with
   | none=>rw [e] at h2;cases h2
   | some a=>rw [e] at h2;cases h2;rfl
  obtain ⟨u,hu,rv⟩:=r.get ha
  have hp:ps[i]?=some y:=by
   rw [← S.pre,List.getElem?_take_of_lt (by omega)];exact h1
  have ndP:ps.Nodup:=by rw [← S.pre];exact S.nd.sublist (List.take_sublist _ _)
  refine ⟨u,rv,?_⟩
  rcases S.par y (List.mem_of_getElem? hp) with k | k
  ·exact .inl ⟨k,kP ndP hp hu k⟩
  ·obtain ⟨c,e⟩:=cx (n:=s.heap.objs.size + 1) k
   refine .inr ⟨.inl k,c,e,?_⟩
   have q:=x.cell y c e
   rw [kU ndP hp hu (by show scope.names.lookup y≠_;rw [k];decide)] at q
   exact q
 ·exact e0.hok.fresh (Nat.le_of_lt (x.above y c (PySem.mem_of_lookup h)))
 ·unfold start
  show _=N.length
  rw [List.length_append,List.length_map,List.length_replicate]
  omega
theorem uk {CX:gx}{P:Program}{w:World}{K:PySem.W.Frag}{mg:Str->Option Value}{base:Heap}{k:Nat}{f:Addr}{name qual:Str}{params:Arguments}{body:List Stmt}{scope:Scope}{dV kV doc pm cdv ct oc:Value}{an od:Option Addr}
 {osl:Array (Option Value)} {N ps:List Str} {sp:Sp} (lk:K.lookup f=some ⟨oc,od,.func (PySem.W.fnOf name qual params body scope dV kV doc pm an cdv ct),osl⟩) (hcd:PySem.W.codeIn K cdv qual=true) (S:aU N ps scope)
 (len:∀vs H Q E,sp vs H Q E->vs.length=ps.length)
 (hbody:∀(A:Around) (outer:List Env) (s:Shared) (H:Hp) (vs:List V) (Q:VK) (E:XK),bj k (A.deeper (envOfC qual scope s.heap.objs.size f cdv))->sp vs H Q E->
  ∃t,eZ (cf CX P w K mg base N qual scope f cdv A outer s H E) body t/\t {nx:=λ_ H'=>Q .non H',rt:=Q} (start N vs) H):
 cJ P w K mg base CX (k + 1) f (PySem.W.fnOf name qual params body scope dV kV doc pm an cdv ct) ps sp:=by
 refine ⟨len,λA outer s H args us vs Q E hr e0 hb r hsp=>?_⟩
 have hl:=len _ _ _ _ hsp
 have KX:K.In s.heap:=e0.mod.kin.keeps λb o e=>(e0.bs b o e).1
 have lim:s.heap.NoLimit:=e0.mod.nolimit.keeps λb o e=>(e0.bs b o e).1
 have hkind:∀y∈ps.zip us,scope.names.lookup y.1=some .local∨(scope.names.lookup y.1=some .cell/\((cellsFrom (s.heap.objs.size + 1) scope.names []).lookup y.1).isSome=true):=λ⟨n,v⟩ hy=>by
  rcases S.par n (List.of_mem_zip hy).1 with q | q
  ·exact .inl q
  ·exact .inr ⟨q,PySem.W.cellsFrom_some _ _ _ (.inl q)⟩
 refine codeAny_call_function hr.depth (KX _ _ lk) rfl S.co S.gen rfl (PySem.W.codeRec_of KX hcd) (hb _ _ _ _ ?_)
 refine wpAny_newFunctionEnv_cells S.kind hkind λenv he s1 x=>?_
 subst he
 refine ⟨lim.keeps x.toInCall.keep,codeAny_func ?_⟩
 obtain ⟨t,ht,hq⟩:=hbody A outer s H vs Q E (hr.deeper _) hsp
 have I:Inv (cf CX P w K mg base N qual scope f cdv A outer s H E) [] (start N vs) H s1:=qC S hr.hd e0 hl r x
 refine wpAny_mono (ht [] s1 (start N vs) H _ I hq) (λfl s' hs=>?_) λe s' hs=>hs
 have fin:∀{σ':St} {H':Hp} {v:V} {u:Value},Inv (cf CX P w K mg base N qual scope f cdv A outer s H E) [] σ' H' s'->RelV v u->Q v H'->CE outer P w H s Q u s':=
  λ{σ' H' v u} J rv q=>⟨v,H',J.os,J.bare,J.base,J.hok,rv,q⟩
 cases fl with
 | ret u=>
   obtain ⟨v,σ',H',J,rv,q⟩:=hs
   exact fin J rv q
 | next=>
   obtain ⟨σ',H',J,q⟩:=hs
   exact fin (v:=V.non) (u:=Value.none) J rfl q
 | brk=>
   obtain ⟨_,_,_,q⟩:=hs
   exact False.elim q
 | cont=>
   obtain ⟨_,_,_,q⟩:=hs
   exact False.elim q
section
variable {X:Cx}{x:Str}{p pos:Pos}{e:Expr}{es:List Expr}{t:TA}{id T:String}{r:List V->Hp->VK->Prop}
def Be (r:List V->Hp->VK->Prop)(t:TA):TE:=λσ H Q=>t σ H λvs H1=>r vs H1 Q
theorem cG (hc:dg X (.builtin id) r)(hg:Gl X x)(hm:X.mg x=none)(hv:bootBuiltins x=some (.builtin id))(ha:PA X (e::es) t)(hn:x≠"__name__":=by decide)(hdb:(x==("__debug__":Str))=false:=by decide)
 (he:starEach (e::es) X.env=(false,eval e X.env)::starEach es X.env:=by rfl) (hpl:(backTo pos (starEach es X.env)).any (·.1)=false:=by rfl):PE X (.Call (.Name x p) (e::es) [] pos) (Be r t):=by
 intro pins s σ H Q I h
 refine wpAny_Call_Name_kw (gi I hg hm hv ?_ hn hdb)
 exact PyProof.Rows.callWith_builtin1 (aT (ha pos pins s σ H _ I h) λus s1 ⟨vs,H1,I1,r1,q1⟩=>hc pins s1 σ H1 vs us Q I1 r1 q1) he hpl
theorem eW (hc:dg X (.type T) r)(hg:Gl X x)(hm:X.mg x=none)(hv:bootBuiltins x=some (.type T))(ha:PA X (e::es) t)(hn:x≠"__name__":=by decide)(hdb:(x==("__debug__":Str))=false:=by decide)
 (he:starEach (e::es) X.env=(false,eval e X.env)::starEach es X.env:=by rfl) (hpl:(backTo pos (starEach es X.env)).any (·.1)=false:=by rfl):PE X (.Call (.Name x p) (e::es) [] pos) (Be r t):=by
 intro pins s σ H Q I h
 refine wpAny_Call_Name_kw (gi I hg hm hv ?_ hn hdb)
 exact PyProof.Rows.callWith_type1 (aT (ha pos pins s σ H _ I h) λus s1 ⟨vs,H1,I1,r1,q1⟩=>hc pins s1 σ H1 vs us Q I1 r1 q1) he hpl
end
end L2
namespace HT
open PySem PyProof.Rows
section
open PySem.SeqAt
open PySem.AutoSeq1 (wpAny_loadPart')
open PySem.MeetsSeq PySem.MeetsSeq2 PySem.MeetsSeq3
end
section
variable {prog:Program}{w:World}{A:Around}{E:Value->Shared->Prop}{s:Shared}
theorem vh {t b:Addr}{vs ws:List Value}{Q:Value->Shared->Prop}(ht:IsTup s.heap t vs.toArray)(hb:IsTup s.heap b ws.toArray)(hv:vs≠[])
 (h1:ws=[]->Q (.ref t) s) (h2:ws≠[]->Q (.ref s.heap.objs.size) {s with heap:=s.heap.push {cls:=.type "tuple",data:=.seq (vs++ws).toArray}})
 (hsz:vs.length + ws.length<=sizeLine):wpAny (model prog w) A (binaryOp .Add (.ref t) (.ref b)) Q E s:=by
 obtain ⟨⟨cls,dd,data,sl⟩,ho,hc,n,hd⟩:=id ht
 obtain ⟨⟨cls2,dd2,data2,sl2⟩,ho2,hc2,n2,hd2⟩:=id hb
 simp only at hc hd hc2 hd2
 subst hc hd hc2 hd2
 have e:vs.toArray++ws.toArray=(vs++ws).toArray:=by simp
 by_cases hw:ws=[]
 ·exact concat_meets ⟨_,ho,rfl⟩ ⟨_,ho2,rfl⟩ noFill_tuple_add seq_tuple_add PySem.F.slot_tuple_add PySem.F.entry_tuple_add (PySem.F.args_tuple_add_2 _ _)
   (tuple_addW1 t b vs.toArray ws.toArray n n2 dd dd2 sl sl2 (by simpa using hv) (by simp [hw])) ⟨ho,ho2,h1 hw⟩
 ·refine concat_meets ⟨_,ho,rfl⟩ ⟨_,ho2,rfl⟩ noFill_tuple_add seq_tuple_add PySem.F.slot_tuple_add PySem.F.entry_tuple_add (PySem.F.args_tuple_add_2 _ _)
   (tuple_addW2 t b vs.toArray ws.toArray n n2 dd dd2 sl sl2 (by simpa using hv) (by simpa using hw) (by rw [List.size_toArray,List.size_toArray];exact hsz)) ⟨ho,ho2,?_⟩
  rw [e]
  exact h2 hw
def sIx (n d:Nat):Option Int->Nat
 | none=>d
 | some v=>if v < 0 then (v + (n:Int)).toNat else min v.toNat n
theorem xc (n d:Nat)(hd:d<=n)(o:Option Int):sIx n d o<=n:=by
 cases o with
 | none=>exact hd
 | some v=>
   show (if v < 0 then (v + (n:Int)).toNat else min v.toNat n)<=n
   by_cases hv:v < 0
   ·rw [if_pos hv];omega
   ·rw [if_neg hv];exact Nat.min_le_right _ _
theorem nc (v:Int)(n d:Nat):(if v < 0 then max (v + (n:Int)) 0 else min v (n:Int))=((sIx n d (some v):Nat):Int):=by
 show (if v < 0 then max (v + (n:Int)) 0 else min v (n:Int))=(((if v < 0 then (v + (n:Int)).toNat else min v.toNat n):Nat):Int)
 by_cases hv:v < 0
 ·simp only [if_pos hv];omega
 ·simp only [if_neg hv];omega
theorem ot (lo hi:Option Int)(n:Nat):Builtin.Slice.sliceAdjust lo hi 1 (n:Int)=(((sIx n 0 lo:Nat):Int),((sIx n n hi:Nat):Int)):=by
 have h1:¬((1:Int) < 0):=by omega
 unfold Builtin.Slice.sliceAdjust
 simp only [h1,if_false]
 refine Prod.ext ?_ ?_
 ·cases lo with
  | none=>rfl
  | some v=>exact nc v n 0
 ·cases hi with
  | none=>rfl
  | some v=>exact nc v n n
theorem oK (i j:Nat):Builtin.Slice.slicePlaces (i:Int) (j:Int) 1=j - i:=by
 unfold Builtin.Slice.slicePlaces
 have h1:(1:Int) > 0:=by omega
 simp only [h1,if_true,Int.ediv_one]
 split<;>omega
theorem jT {v:Value}{o:Option Int}{Q:Option Int->Shared->Prop}(p:IsPart v o)(h:Q o s):wpAny (model prog w) A (Builtin.Slice.slicePartIndex v) Q E s:=by
 cases p with
 | none=>exact slicePart_none h
 | int i t=>exact slicePart_int h
theorem ja {sl:Addr}{vl vu:Value}{lo hi:Option Int}{n:Nat}{Q:Int×Int×Nat->Shared->Prop}(hs:s.heap.IsSliceOf sl vl vu .none)(pl:IsPart vl lo)(pu:IsPart vu hi)
 (h:Q (((sIx n 0 lo:Nat):Int),1,sIx n n hi - sIx n 0 lo) s):wpAny (model prog w) A (Builtin.Slice.sliceApplied (.ref sl) (pure (n:Int))) Q E s:=by
 obtain ⟨os,hos,hcs,hds⟩:=id hs
 unfold Builtin.Slice.sliceApplied Builtin.Slice.sliceFields
 refine wpAny_bind (wpAny_bind (wpAny_field hos hds (x:=vl) rfl (wpAny_bind (wpAny_field hos hds (x:=vu) rfl (wpAny_bind (wpAny_field hos hds (x:=.none) rfl (wpAny_pure ?_)))))))
 refine wpAny_bind (slicePart_none ?_)
 show wpAny _ _ (if ((1:Int)==0)=true then _ else _) _ _ s
 rw [if_neg (by decide)]
 refine wpAny_bind (jT pl (wpAny_bind (jT pu (wpAny_bind (wpAny_pure ?_)))))
 show wpAny _ _ (match Builtin.Slice.sliceAdjust lo hi 1 (n:Int) with | (lo,hi)=>pure (lo,(1:Int),Builtin.Slice.slicePlaces lo hi 1)) _ _ s
 rw [ot lo hi n]
 show wpAny _ _ (pure (((sIx n 0 lo:Nat):Int),(1:Int),Builtin.Slice.slicePlaces ((sIx n 0 lo:Nat):Int) ((sIx n n hi:Nat):Int) 1)) _ _ s
 rw [oK]
 exact wpAny_pure h
theorem rW (xs:Array Value)(i k:Nat):((List.range k).filterMap λ(m:Nat)=>xs[((i:Int) + (m:Int) * 1).toNat]?).toArray=((xs.toList.drop i).take k).toArray:=by
 have e:(λ(m:Nat)=>xs[((i:Int) + (m:Int) * 1).toNat]?)=λm=>xs[i + m]?:=by
  funext m
  have:((i:Int) + (m:Int) * 1).toNat=i + m:=by omega
  rw [this]
 rw [e]
 have:=pick_run xs i k
 rw [List.filterMap_map] at this
 have e2:((λx=>xs[x]?) ∘ λx=>i + x)=λm=>xs[i + m]?:=rfl
 rw [e2] at this
 rw [this]
theorem iS {t sl:Addr}{items:Array Value}{vl vu:Value}{lo hi:Option Int}{Q:Value->Shared->Prop}(ht:IsTup s.heap t items)(hs:s.heap.IsSliceOf sl vl vu .none)(pl:IsPart vl lo)(pu:IsPart vu hi)
 (hw:¬(sIx items.size 0 lo=0/\sIx items.size items.size hi=items.size))
 (h:Q (.ref s.heap.objs.size) {s with heap:=s.heap.push {cls:=.type "tuple",data:=.seq ((items.toList.drop (sIx items.size 0 lo)).take (sIx items.size items.size hi - sIx items.size 0 lo)).toArray}})
 (hsz:items.size<=sizeLine):wpAny (model prog w) A (getItem (.ref t) (.ref sl)) Q E s:=by
 have htake:sizeOk (.seq ((items.toList.drop (sIx items.size 0 lo)).take (sIx items.size items.size hi - sIx items.size 0 lo)).toArray):=by
  show ((items.toList.drop (sIx items.size 0 lo)).take (sIx items.size items.size hi - sIx items.size 0 lo)).toArray.size<=sizeLine
  rw [List.size_toArray,List.length_take,List.length_drop,Array.length_toList]
  omega
 have hj:sIx items.size items.size hi<=items.size:=xc _ _ (Nat.le_refl _) hi
 obtain ⟨os,hos,hcs,hds⟩:=id hs
 have hTs:s.TypeIs (.ref sl) "slice":=⟨os,hos,hcs⟩
 unfold getItem
 try with_reducible refine wpAny_holding ?_
 first | refine wpAny_bind (wpAny_pure ?_) | skip
 refine wpAny_bind (wpAny_sequenceKey ht.typeIs (by decide) ?_)
 refine wpAny_bind (wpAny_callSpecial?_slot (name:=Str.ofString "__getitem__") ht.typeIs PyProof.Rows.slot_tuple_getitem
  (wpAny_call_entry PyProof.Rows.slot_tuple_getitem ht.typeIs entry_tuple_getitem ?_ (args_tuple_getitem _ _)))
 show wpAny _ _ (Builtin.Tuple.tupleItemsOf (.ref t) >>=_) _ _ s
 refine wpAny_bind (tupleItemsOf_ ht ?_)
 refine wpAny_bind (wpAny_typeOf hTs ?_)
 rw [if_pos (by decide)]
 refine wpAny_bind (ja hs pl pu ?_)
 have hno:¬((((sIx items.size 0 lo:Nat):Int)==0&&(1:Int)==1&&(sIx items.size items.size hi - sIx items.size 0 lo)==items.size)=true):=by
  intro q
  rw [Bool.and_eq_true,Bool.and_eq_true] at q
  have q1:((sIx items.size 0 lo:Nat):Int)=0:=eq_of_beq q.1.1
  have q2:sIx items.size items.size hi - sIx items.size 0 lo=items.size:=eq_of_beq q.2
  exact hw ⟨by omega,by omega⟩
 show wpAny _ _ (if (((sIx items.size 0 lo:Nat):Int)==0&&(1:Int)==1&&(sIx items.size items.size hi - sIx items.size 0 lo)==items.size)=true then _ else _) _ _ s
 rw [if_neg hno,rW]
 first
  | exact wpAny_bind (m:=Builtin.Tuple.tupleExact _) (wpAny_newObj_type (wpAny_pure ⟨_,rfl,wpAny_pure h⟩) htake)
  | exact wpAny_bind (m:=Builtin.Tuple.tupleExact _) (wpAny_newObj_type (wpAny_bind (wpAny_pure (wpAny_pure ⟨_,rfl,wpAny_pure h⟩))) htake)
  | exact wpAny_bind (wpAny_bind (m:=Builtin.Tuple.tupleExact _) (wpAny_newObj_type (wpAny_pure (wpAny_pure ⟨_,rfl,wpAny_pure h⟩)) htake))
  | exact wpAny_bind (wpAny_bind (m:=Builtin.Tuple.tupleExact _) (wpAny_newObj_type (wpAny_pure ⟨_,rfl,wpAny_pure h⟩) htake))
end
end HT
namespace L2
open PySem PySem.Spec PyProof.Rows
abbrev TO:=St->Hp->(Option Int->Hp->Prop)->Prop
def PO (X:Cx)(e:Option Expr)(t:TO):Prop:=
 ∀(pins:List (Addr×Obj)) (s:Shared) (σ:St) (H:Hp) (Q:Option Int->Hp->Prop),Inv X pins σ H s->t σ H Q->
  wpAny (model X.prog X.w) X.A (evalPart e X.env) (λu s'=>∃o H',Inv X pins σ H' s'/\IsPart u o/\Q o H') X.xe s
def uI:TO:=λ_ H Q=>Q none H
def zx (t:TE):TO:=λσ H Q=>t σ H λx H1=>∃i,x= .int i/\Q (some i) H1
theorem intsAre_of {ns:List Int}:∀{us:List Value},Vals (ns.map V.int) us->IntsAre us ns:=by
 induction ns with
 | nil=>intro us r;rw [List.map_nil] at r;cases r;exact .nil
 | cons n ns ih=>
   intro us r
   rw [List.map_cons] at r
   cases r with
   | cons r1 r2=>
     obtain ⟨t,e⟩:=r1
     subst e
     exact .cons n t (ih r2)
section
variable {X:Cx}{e:Expr}{te:TE}{lo hi:Option Expr}{tl th:TO}{pos p2:Pos}
theorem vH:PO X none uI:=by
 intro pins s σ H Q I h
 rw [evalPart_none]
 exact wpAny_pure ⟨none,H,I,.none,h⟩
theorem vY (h:PE X e te):PO X (some e) (zx te):=by
 intro pins s σ H Q I hw
 rw [evalPart_some]
 refine aT (h pins s σ H _ I hw) λu s1 ⟨x,H1,I1,r1,q1⟩=>?_
 obtain ⟨i,rfl,q⟩:=q1
 obtain ⟨t,rfl⟩:=r1
 exact ⟨some i,H1,I1,.int i t,q⟩
def yp (X:Cx)(r:V->Option Int->Option Int->Hp->VK->Prop):Prop:=
 ∀(pins:List (Addr×Obj)) (s:Shared) (σ:St) (H:Hp) (x:V) (v vl vu:Value) (lo hi:Option Int) (sl:Addr) (Q:VK),Inv X pins σ H s->RelV x v->s.heap.IsSliceOf sl vl vu .none->IsPart vl lo->IsPart vu hi->r x lo hi H Q->
  ∃T id,typeLookup (.type T) "__getitem__"=pure (some (.builtin id))/\s.TypeIs v T/\wpAny (model X.prog X.w) X.A (getItem v (.ref sl)) (EP X pins σ Q) X.xe s
def tSl (r:V->Option Int->Option Int->Hp->VK->Prop)(te:TE)(tl th:TO):TE:=λσ H Q=>te σ H λx H1=>tl σ H1 λl H2=>th σ H2 λu H3=>r x l u H3 Q
theorem mr {r:V->Option Int->Option Int->Hp->VK->Prop}(hr:yp X r)(he:PE X e te)(hl:PO X lo tl)(hu:PO X hi th):PE X (.Subscript e (.Slice lo hi none p2) pos) (tSl r te tl th):=by
 intro pins s σ H Q I h
 refine Subscript_ (aT (he pins s σ H _ I h) λv s1 ⟨x,H1,I1,r1,q1⟩=>?_)
 refine wpAny_Slice (aT (hl pins s1 σ H1 _ I1 q1) λvl s2 ⟨l,H2,I2,pl,q2⟩=>aT (hu pins s2 σ H2 _ I2 q2) λvu s3 ⟨u,H3,I3,pu,q3⟩=>?_)
 rw [evalPart_none]
 refine wpAny_pure ?_
 have I4:Inv X pins σ H3 {s3 with heap:=s3.heap.push {cls:=.type "slice",data:=.fields #[vl,vu,.none]}}:=I3.kept (t':=s3.toks) λb ob q=>Heap.get?_push_of_some _ q
 obtain ⟨T,id,hT,ht,hg⟩:=hr pins {s3 with heap:=s3.heap.push {cls:=.type "slice",data:=.fields #[vl,vu,.none]}} σ H3 x v vl vu l u s3.heap.objs.size Q I4 r1 (Heap.IsSliceOf.new ..) pl pu q3
 show wpAny (model X.prog X.w) X.A (subscriptTail e (.Slice lo hi none p2) v (.ref s3.heap.objs.size)) (EP X pins σ Q) X.xe {s3 with heap:=s3.heap.push {cls:=.type "slice",data:=.fields #[vl,vu,.none]}}
 exact tail_any (ops:=[.ref s3.heap.objs.size,v]) ht hT hg (by with_unfolding_all rfl)
def gf (xs:List V)(lo hi:Option Int):List V:=(xs.drop (HT.sIx xs.length 0 lo)).take (HT.sIx xs.length xs.length hi - HT.sIx xs.length 0 lo)
theorem iT (xs:List V)(lo hi:Option Int):(gf xs lo hi).length<=xs.length:=by
 unfold gf
 rw [List.length_take,List.length_drop]
 omega
def Bp (K:PySem.W.Frag):V->Option Int->Option Int->Hp->VK->Prop:=λx lo hi H Q=>∃a xs,x= .ref a/\bL K H a xs/\
 ¬(HT.sIx xs.length 0 lo=0/\HT.sIx xs.length xs.length hi=xs.length)/\∀p,H p=none->Q (.ref p) (upd H p (.tup (gf xs lo hi)))
theorem we:yp X (Bp X.K):=by
 intro pins s σ H x v vl vu lo hi sl Q I rx hs pl pu h
 obtain ⟨a,xs,rfl,hx,hw,q⟩:=h
 cases rx
 obtain ⟨its,r,ht,hz⟩:=I.tuple hx
 have hlen:its.toArray.size=xs.length:=by rw [List.size_toArray];exact r.length.symm
 refine ⟨"tuple",_,PyProof.Rows.slot_tuple_getitem.lookup,ht.typeIs,?_⟩
 refine HT.iS ht hs pl pu (by rw [hlen];exact hw) ?_ (by rw [hlen];exact hz)
 rw [hlen]
 refine ⟨.ref s.heap.objs.size,_,I.laid (t':=s.toks) (o:=.tup (gf xs lo hi)) (λb ob q=>Heap.get?_push_of_some _ q) (Nat.le_refl _) ?_,rfl,q _ (I.hok.fresh (Nat.le_refl _))⟩
 exact ⟨Nat.le_trans (iT xs lo hi) hz,_,(r.drop (HT.sIx xs.length 0 lo)).take (HT.sIx xs.length xs.length hi - HT.sIx xs.length 0 lo),IsTup.new _ _⟩
def AG (K:PySem.W.Frag):R2:=λx y H Q=>∃a b xs ys,x= .ref a/\y= .ref b/\bL K H a xs/\bL K H b ys/\xs≠[]/\xs.length + ys.length<=sizeLine/\
 (ys=[]->Q (.ref a) H)/\(ys≠[]->∀p,H p=none->Q (.ref p) (upd H p (.tup (xs++ys))))
theorem Vals.km {xs:List V}{us:List Value}(r:Vals xs us):us=[]↔xs=[]:=by
 cases r with
 | nil=>simp
 | cons _ _=>simp
theorem vq:cP X (binaryOp .Add) (AG X.K):=by
 intro pins s σ H x y v u Q I rx ry h
 obtain ⟨a,b,xs,ys,rfl,rfl,ha,hb,hx,hz,q1,q2⟩:=h
 cases rx
 cases ry
 obtain ⟨its,r1,p1,_⟩:=I.tuple ha
 obtain ⟨its2,r2,p2,_⟩:=I.tuple hb
 refine HT.vh p1 p2 (λz=>hx (r1.km.mp z)) (λz=>⟨.ref a,H,I,rfl,q1 (r2.km.mp z)⟩) (λz=>?_) (by rw [← r1.length,← r2.length];exact hz)
 refine ⟨.ref s.heap.objs.size,_,I.laid (t':=s.toks) (o:=.tup (xs++ys)) (λb ob q=>Heap.get?_push_of_some _ q) (Nat.le_refl _) ?_,rfl,q2 (λw=>z (r2.km.mpr w)) _ (I.hok.fresh (Nat.le_refl _))⟩
 exact ⟨by rw [List.length_append];exact hz,_,r1.append r2,IsTup.new _ _⟩
end
section
variable {α:Type}
def gT (n:Nat)(i:Int):Option Nat:=if 0<=i then (if i < n then some i.toNat else none) else if -(n:Int)<=i then some (i + n).toNat else none
def cM (xs:List α)(i:Int):Option α:=(gT xs.length i).bind λj=>xs[j]?
theorem nk {n:Nat}{i:Int}{j:Nat}(h:gT n i=some j):seqIndex? i n=some j/\j < n/\ -(n:Int)<=i/\i < n:=by
 unfold gT at h
 by_cases h0:0<=i
 ·rw [if_pos h0] at h
  by_cases h1:i < n
  ·rw [if_pos h1] at h
   have e:i.toNat=j:=Option.some.inj h
   exact ⟨by rw [seqIndex_of h0 h1,e],by omega,by omega,h1⟩
  ·rw [if_neg h1] at h;cases h
 ·rw [if_neg h0] at h
  by_cases h1: -(n:Int)<=i
  ·rw [if_pos h1] at h
   have e:(i + n).toNat=j:=Option.some.inj h
   exact ⟨by rw [seqIndex_neg (by omega) h1,e],by omega,h1,by omega⟩
  ·rw [if_neg h1] at h;cases h
theorem nH {xs:List α}{i:Int}{v:α}(h:cM xs i=some v):∃j,seqIndex? i xs.length=some j/\xs[j]?=some v/\j < xs.length/\ -(xs.length:Int)<=i/\i < xs.length:=by
 unfold cM at h
 cases e:gT xs.length i with
 | none=>rw [e] at h;cases h
 | some j=>
   rw [e] at h
   obtain ⟨h1,h2,h3,h4⟩:=nk e
   exact ⟨j,h1,h,h2,h3,h4⟩
theorem wa {xs:List α}{j:Nat}{v:α}(h:xs[j]?=some v):cM xs (j:Int)=some v:=by
 have hj:j < xs.length:=(List.getElem?_eq_some_iff.mp h).1
 have e:gT xs.length (j:Int)=some j:=by
  unfold gT
  rw [if_pos (by omega),if_pos (by omega)];simp
 unfold cM;rw [e];exact h
def gy (b:Expr):Prop:=∀o i,subscripted b false o i=operate [o,i] (getItem o i)
def xa (X:Cx)(r:R2):Prop:=
 ∀(value slice:Expr) (pins:List (Addr×Obj)) (s:Shared) (σ:St) (H:Hp) (x y:V) (v u:Value) (Q:VK),Inv X pins σ H s->RelV x v->RelV y u->r x y H Q->
  subscripted slice false v u=operate [v,u] (getItem v u)->wpAny (model X.prog X.w) X.A (subscriptTail value slice v u) (EP X pins σ Q) X.xe s
def AU (X:Cx)(id:String)(r:V->List V->Hp->VK->Prop):Prop:=
 ∀(pins:List (Addr×Obj)) (s:Shared) (σ:St) (H:Hp) (x:V) (xs:List V) (v:Value) (us:List Value) (Q:VK),Inv X pins σ H s->RelV x v->Vals xs us->r x xs H Q->
  wpAny (model X.prog X.w) X.A (call (.builtin id) (v::us)) (EP X pins σ Q) X.xe s
end
section
variable {X:Cx}{a b:Expr}{ta tb:TE}{pos:Pos}
theorem iJ {r:R2}(hr:xa X r)(ha:PE X a ta)(hb:PE X b tb)(hs:gy b):PE X (.Subscript a b pos) (tV r ta tb):=by
 intro pins s σ H Q I h
 exact Subscript_ (rV ha hb I h λv u s2 x y H2 I2 rx ry q=>hr a b pins s2 σ H2 x y v u Q I2 rx ry q (hs _ _))
def By (K:PySem.W.Frag):R2:=λx y H Q=>∃p xs i v,x= .ref p/\y= .int i/\bz K H p xs/\cM xs i=some v/\Q v H
def Br (K:PySem.W.Frag):R2:=λx y H Q=>∃p xs i v,x= .ref p/\y= .int i/\bL K H p xs/\cM xs i=some v/\Q v H
theorem kA:xa X (By X.K):=by
 intro value slice pins s σ H x y v u Q I rx ry h hs
 obtain ⟨p,xs,i,z,rfl,rfl,hq,he,q⟩:=h
 cases rx
 obtain ⟨t,rfl⟩:=ry
 obtain ⟨its,r,pl,hz⟩:=I.list hq
 obtain ⟨j,h1,h2,h3,h4,h5⟩:=nH he
 obtain ⟨w,ew,rw'⟩:=r.get h2
 have hl:=r.length
 have hn:=iC
 have fin:EP X pins σ Q w s:=⟨z,H,I,rw',q⟩
 by_cases h0:0<=i
 ·have hj:i.toNat=j:=by
   rw [seqIndex_of h0 h5] at h1
   exact Option.some.inj h1
  exact item_listR pl.isList h0 (by omega) (by rw [hj];simpa using ew) fin hs
 ·have hj:(i + (its.toArray.size:Int)).toNat=j:=by
   rw [seqIndex_neg (by omega) h4] at h1
   rw [List.size_toArray,← hl]
   exact Option.some.inj h1
  exact subscriptTail_builtinR (x:=w) pl.isList.typeIs slot_list_getitem.lookup
   (wpAny_getItem_list_neg (Q:=λr s'=>r=w/\EP X pins σ Q r s') pl.isList (by omega) (by rw [List.size_toArray]<;>omega) (by omega) (by rw [hj];simpa using ew) ⟨rfl,fin⟩) hs
theorem mD:xa X (Br X.K):=by
 intro value slice pins s σ H x y v u Q I rx ry h hs
 obtain ⟨p,xs,i,z,rfl,rfl,hq,he,q⟩:=h
 cases rx
 obtain ⟨t,rfl⟩:=ry
 obtain ⟨its,r,pl,hz⟩:=I.tuple hq
 obtain ⟨j,h1,h2,h3,h4,h5⟩:=nH he
 obtain ⟨w,ew,rw'⟩:=r.get h2
 have hl:=r.length
 have hn:=iC
 have fin:EP X pins σ Q w s:=⟨z,H,I,rw',q⟩
 exact subscriptTail_builtinR (x:=w) pl.typeIs slot_tuple_getitem.lookup
  (getItem_tuple (j:=j) (Q:=λr s'=>r=w/\EP X pins σ Q r s') pl (by omega) (by omega) (by rw [List.size_toArray,← hl];exact h1) (by simpa using ew) ⟨rfl,fin⟩) hs
theorem oi (its:List Value)(n j:Nat)(u:Value):Obj.mapSeq (·.setIfInBounds j u) {cls:=.type "list",data:=.seq its.toArray n}={cls:=.type "list",data:=.seq (its.set j u).toArray n}:=by
 simp [Obj.mapSeq]
theorem Inv.lst {pins:List (Addr×Obj)}{σ:St}{H:Hp}{s:Shared}{p:Addr}{xs:List V}(I:Inv X pins σ H s)(h:H p=some (.lst xs)):
 ∃(its:List Value) (n:Nat),Vals xs its/\s.heap.get? p=some {cls:=.type "list",data:=.seq its.toArray n}/\xs.length<=sizeLine:=by
 obtain ⟨z,its,n,r,e⟩:=I.hok p _ h
 exact ⟨its,n,r,e,z⟩
theorem Inv.wG {pins:List (Addr×Obj)}{σ:St}{H:Hp}{s:Shared}{p:Addr}{xs ys:List V}{its its':List Value}{n n':Nat}{f:Obj->Obj}(I:Inv X pins σ H s)(h:H p=some (.lst xs))
 (ho:s.heap.get? p=some {cls:=.type "list",data:=.seq its.toArray n}) (hf:f {cls:=.type "list",data:=.seq its.toArray n}={cls:=.type "list",data:=.seq its'.toArray n'}) (r:Vals ys its') (hz:ys.length<=sizeLine) (t:Nat):
 Inv X pins σ (upd H p (.lst ys)) {s with heap:=s.heap.update p f,toks:=t}:=by
 have e:(s.heap.update p f).get? p=some {cls:=.type "list",data:=.seq its'.toArray n'}:=by
  rw [Heap.get?_update_self f ho (by rw [hf]<;>rfl),hf]
 refine I.write (x:=p) (e:=p) (by rw [h];trivial) (.inl rfl) (λb u hb q=>(Heap.get?_update_other _ _ (Ne.symm hb)).trans q) ⟨_,e⟩ ?_
 exact ⟨hz,its',n',r,e⟩
def AA:V->V->V->Hp->(Hp->Prop)->Prop:=λo i v H Q=>∃p xs k j,o= .ref p/\i= .int k/\H p=some (.lst xs)/\gT xs.length k=some j/\Q (upd H p (.lst (xs.set j v)))
theorem set_list:zq X AA:=by
 intro pins s σ H o i v ov iv u Q I ro ri rv h
 obtain ⟨p,xs,k,j,rfl,rfl,hp,hj,q⟩:=h
 cases ro
 obtain ⟨t,rfl⟩:=ri
 obtain ⟨its,n,r,ho,hz⟩:=I.lst hp
 obtain ⟨h1,h2,h3,h4⟩:=nk hj
 have hl:=r.length
 have hn:=iC
 have I':Inv X pins σ (upd H p (.lst (xs.set j v))) {s with heap:=s.heap.update p (Obj.mapSeq (·.setIfInBounds j u))}:=
  I.wG hp ho (oi its n j u) (r.set rv j) (by rw [List.length_set];exact hz) s.toks
 by_cases h0:0<=k
 ·have hk:k.toNat=j:=by
   rw [seqIndex_of h0 h4] at h1
   exact Option.some.inj h1
  exact PySem.W.ki_setAt ho h0 (by omega) (by rw [List.size_toArray,← hl];exact h4) (by rw [hk];exact ⟨_,I',q⟩)
 ·have hk:(k + (its.toArray.size:Int)).toNat=j:=by
   rw [seqIndex_neg (by omega) h3] at h1
   rw [List.size_toArray,← hl]
   exact Option.some.inj h1
  exact PySem.W.ki_setBack ho (by omega) (by rw [List.size_toArray,← hl];exact h3) (by omega) (by rw [hk];exact ⟨_,I',q⟩)
theorem lX (lo hi:Option Int)(n:Nat):(sliceBounds lo hi none n).1=((HT.sIx n 0 lo:Nat):Int)/\(sliceBounds lo hi none n).2.1=((HT.sIx n n hi:Nat):Int)/\(sliceBounds lo hi none n).2.2=1:=by
 refine ⟨?_,?_,rfl⟩
 ·cases lo with
  | none=>simp [sliceBounds,HT.sIx]
  | some i=>
    simp only [sliceBounds,HT.sIx,Option.getD_none,show (1:Int) > 0 by decide,if_true]
    by_cases h:i < 0
    ·simp only [h,if_true]<;>omega
    ·simp only [h,if_false]<;>omega
 ·cases hi with
  | none=>simp [sliceBounds,HT.sIx]
  | some i=>
    simp only [sliceBounds,HT.sIx,Option.getD_none,show (1:Int) > 0 by decide,if_true]
    by_cases h:i < 0
    ·simp only [h,if_true]<;>omega
    ·simp only [h,if_false]<;>omega
theorem lb (its:List Value)(lo hi:Option Int):slicePick its.toArray lo hi none=((its.drop (HT.sIx its.length 0 lo)).take (HT.sIx its.length its.length hi - HT.sIx its.length 0 lo)).toArray:=by
 obtain ⟨h1,h2,h3⟩:=lX lo hi its.toArray.size
 unfold slicePick
 rw [h1,h2,h3]
 simp only [sliceRange_one,pick_run,List.size_toArray]<;>rfl
def B3 (K:PySem.W.Frag):V->Option Int->Option Int->Hp->VK->Prop:=λx lo hi H Q=>∃a xs,x= .ref a/\bz K H a xs/\∀p,H p=none->Q (.ref p) (upd H p (.lst (gf xs lo hi)))
theorem uS:yp X (B3 X.K):=by
 intro pins s σ H x v vl vu lo hi sl Q I rx hs pl pu h
 obtain ⟨a,xs,rfl,hx,q⟩:=h
 cases rx
 obtain ⟨its,r,ht,hz⟩:=I.list hx
 have hlen:=r.length
 refine ⟨"list",_,slot_list_getitem.lookup,ht.isList.typeIs,?_⟩
 refine wpAny_getItem_list_slice ht.isList hs pl pu .none (by simp) ?_ (by rw [List.size_toArray]<;>omega)
 rw [lb,← hlen]
 refine ⟨.ref s.heap.objs.size,_,I.laid (t':=s.toks) (o:=.lst (gf xs lo hi)) (λb ob q=>Heap.get?_push_of_some _ q) (Nat.le_refl _) ?_,rfl,q _ (I.hok.fresh (Nat.le_refl _))⟩
 exact ⟨Nat.le_trans (iT xs lo hi) hz,_,0,(r.drop (HT.sIx xs.length 0 lo)).take (HT.sIx xs.length xs.length hi - HT.sIx xs.length 0 lo),Heap.get?_push_size _ rfl⟩
def fc:V->Bool
 | .non=>true
 | .bl _=>true
 | .int _=>true
 | .str _=>true
 | _=>false
def jS:V->V->Bool
 | .non,.non=>true
 | .bl a,.bl b=>a==b
 | .bl a,.int b=>(if a then 1 else 0)==b
 | .int a,.bl b=>a==(if b then 1 else 0)
 | .int a,.int b=>a==b
 | .str a,.str b=>a==b
 | _,_=>false
theorem xh {A:Around}{s:Shared}{y x:V}{u v:Value}(ry:RelV y u)(rx:RelV x v)(fy:fc y=true)(fx:fc x=true):SeqAt.EqAt A s u v (jS y x):=by
 cases y with
 | non=>
   cases ry
   cases x with
   | non=>cases rx;exact SeqAt.EqAt.same _
   | bl b=>cases rx;exact SeqAt.EqAt.none_bool b
   | int b=>obtain ⟨t,rfl⟩:=rx;exact SeqAt.EqAt.none_int b t
   | str b=>obtain ⟨t,rfl⟩:=rx;exact SeqAt.EqAt.none_str b t
   | _=>exact absurd (show false=true from fx) Bool.false_ne_true
 | bl a=>
   cases ry
   cases x with
   | non=>cases rx;exact SeqAt.EqAt.bool_none a
   | bl b=>cases rx;exact SeqAt.EqAt.bool_bool a b
   | int b=>obtain ⟨t,rfl⟩:=rx;exact SeqAt.EqAt.bool_int a b t
   | str b=>obtain ⟨t,rfl⟩:=rx;exact SeqAt.EqAt.bool_str a b t
   | _=>exact absurd (show false=true from fx) Bool.false_ne_true
 | int a=>
   obtain ⟨t',rfl⟩:=ry
   cases x with
   | non=>cases rx;exact SeqAt.EqAt.int_none a t'
   | bl b=>cases rx;exact SeqAt.EqAt.int_bool a t' b
   | int b=>obtain ⟨t,rfl⟩:=rx;exact SeqAt.EqAt.int_int a t' b t
   | str b=>obtain ⟨t,rfl⟩:=rx;exact SeqAt.EqAt.int_str a t' b t
   | _=>exact absurd (show false=true from fx) Bool.false_ne_true
 | str a=>
   obtain ⟨t',rfl⟩:=ry
   cases x with
   | non=>cases rx;exact SeqAt.EqAt.str_none a t'
   | bl b=>cases rx;exact SeqAt.EqAt.str_bool a t' b
   | int b=>obtain ⟨t,rfl⟩:=rx;exact SeqAt.EqAt.str_int a t' b t
   | str b=>obtain ⟨t,rfl⟩:=rx;exact SeqAt.EqAt.str_str a t' b t
   | _=>exact absurd (show false=true from fx) Bool.false_ne_true
 | _=>exact absurd (show false=true from fy) Bool.false_ne_true
def j4 (x:V)(u:Value):Bool:=match u with
 | .none=>jS .non x
 | .bool b=>jS (.bl b) x
 | .int i _=>jS (.int i) x
 | .str z _=>jS (.str z) x
 | _=>false
theorem pJ {x y:V}{u:Value}(r:RelV y u)(f:fc y=true):j4 x u=jS y x:=by
 cases y with
 | non=>cases r;rfl
 | bl b=>cases r;rfl
 | int i=>obtain ⟨t,rfl⟩:=r;rfl
 | str z=>obtain ⟨t,rfl⟩:=r;rfl
 | _=>exact absurd (show false=true from f) Bool.false_ne_true
theorem kq {x:V}:∀{xs:List V} {us:List Value},Vals xs us->xs.all fc=true->us.any (j4 x)=xs.any λy=>jS y x
 | _,_,.nil,_=>rfl
 | y::xs,u::us,.cons r t,f=>by
   rw [List.all_cons,Bool.and_eq_true] at f
   rw [List.any_cons,List.any_cons,pJ r f.1,kq t f.2]
theorem jv {A:Around}{s:Shared}{x:V}{v:Value}(rx:RelV x v)(fx:fc x=true):∀{xs:List V} {us:List Value},Vals xs us->xs.all fc=true->∀u∈us,SeqAt.EqAt A s u v (j4 x u)
 | _,_,.nil,_=>λu hu=>by cases hu
 | y::xs,u::us,.cons r t,f=>λu' hu=>by
   rw [List.all_cons,Bool.and_eq_true] at f
   rcases List.mem_cons.mp hu with rfl | hu
   ·rw [pJ r f.1];exact xh r rx f.1 fx
   ·exact jv rx fx t f.2 u' hu
def tW (x:V)(xs:List V):Bool:=xs.any λy=>jS y x
def rIn (K:PySem.W.Frag)(neg:Bool):R2:=λx y H Q=>∃p xs,y= .ref p/\(bz K H p xs∨bL K H p xs)/\fc x=true/\xs.all fc=true/\Q (.bl (if neg then !tW x xs else tW x xs)) H
theorem px:cP X (compareOp .In) (rIn X.K false):=by
 intro pins s σ H x y v u Q I rx ry h
 obtain ⟨p,xs,rfl,hq,fx,fs,q⟩:=h
 cases ry
 rcases hq with hq | hq
 ·obtain ⟨its,r,pl,hz⟩:=I.list hq
  refine SeqAt.in_listAt (j4 x) pl.isList (λw hw=>jv rx fx r fs w (by simpa using hw)) ⟨.bl _,H,I,rfl,?_⟩
  rw [show its.toArray.any (j4 x)=its.any (j4 x) by simp,kq r fs]
  exact q
 ·obtain ⟨its,r,pl,hz⟩:=I.tuple hq
  refine SeqAt.in_tupleAt (j4 x) pl (λw hw=>jv rx fx r fs w (by simpa using hw)) ⟨.bl _,H,I,rfl,?_⟩
  rw [show its.toArray.any (j4 x)=its.any (j4 x) by simp,kq r fs]
  exact q
theorem dA:dg X (.builtin "len") (λxs H Q=>∃p ys,xs=[.ref p]/\(bz X.K H p ys∨bL X.K H p ys)/\Q (.int ys.length) H):=by
 intro pins s σ H xs us Q I r h
 obtain ⟨p,ys,rfl,hq,q⟩:=h
 obtain ⟨u,rfl,rx⟩:=vals1 r
 cases rx
 have hn:=iC
 rcases hq with hq | hq
 ·obtain ⟨its,r',pl,hz⟩:=I.list hq
  have hlen:=r'.length
  exact Calls.call_len_list pl.isList (by simp only [List.size_toArray]<;>omega) ⟨.int ys.length,H,I.tok _,⟨s.toks + 1,by rw [List.size_toArray,hlen]⟩,q⟩
 ·obtain ⟨its,r',pl,hz⟩:=I.tuple hq
  have hlen:=r'.length
  exact len_tuple pl (by simp only [List.size_toArray]<;>omega) ⟨.int ys.length,H,I.tok _,⟨s.toks + 1,by rw [List.size_toArray,hlen]⟩,q⟩
theorem iy:dg X (.type "list") (λxs H Q=>∃p ys,xs=[.ref p]/\(bz X.K H p ys∨bL X.K H p ys)/\∀l,H l=none->Q (.ref l) (upd H l (.lst ys))):=by
 intro pins s σ H xs us Q I r h
 obtain ⟨p,ys,rfl,hq,q⟩:=h
 obtain ⟨u,rfl,rx⟩:=vals1 r
 cases rx
 have fin:∀(its:List Value),Vals ys its->ys.length<=sizeLine->∀(h':Heap) (c':Nat),(∀b o',s.heap.get? b=some o'->h'.get? b=some o')->
  h'.get? s.heap.objs.size=some {cls:=.type "list",dict:=none,data:=.seq its.toArray c',slots:= #[]}->EP X pins σ Q (.ref s.heap.objs.size) {s with heap:=h'}:=λits r' hz h' c' kp e=>
  ⟨.ref s.heap.objs.size,_,I.laid (t':=s.toks) kp (Nat.le_refl _) (show bG X.prog X.w _ h' _ (.lst ys) from ⟨hz,its,c',r',e⟩),rfl,q _ (I.hok.fresh (Nat.le_refl _))⟩
 rcases hq with hq | hq
 ·obtain ⟨its,r',pl,hz⟩:=I.list hq
  have hlen:=r'.length
  obtain ⟨o,ho,hc,n,hd⟩:=pl.isList
  exact call_list_seq p (.inl rfl) ho hc hd (λh' c' kp e=>fin its r' hz h' c' kp e) (by simp only [List.size_toArray]<;>omega)
 ·obtain ⟨its,r',pl,hz⟩:=I.tuple hq
  have hlen:=r'.length
  obtain ⟨o,ho,hc,n,hd⟩:=pl
  exact call_list_seq p (.inr rfl) ho hc hd (λh' c' kp e=>fin its r' hz h' c' kp e) (by simp only [List.size_toArray]<;>omega)
theorem lj:dg X (.type "tuple") (λxs H Q=>∃p ys,xs=[.ref p]/\((bz X.K H p ys/\∀l,H l=none->Q (.ref l) (upd H l (.tup ys)))∨(bL X.K H p ys/\Q (.ref p) H))):=by
 intro pins s σ H xs us Q I r h
 obtain ⟨p,ys,rfl,h⟩:=h
 obtain ⟨u,rfl,rx⟩:=vals1 r
 cases rx
 rcases h with ⟨hq,q⟩ | ⟨hq,q⟩
 ·obtain ⟨its,r',pl,hz⟩:=I.list hq
  have hlen:=r'.length
  refine call_tuple_list pl.isList (λh' kp=>?_) (by simp only [List.size_toArray]<;>omega)
  have I1:Inv X pins σ H {s with heap:=h'}:=I.kept (t':=s.toks) kp
  have I2:Inv X pins σ (upd H h'.objs.size (.tup ys)) {s with heap:=h'.push {cls:=.type "tuple",data:=.seq its.toArray}}:=
   I1.laid (t':=s.toks) (λb o e=>Heap.get?_push_of_some _ e) (Nat.le_refl _) (show bG X.prog X.w _ _ _ (.tup ys) from ⟨hz,its,r',IsTup.new _ _⟩)
  exact ⟨.ref h'.objs.size,_,I2,rfl,q _ (I1.hok.fresh (Nat.le_refl _))⟩
 ·obtain ⟨its,r',pl,hz⟩:=I.tuple hq
  exact call_tuple_same pl ⟨.ref p,H,I,rfl,q⟩
def wL (K:PySem.W.Frag)(T:String)(x:V)(H:Hp):Prop:=match x with
 | .str _=>T="str"
 | .int _=>T="int"
 | .ref p=>(T="list"/\∃xs,bz K H p xs)∨(T="tuple"/\∃o,K.lookup p=some o/\o.cls= .type "tuple"/\o.dict=none)∨
  (T="dict"/\((∃kvs,H p=some (.dK kvs))∨∃kvs,H p=some (.dT kvs)))∨(T="set"/\∃S n,H p=some (.set S n))
 | _=>False
theorem qi {pins:List (Addr×Obj)}{σ:St}{H:Hp}{s:Shared}{T:String}{x:V}{v:Value}(I:Inv X pins σ H s)(r:RelV x v)(ty:wL X.K T x H):
 s.TypeIs v T/\∀a,v= .ref a->∃ob,s.heap.get? a=some ob/\ob.dict=none:=by
 cases x with
 | str z=>
   obtain ⟨t,rfl⟩:=r
   cases (show T="str" from ty)
   exact ⟨typeIs_str s z t,λ_ e=>nomatch e⟩
 | int i=>
   obtain ⟨t,rfl⟩:=r
   cases (show T="int" from ty)
   exact ⟨typeIs_int s i t,λ_ e=>nomatch e⟩
 | ref p=>
   cases r
   rcases ty with ⟨rfl,xs,hq⟩ | ⟨rfl,o,hk,hc,hd⟩ | ⟨rfl,hk⟩ | ⟨rfl,S,n,hk⟩
   ·obtain ⟨its,_,pl,_⟩:=I.list hq
    refine ⟨pl.isList.typeIs,λa e=>?_⟩
    cases e
    obtain ⟨o,n,e,c,hd,_⟩:=pl
    exact ⟨o,e,hd⟩
   ·refine ⟨⟨o,I.cO p o hk,hc⟩,λa e=>?_⟩
    cases e
    exact ⟨o,I.cO _ o hk,hd⟩
   ·have z:∃o,s.heap.get? p=some o/\o.ExactDict:=by
     rcases hk with ⟨kvs,hk⟩ | ⟨kvs,hk⟩
     ·obtain ⟨_,_,_,_,o,_,_,e,ex,_⟩:=I.hok p _ hk
      exact ⟨o,e,ex⟩
     ·obtain ⟨_,_,_,_,o,_,_,e,ex,_⟩:=I.hok p _ hk
      exact ⟨o,e,ex⟩
    obtain ⟨o,e,ex⟩:=z
    refine ⟨⟨o,e,ex.1⟩,λa e2=>?_⟩
    cases e2
    exact ⟨o,e,ex.2.1⟩
   ·obtain ⟨o,_,_,_,e,ex,_⟩:=I.hok p _ hk
    refine ⟨⟨o,e,ex.1⟩,λa e2=>?_⟩
    cases e2
    exact ⟨o,e,ex.2.1⟩
 | _=>exact False.elim ty
def BK (K:PySem.W.Frag)(T:String)(r:V->List V->Hp->VK->Prop)(to:TE):TE:=λσ H Q=>to σ H λx H1=>wL K T x H1/\r x [] H1 Q
def tBM (K:PySem.W.Frag)(T:String)(r:V->List V->Hp->VK->Prop)(to:TE)(t:TA):TE:=λσ H Q=>to σ H λx H1=>wL K T x H1/\t σ H1 λxs H2=>r x xs H2 Q
variable {o e:Expr}{es:List Expr}{to:TE}{t:TA}{name:Str}{apos cpos:Pos}{T id:String}{r:V->List V->Hp->VK->Prop}
theorem yR (pa:PlainAttrs T)(slot:Slot T name id)(hty:typeOf (.builtin id)=pure (.type "method_descriptor"))(hm:AU X id r)(ho:PE X o to)
 (hbase:attributeBase o name X.env (eval o X.env)=eval o X.env:=by rfl) (hline:(apos.endLine==cpos.line)=true:=by rfl):PE X (.Call (.Attribute o name apos) [] [] cpos) (BK X.K T r to):=by
 intro pins s σ H Q I h
 refine wpAny_Call_method0_late hbase hline (aT (ho pins s σ H _ I h) λv s1 ⟨x,H1,I1,r1,ty,q1⟩=>?_)
 obtain ⟨h1,h2⟩:=qi I1 r1 ty
 exact ⟨T,id,pa,slot,hty,h1,h2,Calls.callWith_builtin rfl (PySem.evalArgs_none (hm pins s1 σ H1 x [] v [] Q I1 r1 .nil q1))⟩
theorem lr (pa:PlainAttrs T)(slot:Slot T name id)(hty:typeOf (.builtin id)=pure (.type "method_descriptor"))(hm:AU X id r)(ho:PE X o to)(ha:PA X (e::es) t)
 (hbase:attributeBase o name X.env (eval o X.env)=eval o X.env:=by rfl)
 (hfew:((backTo cpos (starEach (e::es) X.env)).all (λx=> !x.1)&&(backToKw cpos (keywordEach [] X.env)).all (λx=>x.1.isSome)
  &&decide ((e::es).length + ([]:List Keyword).length + (if ([]:List Keyword).isEmpty then 0 else 1) < 30))=true:=by rfl)
 (hline:(apos.endLine==cpos.line)=true:=by rfl) (hs:starEach (e::es) X.env=(false,eval e X.env)::starEach es X.env:=by rfl) (hplain:(backTo cpos (starEach es X.env)).any (·.1)=false:=by rfl):
 PE X (.Call (.Attribute o name apos) (e::es) [] cpos) (tBM X.K T r to t):=by
 intro pins s σ H Q I h
 refine wpAny_Call_method_late hbase hfew hline rfl (aT (ho pins s σ H _ I h) λv s1 ⟨x,H1,I1,r1,ty,q1⟩=>?_)
 obtain ⟨h1,h2⟩:=qi I1 r1 ty
 refine ⟨T,id,pa,slot,hty,h1,h2,?_⟩
 have hA:=ha cpos pins s1 σ H1 _ I1 q1
 rw [hs] at hA ⊢
 refine Calls.callWith_builtin (by show (false ||(backTo cpos (starEach es X.env)).any (·.1))=false;rw [hplain]<;>rfl) (Calls.evalArgs_plain ?_)
 exact aT hA λus s2 ⟨vs,H2,I2,r2,q2⟩=>hm pins s2 σ H2 x vs v us Q I2 r1 r2 q2
end
def A1 (X:Cx)(id:String)(r:V->List V->Hp->VK->Prop):Prop:=
 ∀(pins:List (Addr×Obj)) (s:Shared) (σ:St) (H:Hp) (x:V) (xs:List V) (v:Value) (us:List Value) (Q:VK),Inv X pins σ H s->RelV x v->Vals xs us->r x xs H Q->
  wpAny (model X.prog X.w) X.A (call (.builtin id) (v::us)) (EP X pins σ Q) X.xe s
theorem Vals.one:∀{x:V} {us:List Value},Vals [x] us->∃u,us=[u]/\RelV x u
 | _,_,.cons r .nil=>⟨_,rfl,r⟩
theorem Vals.zero:∀{us:List Value},Vals [] us->us=[]
 | _,.nil=>rfl
theorem Vals.dropLast {xs:List V}{us:List Value}(h:Vals xs us):Vals xs.dropLast us.dropLast:=by
 induction h with
 | nil=>exact .nil
 | cons r t ih=>
   cases t with
   | nil=>exact .nil
   | cons q t'=>exact .cons r ih
theorem Vals.rep {xs:List V}{us:List Value}(h:Vals xs us):∀k:Nat,Vals (List.replicate k xs).flatten (List.replicate k us).flatten
 | 0=>.nil
 | k + 1=>by
   rw [List.replicate_succ,List.replicate_succ,List.flatten_cons,List.flatten_cons]
   exact Vals.append h (Vals.rep h k)
theorem pf {α:Type}(l:List α):l.eraseIdx (l.length - 1)=l.dropLast:=by
 induction l with
 | nil=>rfl
 | cons a r ih=>
   cases r with
   | nil=>rfl
   | cons b r=>
     have e:(a::b::r).length - 1=((b::r).length - 1) + 1:=by
      have h1:(a::b::r).length=r.length + 2:=rfl
      have h2:(b::r).length=r.length + 1:=rfl
      omega
     rw [e,List.eraseIdx_cons_succ,ih]
     all_goals rfl
theorem foldl_rep (its:List Value):∀(k:Nat) (acc:List Value),
 List.foldl (λx1 x2=>x1++x2) acc.toArray (List.replicate k its.toArray)=(acc++(List.replicate k its).flatten).toArray
 | 0,acc=>by simp
 | k + 1,acc=>by
   have e:acc.toArray++its.toArray=(acc++its).toArray:=by simp
   have e2:(acc++its)++(List.replicate k its).flatten=acc++(List.replicate (k + 1) its).flatten:=by
    rw [List.replicate_succ,List.flatten_cons,List.append_assoc]
   rw [← e2,← foldl_rep its k (acc++its),← e,List.replicate_succ,List.foldl_cons]
section
variable {X:Cx}{pins:List (Addr×Obj)}{σ:St}{H:Hp}{s:Shared}{l b:Addr}{xs ys zs:List V}
theorem Inv.xB {its its':List Value}{n:Nat}{f:Array Value->Array Value}{t':Nat}(I:Inv X pins σ H s)(hH:H l=some (.lst xs))
 (e:s.heap.get? l=some {cls:=.type "list",data:=.seq its.toArray n}) (hf:f its.toArray=its'.toArray) (hv:Vals ys its') (hz:ys.length<=sizeLine):
 Inv X pins σ (upd H l (.lst ys)) {s with heap:=s.heap.update l (Obj.mapSeq f),toks:=t'}:=by
 have q:=PySem.IsL.update e f
 rw [hf] at q
 refine I.write (x:=l) (e:=l) (by rw [hH];exact trivial) (.inl rfl) (λb' u hb hu=>(Heap.get?_update_other s.heap (Obj.mapSeq f) (Ne.symm hb)).trans hu) ⟨_,q⟩ ?_
 exact ⟨hz,its',_,hv,q⟩
theorem Inv.w8 {its:List Value}{t':Nat}(I:Inv X pins σ H s)(hv:Vals ys its)(hz:ys.length<=sizeLine):
 Inv X pins σ (upd H s.heap.objs.size (.lst ys)) {s with heap:=s.heap.push {cls:=.type "list",data:=.seq its.toArray},toks:=t'}:=
 I.laid (λ_ _ q=>Heap.get?_push_of_some _ q) (Nat.le_refl _) ⟨hz,its,0,hv,Heap.get?_push_size _ rfl⟩
theorem Inv.fresh (I:Inv X pins σ H s):H s.heap.objs.size=none:=I.hok.fresh (Nat.le_refl _)
theorem Inv.mB (I:Inv X pins σ H s)(hH:H l=some (.lst xs)):xs.length<=sizeLine/\∃(its:List Value) (n:Nat),Vals xs its/\xs.length=its.length/\s.heap.get? l=some {cls:=.type "list",data:=.seq its.toArray n}:=by
 obtain ⟨z,its,n,r,e⟩:=I.hok l _ hH
 exact ⟨z,its,n,r,r.length,e⟩
theorem sJ {n:Nat}(h:n<=sizeLine):Builtin.List.listTooLong n=false:=by
 unfold Builtin.List.listTooLong
 exact decide_eq_false (by omega)
end
section
variable {X:Cx}
def vj:V->List V->Hp->VK->Prop:=λx vs H Q=>∃l xs y,x= .ref l/\vs=[y]/\H l=some (.lst xs)/\xs.length < sizeLine/\Q .non (upd H l (.lst (xs++[y])))
theorem fW:A1 X "list.append" vj:=by
 intro pins s σ H x vs v us Q I rx rv h
 obtain ⟨l,xs,y,rfl,rfl,hH,hz,q⟩:=h
 cases rx
 obtain ⟨u,rfl,ru⟩:=rv.one
 obtain ⟨z,its,n,r,hl,e⟩:=I.mB hH
 refine call_meets F.slot_list_append ⟨_,e,rfl⟩ F.entry_list_append (F.args_list_append_2 _ _) (PySem.list_append l its.toArray n u (by rw [List.size_toArray];omega)) ⟨e,?_⟩
 refine ⟨.non,_,I.xB (its':=its++[u]) hH e (by simp) (r.append (.cons ru .nil)) ?_,rfl,q⟩
 rw [List.length_append,List.length_singleton]
 omega
def BY:V->List V->Hp->VK->Prop:=λx vs H Q=>∃l xs y,x= .ref l/\vs=[]/\H l=some (.lst xs)/\xs[xs.length - 1]?=some y/\Q y (upd H l (.lst xs.dropLast))
theorem wo:A1 X "list.pop" BY:=by
 intro pins s σ H x vs v us Q I rx rv h
 obtain ⟨l,xs,y,rfl,rfl,hH,hy,q⟩:=h
 cases rx
 have hus:=rv.zero
 subst hus
 obtain ⟨z,its,n,r,hl,e⟩:=I.mB hH
 obtain ⟨u,hu,ru⟩:=r.get hy
 have hy':its.toArray[its.toArray.size - 1]?=some u:=by
  show its.toArray[its.length - 1]?=some u
  rw [← Array.getElem?_toList,← hl]
  exact hu
 refine call_meets F.slot_list_pop ⟨_,e,rfl⟩ F.entry_list_pop (F.args_list_pop_1 _) (MeetsSeq.list_pop_last l its.toArray n u hy' (by rw [List.size_toArray];omega)) ⟨e,?_⟩
 refine ⟨y,_,I.xB (its':=its.dropLast) hH e ?_ r.dropLast ?_,ru,q⟩
 ·show its.toArray.eraseIdxIfInBounds (its.toArray.size - 1)=its.dropLast.toArray
  rw [List.size_toArray,List.eraseIdxIfInBounds_toArray,pf]
 ·rw [List.length_dropLast]
  omega
def Bv:R2:=λx y H Q=>∃l b xs zs,x= .ref l/\y= .ref b/\H l=some (.lst xs)/\H b=some (.lst zs)/\xs.length + zs.length<=sizeLine/\∀p,H p=none->Q (.ref p) (upd H p (.lst (xs++zs)))
theorem xr:cP X (binaryOp .Add) Bv:=by
 intro pins s σ H x y v u Q I rx ry h
 obtain ⟨l,b,xs,zs,rfl,rfl,hH,hB,hz,q⟩:=h
 cases rx
 cases ry
 obtain ⟨z,its,n,r,hl,e⟩:=I.mB hH
 obtain ⟨z2,its2,n2,r2,hl2,e2⟩:=I.mB hB
 refine PySem.P.add_list e e2 ?_ (by rw [List.size_toArray,List.size_toArray];omega)
 have ea:its.toArray++its2.toArray=(its++its2).toArray:=by simp
 rw [ea]
 exact ⟨.ref _,_,I.w8 (t':=s.toks) (r.append r2) (by rw [List.length_append];omega),rfl,q _ I.fresh⟩
def Bu:R2:=λx y H Q=>∃l k xs,x= .ref l/\y= .int k/\H l=some (.lst xs)/\ -(2 ^ 63)<=k/\k < 2 ^ 63/\xs.length * k.toNat<=sizeLine/\
 ∀p,H p=none->Q (.ref p) (upd H p (.lst (List.replicate k.toNat xs).flatten))
theorem len_rep {α:Type}(xs:List α)(k:Nat):(List.replicate k xs).flatten.length=k * xs.length:=by
 induction k with
 | zero=>simp
 | succ k ih=>rw [List.replicate_succ,List.flatten_cons,List.length_append,ih,Nat.succ_mul,Nat.add_comm]
theorem zt:cP X (binaryOp .Mult) Bu:=by
 intro pins s σ H x y v u Q I rx ry h
 obtain ⟨l,k,xs,rfl,rfl,hH,h1,h2,hz,q⟩:=h
 cases rx
 obtain ⟨t,rfl⟩:=ry
 obtain ⟨z,its,n,r,hl,e⟩:=I.mB hH
 have hlen:its.toArray.size * k.toNat<=sizeLine:=by rw [List.size_toArray,← hl];exact hz
 have hcap:¬its.toArray.size * k.toNat > (2 ^ 63 - 1) / 8:=by
  have:(sizeLine:Nat)<=(2 ^ 63 - 1) / 8:=by decide
  omega
 have hfit:¬(!Builtin.List.listFitsIndex k)=true:=by
  rw [fitsIndex_both h1 h2]
  exact Bool.false_ne_true
 have hlong:¬Builtin.List.listTooLong (its.toArray.size * k.toNat)=true:=by
  rw [sJ hlen]
  exact Bool.false_ne_true
 have hnew:List.foldl (λx1 x2=>x1++x2) #[] (List.replicate (if its.toArray.isEmpty=true then 0 else k.toNat) its.toArray)=(List.replicate k.toNat its).flatten.toArray:=by
  have f0:∀m:Nat,List.foldl (λx1 x2=>x1++x2) #[] (List.replicate m its.toArray)=(List.replicate m its).flatten.toArray:=λm=>by
   have:=foldl_rep its m []
   rw [List.nil_append] at this
   exact this
  rw [f0]
  cases its with
  | nil=>simp
  | cons a r'=>rw [if_neg (by simp)]
 refine wpAny_binaryOp_repeat_ref (T:="list") (U:="int") (by decide) ⟨_,e,rfl⟩ (λs'=>typeIs_int s' k t) noFill_list_mul F.fills_int_mul F.slot_int_rmul repeat_list F.slot_int_index.lookup
  (call_meets F.slot_int_rmul (typeIs_int s k t) F.entry_int_rmul (F.args_int_rmul_2 _ _) (int___rmul___int_list k t l its.toArray n)
   ⟨e,rfl,⟨_,e,rfl⟩,call_meets F.slot_list_mul ⟨_,e,rfl⟩ F.entry_list_mul (F.args_list_mul_2 _ _) (AutoListH.list___mul___list_int_3 l its.toArray n k t hfit hcap hlong) ⟨e,?_⟩⟩)
 rw [hnew]
 exact ⟨.ref _,_,I.w8 (t':=s.toks) (r.rep k.toNat) (by rw [len_rep,Nat.mul_comm];exact hz),rfl,q _ I.fresh⟩
end
section
variable {prog:Program}{w:World}{A:Around}{E:Value->Shared->Prop}{s:Shared}
end
section
variable {X:Cx}
end
section
variable {κ:Type} [DecidableEq κ]
variable {kvs:List (κ×V)}{vs:List (κ×Value)}
def eE (kvs:List (κ×V))(k:κ):Option V:=(kvs.find? λkv=>decide (kv.1=k)).map (·.2)
def putK (kvs:List (κ×V))(k:κ)(v:V):List (κ×V):=
 if (kvs.any λkv=>decide (kv.1=k))=true then kvs.map (λkv=>if kv.1=k then (kv.1,v) else kv) else kvs++[(k,v)]
theorem jk {p:κ×V}{r:List (κ×V)}{k:κ}(e:p.1=k):eE (p::r) k=some p.2:=by simp [eE,List.find?_cons,e]
theorem ji {p:κ×V}{r:List (κ×V)}{k:κ}(e:¬p.1=k):eE (p::r) k=eE r k:=by simp [eE,List.find?_cons,e]
theorem lJ (k:κ):∀kvs:List (κ×V),(kvs.any λkv=>decide (kv.1=k))=(eE kvs k).isSome
 | []=>rfl
 | p::r=>by
   rw [List.any_cons]
   by_cases e:p.1=k
   ·simp only [jk e,decide_eq_true e,Bool.true_or,Option.isSome_some]
   ·rw [ji e,decide_eq_false e,Bool.false_or];exact lJ k r
theorem iX (kvs:List (κ×V))(k:κ)(v:V):(putK kvs k v).length<=kvs.length + 1:=by
 unfold putK
 split
 ·rw [List.length_map];omega
 ·rw [List.length_append,List.length_cons,List.length_nil];omega
theorem dW.qY {o:Option V}{u:Option Value}(r:dW o u):o.isSome=u.isSome:=by
 cases o with
 | none=>cases u with
   | none=>rfl
   | some _=>exact (show False from r).elim
 | some _=>cases u with
   | none=>exact (show False from r).elim
   | some _=>rfl
theorem dW.getD {o:Option V}{u:Option Value}{d:V}{d':Value}(r:dW o u)(rd:RelV d d'):RelV (o.getD d) (u.getD d'):=by
 cases o with
 | none=>cases u with
   | none=>exact rd
   | some _=>exact (show False from r).elim
 | some _=>cases u with
   | none=>exact (show False from r).elim
   | some _=>exact r
theorem KV.val (r:KV kvs vs)(k:κ):dW (eE kvs k) (valueAt vs k):=by
 unfold KV at r
 induction r with
 | nil=>exact True.intro
 | @cons p q ps qs h t ih=>
   obtain ⟨h1,h2⟩:=h
   by_cases e:p.1=k
   ·have e':q.1=k:=h1.symm.trans e
    have b:valueAt (q::qs) k=some q.2:=by simp [valueAt,List.find?_cons,e']
    rw [jk e,b];exact h2
   ·have e':¬q.1=k:=λz=>e (h1.trans z)
    have b:valueAt (q::qs) k=valueAt qs k:=by simp [valueAt,List.find?_cons,e']
    rw [ji e,b];exact ih
theorem KV.any (r:KV kvs vs)(k:κ):(kvs.any λkv=>decide (kv.1=k))=vs.any λkv=>decide (kv.1=k):=by
 unfold KV at r
 induction r with
 | nil=>rfl
 | cons h t ih=>rw [List.any_cons,List.any_cons,ih,h.1]
theorem KV.tw (r:KV kvs vs)(k:κ){y:V}{u:Value}(ry:RelV y u):
 KV (kvs.map λkv=>if kv.1=k then (kv.1,y) else kv) (vs.map λkv=>if kv.1=k then (kv.1,u) else kv):=by
 unfold KV at r ⊢
 induction r with
 | nil=>exact .nil
 | @cons p q ps qs h t ih=>
   rw [List.map_cons,List.map_cons]
   refine .cons ?_ ih
   obtain ⟨h1,h2⟩:=h
   by_cases e:p.1=k
   ·rw [if_pos e,if_pos (h1.symm.trans e)];exact ⟨h1,ry⟩
   ·rw [if_neg e,if_neg (λz=>e (h1.trans z))];exact ⟨h1,h2⟩
theorem KV.put (r:KV kvs vs)(k:κ){y:V}{u:Value}(ry:RelV y u):KV (putK kvs k y) (stored vs k u):=by
 unfold putK stored
 rw [r.any k]
 by_cases e:(vs.any λkv=>decide (kv.1=k))=true
 ·rw [if_pos e,if_pos e];exact r.tw k ry
 ·rw [if_neg e,if_neg e];exact Paired.snoc r ⟨rfl,ry⟩
theorem KV.length (r:KV kvs vs):kvs.length=vs.length:=Paired.length r
end
section
variable {H:Hp}{kvs:List (List Key×V)}{xs:List (List Key×Addr×Value)}{u:Value}
theorem gI {P:Program}{w:World}{k:Key}(r:RelV (kV k) u):(bH P w).is k u=true:=by
 cases k with
 | inl i=>obtain ⟨t,e⟩:=(show∃t,u=Value.int i t from r);subst e;exact mY P w i t
 | inr x=>obtain ⟨t,e⟩:=(show∃t,u=Value.str x t from r);subst e;exact bo P w x t
theorem kN {P:Program}{w:World}:∀{ks:List Key} {us:List Value},Vals (ks.map kV) us->ItemsAre (bH P w) ks us
 | [],_,r=>by rw [List.map_nil] at r;cases r;exact .nil
 | k::ks,_,r=>by
   rw [List.map_cons] at r
   cases r with
   | cons h t=>exact .cons (gI h) (kN t)
abbrev KT (H:Hp):List (List Key×V)->List (List Key×Addr×Value)->Prop:=Paired λp q=>p.1=q.1/\H q.2.1=some (.tup (p.1.map kV))/\RelV p.2 q.2.2
theorem KT.val (r:KT H kvs xs)(k:List Key):dW (eE kvs k) ((atKey xs k).map (·.2)):=by
 induction r with
 | nil=>exact True.intro
 | @cons p q ps qs h t ih=>
   obtain ⟨h1,_,h2⟩:=h
   by_cases e:p.1=k
   ·have e':q.1=k:=h1.symm.trans e
    have b:atKey (q::qs) k=some q.2:=by simp [atKey,List.find?_cons,e']
    rw [jk e,b];exact h2
   ·have e':¬q.1=k:=λz=>e (h1.trans z)
    have b:atKey (q::qs) k=atKey qs k:=by simp [atKey,List.find?_cons,e']
    rw [ji e,b];exact ih
theorem KT.tw (r:KT H kvs xs)(k:List Key){y:V}(ry:RelV y u):
 KT H (kvs.map λkv=>if kv.1=k then (kv.1,y) else kv) (xs.map (putAt k u)):=by
 induction r with
 | nil=>exact .nil
 | @cons p q ps qs h t ih=>
   rw [List.map_cons,List.map_cons]
   refine .cons ?_ ih
   obtain ⟨h1,h2,h3⟩:=h
   unfold putAt
   by_cases e:p.1=k
   ·rw [if_pos e,if_pos (h1.symm.trans e)];exact ⟨h1,h2,ry⟩
   ·rw [if_neg e,if_neg (λz=>e (h1.trans z))];exact ⟨h1,h2,h3⟩
theorem KT.put (r:KT H kvs xs)(k:List Key){b:Addr}{y:V}(hb:H b=some (.tup (k.map kV)))(ry:RelV y u):
 KT H (putK kvs k y) (storedH xs k b u):=by
 have e:(kvs.any λkv=>decide (kv.1=k))=(atKey xs k).isSome:=by
  rw [lJ,(r.val k).qY,Option.isSome_map]
 unfold putK storedH
 rw [e]
 by_cases q:(atKey xs k).isSome=true
 ·rw [if_pos q,if_pos q];exact r.tw k ry
 ·rw [if_neg q,if_neg q];exact Paired.snoc r ⟨rfl,hb,ry⟩
theorem KT.keeps {H':Hp}(r:KT H kvs xs)(ht:∀b ys,H b=some (.tup ys)->H' b=some (.tup ys)):KT H' kvs xs:=
 Paired.sM r λ_ _ z=>⟨z.1,ht _ _ z.2.1,z.2.2⟩
end
section
variable {P:Program}{w:World}{H:Hp}{h:Heap}{a:Addr}
theorem tL {u:HO}(ok:bY P w H h)(e:Rd H a u):bG P w H h a u:=e.ok ok
theorem jM {kvs:List (Key×V)}(ok:bY P w H h)(e:Rd H a (.dK kvs)):kvs.length<=sizeLine/\(a==sysModules)=false/\∃vs,KV kvs vs/\h.DictOf (bH P w) a vs:=
 show bG P w H h a (.dK kvs) from tL ok e
theorem ur {kvs:List (Key×V)}(ok:bY P w H h)(e:H a=some (.dK kvs)):kvs.length<=sizeLine/\(a==sysModules)=false/\∃vs,KV kvs vs/\h.DictOf (bH P w) a vs:=jM ok (.inl e)
theorem jP {ks:List Key}(ok:bY P w H h)(e:H a=some (.tup (ks.map kV))):(tupleKind (bH P w)).is h ks a:=by
 obtain ⟨_,its,r,o,h1,h2,n,h3⟩:=(show bG P w H h a (.tup (ks.map kV)) from ok a _ e)
 exact ⟨o,its.toArray,n,h1,h2,h3,by simpa using kN r⟩
theorem jX {kvs:List (List Key×V)}(ok:bY P w H h)(e:Rd H a (.dT kvs)):kvs.length<=sizeLine/\(a==sysModules)=false/\
 ∃xs,KT H kvs xs/\h.DictOfH (tupleKind (bH P w)) a xs:=by
 obtain ⟨z,y,xs,r,o,es,ep,h1,h2,h3,h4,h5⟩:=(show bG P w H h a (.dT kvs) from tL ok e)
 refine ⟨z,y,xs,r,o,es,ep,h1,h2,h3,h4,λx hx=>?_,h5⟩
 have all:∀{l:List (List Key×V)} {m:List (List Key×Addr×Value)},KT H l m->∀x∈m,(tupleKind (bH P w)).is h x.1 x.2.1:=by
  intro l m q
  induction q with
  | nil=>intro x hx;exact nomatch hx
  | @cons p q ps qs hq t ih=>
    intro x hx
    rcases List.mem_cons.mp hx with e | hx
    ·subst e
     exact jP ok (by rw [← hq.1];exact hq.2.1)
    ·exact ih x hx
 exact all r x hx
theorem Ar {kvs:List (List Key×V)}(ok:bY P w H h)(e:H a=some (.dT kvs)):kvs.length<=sizeLine/\(a==sysModules)=false/\
 ∃xs,KT H kvs xs/\h.DictOfH (tupleKind (bH P w)) a xs:=jX ok (.inl e)
end
def gN (H:Hp)(a:Addr)(y:V)(r:Option V):Prop:=
 (∃kvs k,Rd H a (.dK kvs)/\y=kV k/\r=eE kvs k)∨∃kvs k b,Rd H a (.dT kvs)/\y= .ref b/\H b=some (.tup (k.map kV))/\r=eE kvs k
def mi (H:Hp)(a:Addr)(y v:V)(H':Hp):Prop:=
 (∃kvs k,H a=some (.dK kvs)/\y=kV k/\kvs.length < sizeLine/\H'=upd H a (.dK (putK kvs k v)))∨
 ∃kvs k b,H a=some (.dT kvs)/\y= .ref b/\H b=some (.tup (k.map kV))/\kvs.length < sizeLine/\H'=upd H a (.dT (putK kvs k v))
theorem gN.k {H:Hp}{a:Addr}{kvs:List (Key×V)}{k:Key}(e:H a=some (.dK kvs)):gN H a (kV k) (eE kvs k):=.inl ⟨kvs,k,.inl e,rfl,rfl⟩
theorem mi.k {H:Hp}{a:Addr}{kvs:List (Key×V)}{k:Key}{v:V}(e:H a=some (.dK kvs))(hl:kvs.length < sizeLine):mi H a (kV k) v (upd H a (.dK (putK kvs k v))):=.inl ⟨kvs,k,e,rfl,hl,rfl⟩
section
variable {X:Cx}{pins:List (Addr×Obj)}{σ:St}{H:Hp}{s:Shared}{a:Addr}{y v:V}{u r:Value}{o:Option V}{A:Around}{E:Value->Shared->Prop}
theorem Inv.big (I:Inv X pins σ H s):sysModules < s.heap.objs.size:=by
 have h:mainGlobals < s.heap.objs.size:=(I.mod.glob.keeps I.bk).lt
 exact Nat.lt_trans (by decide) h
theorem pY {Q:Value->Shared->Prop}(hu:A.units + 1 < cLine)(I:Inv X pins σ H s)(g:gN H a y (some v))(ry:RelV y u)(h:∀w' s',Inv X pins σ H s'->RelV v w'->Q w' s'):
 wpAny (model X.prog X.w) A (getItem (.ref a) u) Q E s:=by
 rcases g with ⟨kvs,k,e,ey,l⟩ | ⟨kvs,k,b,e,ey,eb,l⟩
 ·subst ey
  obtain ⟨z,hd,vs,rel,dd⟩:=jM I.hok e
  obtain ⟨w',hw,rw'⟩:=dW.some_of (v:=v) (o:=valueAt vs k) (by rw [l];exact rel.val k)
  exact wpAny_getItem_of (gI ry) dd.mapOf hw (h w' _ (I.tok _) rw')
 ·subst ey
  cases (show u=Value.ref b from ry)
  obtain ⟨z,hd,xs,rel,dd⟩:=jX I.hok e
  obtain ⟨w',hw,rw'⟩:=dW.some_of (v:=v) (o:=(atKey xs k).map (·.2)) (by rw [l];exact rel.val k)
  obtain ⟨p,hp,hp2⟩:=Option.map_eq_some_iff.mp hw
  refine wpAny_getItem_heap (tupleKind_room_in1 hu) (jP I.hok eb) dd hp ?_
  rw [hp2]
  exact h w' _ (I.tok _) rw'
theorem nR {h':Heap}{t':Nat}{ob:HO}(I:Inv X pins σ H s)(mu:qf (H a))(hs:Heap.SameBut a s.heap h')(he:∃q,h'.get? a=some q)(new:bG X.prog X.w (upd H a ob) h' a ob):
 Inv X pins σ (upd H a ob) {s with heap:=h',toks:=t'}:=
 I.write (x:=a) (e:=a) mu (.inl rfl) (λb q hb z=>(hs.2 b hb).trans z) he new
theorem qu {P:Program}{w:World}{H':Hp}{h':Heap}{kvs:List (Key×V)}{vs:List (Key×Value)}(z:kvs.length<=sizeLine)(hd:(a==sysModules)=false)(rel:KV kvs vs)(dd:h'.DictOf (bH P w) a vs):
 bG P w H' h' a (.dK kvs):=⟨z,hd,vs,rel,dd⟩
theorem qB {H':Hp}{Q:Unit->Shared->Prop}(hu:A.units + 1 < cLine)(I:Inv X pins σ H s)(g:mi H a y v H')(ry:RelV y u)(rv:RelV v r)(h:∀s',Inv X pins σ H' s'->Q () s'):
 wpAny (model X.prog X.w) A (setItem (.ref a) u r) Q E s:=by
 rcases g with ⟨kvs,k,e,ey,l,eH⟩ | ⟨kvs,k,b,e,ey,eb,l,eH⟩
 ·subst ey eH
  obtain ⟨z,hd,vs,rel,dd⟩:=ur I.hok e
  have hz:vs.length<=sizeLine:=by rw [← rel.length];exact z
  have hl:(putK kvs k v).length<=sizeLine:=by have:=iX kvs k v;omega
  refine wpAny_setItem_pairs (hsz:=hz) (gI ry) dd λh' dd' hs=>h _ ?_
  have he:∃q,h'.get? a=some q:=let ⟨q,_,_,hq,_⟩:=dd';⟨q,hq⟩
  exact nR I (by rw [e];exact True.intro) hs he (qu hl hd (rel.put k rv) dd')
 ·subst ey eH
  cases (show u=Value.ref b from ry)
  obtain ⟨z,hd,xs,rel,dd⟩:=Ar I.hok e
  have hz:xs.length<=sizeLine:=by rw [← Paired.length rel];exact z
  have hl:(putK kvs k v).length<=sizeLine:=by have:=iX kvs k v;omega
  refine wpAny_setItem_heap (hsz:=hz) (tupleKind_room_in1 hu) (jP I.hok eb) dd λh' dd' hs=>h _ ?_
  obtain ⟨q,es,ep,hq,h2,h3,h4,_,h5⟩:=dd'
  refine nR I (by rw [e];exact True.intro) hs ⟨q,hq⟩ ⟨hl,hd,_,(rel.put k eb rv).keeps λc ys ec=>?_,q,es,ep,hq,h2,h3,h4,h5⟩
  rw [aE (Ap ec e (λz=>nomatch z))]
  exact ec
end
section
variable {X:Cx}{pins:List (Addr×Obj)}{σ:St}{H:Hp}{s:Shared}{a:Addr}{kvs:List (Key×V)}{k:Key}{u:Value}{A:Around}{E:Value->Shared->Prop}
end
def oF (i:Expr):Prop:=∀ov iv,subscripted i false ov iv=operate [ov,iv] (getItem ov iv)
theorem nq {prog:Program}{w:World}{A:Around}{E:Value->Shared->Prop}{s:Shared}{env:Env}{value slice:Expr}{pos:Pos}{T id:String}{Q:Value->Shared->Prop}
 (hl:typeLookup (.type T) "__getitem__"=pure (some (.builtin id))) (hs:oF slice)
 (h:wpAny (model prog w) A (eval value env) (λo s₁=>wpAny (model prog w) A (eval slice env) (λi s₂=>s₂.TypeIs o T/\wpAny (model prog w) A (getItem o i) Q E s₂) E s₁) E s):
 wpAny (model prog w) A (eval (.Subscript value slice pos) env) Q E s:=by
 refine Subscript_ (wpAny_mono h (λo s₁ h₁=>wpAny_mono h₁ (λi s₂ h₂=>?_) λ_ _ x=>x) λ_ _ x=>x)
 obtain ⟨hT,h₂⟩:=h₂
 unfold subscriptTail
 refine wpAny_bind ?_
 rw [getitemInPython_of_ne hT.not_modules]
 refine wpAny_bind (wpAny_specialOf hT hl ?_)
 have fin:wpAny (model prog w) A (subscripted slice false o i) (λr s₃=>wpAny (model prog w) A (letTemporaryGo value o r >>=λ_=>pure r) Q E s₃) E s₂:=by
  rw [hs o i]
  exact wpAny_operating (wpAny_mono h₂ (λr s₃ h₃=>wpAny_bind (wpAny_letTemporaryGo (wpAny_pure h₃))) λ_ _ x=>x)
 first
  | exact wpAny_pure (wpAny_bind fin)
  | exact wpAny_bind (wpAny_pure (wpAny_bind fin))
  | exact wpAny_bind fin
theorem mW {X:Cx}{pins:List (Addr×Obj)}{σ:St}{H:Hp}{s:Shared}{a:Addr}{y:V}{o:Option V}(I:Inv X pins σ H s)(g:gN H a y o):s.TypeIs (.ref a) "dict":=by
 rcases g with ⟨kvs,k,e,_,_⟩ | ⟨kvs,k,b,e,_,_,_⟩
 ·obtain ⟨_,_,vs,_,dd⟩:=jM I.hok e
  exact dd.typeIs
 ·obtain ⟨_,_,xs,_,dd⟩:=jX I.hok e
  exact dd.typeIs
def zG (td ty:TE):TE:=λσ H Q=>td σ H λx H1=>ty σ H1 λy H2=>∃a v,x= .ref a/\gN H2 a y (some v)/\Q v H2
def Aa (td ty tv:TE):TS:=λD σ H=>tv σ H λv H1=>td σ H1 λx H2=>ty σ H2 λy H3=>∃a H4,x= .ref a/\mi H3 a y v H4/\D.nx σ H4
section
variable {X:Cx}{o i e value:Expr}{pos pos' tpos:Pos}{td ty tv:TE}
theorem vQ (hu:X.A.units + 1 < cLine)(ho:PE X o td)(hi:PE X i ty)(hs:oF i):PE X (.Subscript o i pos) (zG td ty):=by
 intro pins s σ H Q I h
 refine nq PySem.F.slot_dict_getitem.lookup hs (aT (ho pins s σ H _ I h) λu s1 ⟨x,H1,I1,rx,q1⟩=>aT (hi pins s1 σ H1 _ I1 q1) λiv s2 ⟨y,H2,I2,ry,a,v,ex,g,q2⟩=>?_)
 subst ex
 obtain rfl:u=Value.ref a:=rx
 exact ⟨mW I2 g,pY hu I2 g ry λw' s3 I3 rw'=>⟨v,H2,I3,rw',q2⟩⟩
theorem vz (hu:X.A.units + 1 < cLine)(ho:PE X o td)(hi:PE X i ty)(hv:PE X value tv)(hs:swapsWith value (some (.Subscript o i pos')) pos.line X.env=pure false):
 PS X (.Assign [.Subscript o i pos'] value pos) (Aa td ty tv):=by
 intro pins s σ H D I h
 refine wpAny_Assign_Subscript (aT (hv pins s σ H _ I h) λr s1 ⟨v,H1,I1,rv,q1⟩=>aT (ho pins s1 σ H1 _ I1 q1) λu s2 ⟨x,H2,I2,rx,q2⟩=>aT (hi pins s2 σ H2 _ I2 q2) λiv s3 ⟨y,H3,I3,ry,a,H4,ex,g,q3⟩=>?_) hs
 subst ex
 obtain rfl:u=Value.ref a:=rx
 exact qB hu I3 g ry rv λs4 I4=>⟨σ,H4,I4,q3⟩
end
section
variable {X:Cx}{pos:Pos}
end
structure M2 (X:Cx) (o:Expr) (m:Str) (apos:Pos) (e f:Expr) (cpos:Pos):Prop where
 base:attributeBase o m X.env (eval o X.env)=eval o X.env
 few:((backTo cpos (starEach [e,f] X.env)).all (λx=> !x.1)&&(backToKw cpos (keywordEach [] X.env)).all (λx=>x.1.isSome)
  &&decide (([e,f]:List Expr).length + ([]:List Keyword).length + (if ([]:List Keyword).isEmpty then 0 else 1) < 30))=true
 line:(apos.endLine==cpos.line)=true
 trees:backTo cpos (starEach [e,f] X.env)=[(false,eval e X.env),(false,eval f X.env)]
def A9 (H:Hp)(a:Addr):Prop:=(∃kvs,Rd H a (.dK kvs))∨∃kvs,Rd H a (.dT kvs)
theorem xf {X:Cx}{pins:List (Addr×Obj)}{σ:St}{H:Hp}{s:Shared}{a:Addr}(I:Inv X pins σ H s)(d:A9 H a):
 s.TypeIs (.ref a) "dict"/\(∀b,Value.ref a= .ref b->∃ob,s.heap.get? b=some ob/\ob.dict=none)/\(a==sysModules)=false:=by
 rcases d with ⟨kvs,e⟩ | ⟨kvs,e⟩
 ·obtain ⟨_,hd,vs,_,dd⟩:=jM I.hok e
  refine ⟨dd.typeIs,λb q=>?_,hd⟩
  cases q
  obtain ⟨ob,_,_,h1,h2,_⟩:=dd
  exact ⟨ob,h1,h2.2.1⟩
 ·obtain ⟨_,hd,xs,_,dd⟩:=jX I.hok e
  refine ⟨dd.typeIs,λb q=>?_,hd⟩
  cases q
  obtain ⟨ob,_,_,h1,h2,_⟩:=dd
  exact ⟨ob,h1,h2.2.1⟩
section
variable {X:Cx}{pins:List (Addr×Obj)}{σ:St}{H:Hp}{s:Shared}{a:Addr}{y d:V}{u r:Value}{o:Option V}{A:Around}{E:Value->Shared->Prop}
theorem yU {Q:Value->Shared->Prop}(hu:A.units + 1 < cLine)(I:Inv X pins σ H s)(g:gN H a y o)(ry:RelV y u)(rd:RelV d r)(h:∀w' s',Inv X pins σ H s'->RelV (o.getD d) w'->Q w' s'):
 wpAny (model X.prog X.w) A (call (.builtin "dict.get") [.ref a,u,r]) Q E s:=by
 rcases g with ⟨kvs,k,e,ey,l⟩ | ⟨kvs,k,b,e,ey,eb,l⟩
 ·subst ey
  obtain ⟨z,hd,vs,rel,dd⟩:=jM I.hok e
  refine call_meetsIn PySem.F.slot_dict_get dd.typeIs PySem.F.entry_dict_get (PySem.F.args_dict_get_3 _ _ _) (meets_dict_get_default (bH X.prog X.w) a (gI ry) hd r) ⟨_,dd.mapOf,h _ _ (I.tok _) ?_⟩
  rw [l]
  exact (rel.val k).getD rd
 ·subst ey
  cases (show u=Value.ref b from ry)
  obtain ⟨z,hd,xs,rel,dd⟩:=jX I.hok e
  refine call_meetsIn PySem.F.slot_dict_get dd.typeIs PySem.F.entry_dict_get (PySem.F.args_dict_get_3 _ _ _) (meetsH_dict_get_default (tupleKind (bH X.prog X.w)) a b hd r) ⟨tupleKind_room_in1 hu,k,xs,jP I.hok eb,dd,h _ _ (I.tok _) ?_⟩
  rw [l]
  exact (rel.val k).getD rd
end
def yk (td ty tx:TE):TE:=λσ H Q=>td σ H λx H1=>∃a,x= .ref a/\A9 H1 a/\ty σ H1 λy H2=>tx σ H2 λz H3=>∃o,gN H3 a y o/\Q (o.getD z) H3
section
variable {X:Cx}{o e f:Expr}{apos cpos:Pos}{td ty tx:TE}
theorem rX (hu:X.A.units + 1 < cLine)(ho:PE X o td)(he:PE X e ty)(hf:PE X f tx)(m:M2 X o "get" apos e f cpos):PE X (.Call (.Attribute o "get" apos) [e,f] [] cpos) (yk td ty tx):=by
 intro pins s σ H Q I h
 refine wpAny_Call_method m.base m.few m.line PySem.F.plainAttrs_dict PySem.F.slot_dict_get PySem.F.type_dict_get (aT (ho pins s σ H _ I h) λu s1 ⟨x,H1,I1,rx,a,ex,d,q1⟩=>?_)
 subst ex
 obtain rfl:u=Value.ref a:=rx
 obtain ⟨t1,t2,_⟩:=xf I1 d
 refine ⟨t1,t2,?_⟩
 rw [m.trees]
 refine Calls.callWith_builtin rfl (Calls.evalArgs_plain (Calls.spliced_cons (aT (he pins s1 σ H1 _ I1 q1) λiv s2 ⟨y,H2,I2,ry,q2⟩=>
  Calls.spliced_cons (aT (hf pins s2 σ H2 _ I2 q2) λfv s3 ⟨z,H3,I3,rz,ov,g,q3⟩=>Calls.spliced_nil ?_))))
 exact yU hu I3 g ry rz λw' s4 I4 rw'=>⟨_,H3,I4,rw',q3⟩
end
section
variable {X:Cx}{pins:List (Addr×Obj)}{σ:St}{H:Hp}{s:Shared}{a:Addr}{kvs:List (Key×V)}{A:Around}{E:Value->Shared->Prop}
end
section
variable {X:Cx}{pins:List (Addr×Obj)}{σ:St}{H:Hp}{s:Shared}{a:Addr}{y:V}{u:Value}{A:Around}{E:Value->Shared->Prop}
end
end L2
namespace Att
open PySem PySem.W PySem.Calls PyProof.Rows
theorem jx {P:Params}{h:Heap}:∀(ns:List Int) (vs:List Value),WellAll P h vs (ns.map WData.int)->IntsAre vs ns:=by
 intro ns
 induction ns with
 | nil=>
   intro vs w
   rw [List.map_nil] at w
   cases w
   exact .nil
 | cons n ns ih=>
   intro vs w
   rw [List.map_cons] at w
   cases w with
   | cons a b=>
     cases a
     exact .cons _ _ (ih _ b)
theorem pD {l:OpenLaw}{n:Nat}(hn:l.most=some n){P:Params}{h:Heap}{args:List WData}{vals:List Value}
 (hpre:l.row.toRowW.claim.pre args=true) (hwl:WellAll P h vals args):
 ∃a vs ns,vals=[Value.ref a]/\args=[WData.list (ns.map WData.int)]/\h.get? a=some {cls:=.type "list",data:=.seq vs.toArray}/\IntsAre vs ns/\ns.length<=n:=by
 have hsh:WShape.hasAll [] args [.list .int]=true:=(pre_splitW hpre).1
 have hc:l.pre.holds [] {args:=args}=true:=(pre_splitW hpre).2
 obtain ⟨d,r,rfl,h1,h2⟩:=hasAllW_cons hsh
 obtain rfl:=hasAllW_nil h2
 obtain ⟨xs,rfl,h3⟩:=hasW_list h1
 obtain ⟨ns,rfl⟩:=items_int h3
 have hlen:ns.length<=n:=by
  unfold OpenLaw.pre at hc
  have h4:(WTm.not (.lt (.lit (.int (n:Int))) (.len (.arg 0)))).holds [] {args:=[.list (ns.map .int)]}=true:=by
   have h4:=(holds_andW hc).1
   rw [hn] at h4
   exact h4
  have h5:=condW_of h4 (w_not (w_lt w_lit (w_len_list (w_arg rfl))))
  rw [List.length_map] at h5
  refine Nat.le_of_not_lt λq=>?_
  have q':(n:Int) < ((ns.length:Nat):Int):=by omega
  first
   | (rw [decide_eq_true q'] at h5;exact absurd h5 (by decide))
   | (simp at h5;omega)
 cases hwl with
 | cons w1 w2=>
   cases w2
   cases w1 with
   | list ho hall=>exact ⟨_,_,ns,rfl,rfl,ho,jx ns _ hall,hlen⟩
theorem pF (l:OpenLaw)(args:List WData):l.row.toRowW.claim.post args (.bool true) args=true:=
 postW_of (r:=l.row.toRowW) (X:=(true==true))
  (show WShape.has [] (.bool true) .bool=true by first | rfl | decide | simp [WShape.has,WShape.arms,WShape.armsAll])
  (show (WTm.eq .res (.lit (.bool true))).value [] {args:=args,res:=some (.bool true),after:=args}=some (.bool (true==true)) from w_eq_bool (w_res rfl) w_lit) rfl
section
variable {prog:Program}{w:World}{A:Around}{E:Value->Shared->Prop}{s:Shared}{K:Frag}
end
end Att
namespace L2
open PySem PySem.Spec PyProof.Rows
theorem hU:∀{vs:List Value} {ns:List Int},IntsAre vs ns->Vals (ns.map V.int) vs
 | _,_,.nil=>.nil
 | _,_,.cons n t h=>.cons ⟨t,rfl⟩ (hU h)
def sy (H:Hp):Prop:=∀b,H b=none∨∃o xs,H b=some (.frz o (.lst xs))
theorem r8 {P:Program}{w:World}{K:PySem.W.Frag}{mg mb:Str->Option Value}{CX:gx}{k:Nat}{fa a:Addr}{fd:FuncData}{x:Str}{sp:Sp}{s₁:Shared}{vs:List Value}{ns:List Int}
 (KX:K.In s₁.heap) (hns:s₁.heap.Ns mainGlobals mg) (hb:s₁.heap.Ns builtinsNs mb) (hbb:∀x:Str,x≠"__name__"->mb x=bootBuiltins x) (hlim:s₁.heap.NoLimit) (hg:s₁.gens= #[])
 (ha:s₁.heap.get? a=some {cls:=.type "list",data:=.seq vs.toArray}) (hi:IntsAre vs ns) (hl:ns.length<=sizeLine) (hr:bj k callerA)
 (F:∀base:Heap,K.In base->base.Ns mainGlobals mg->cJ P w K mg base CX k fa fd [x] sp) (hbind:∀(s:Shared) (u:Value),BindsTo s fd ⟨[u],[]⟩ [(x,u)])
 (hsp:∀H:Hp,sy H->bz K H a (ns.map V.int)->sp [.ref a] H (λv _=>v= .bl true) λ_ _ _=>False)
 (hCX:∀H e s',CX [] H s₁ (λ_ _ _=>False) e s'->False):
 codeAny (model P w) callerA (.call (.ref fa) ⟨[.ref a],[]⟩) (λr s'=>r= .ok (.ret (.bool true))/\OldK s₁.heap s'.heap/\s'.os=s₁.os/\AllBare s'.gens) s₁:=by
 have rv:=hU hi
 have lenV:=hi.length
 -- from an abstract heap in which nothing but the script may be tracked
 have core:∀H:Hp,sy H->bz K H a (ns.map V.int)->bY P w H s₁.heap->(∀b,H b≠none->b=a)->(H a≠none->K.lookup a=none)->
  codeAny (model P w) callerA (.call (.ref fa) ⟨[.ref a],[]⟩) (λr s'=>r= .ok (.ret (.bool true))/\OldK s₁.heap s'.heap/\s'.os=s₁.os/\AllBare s'.gens) s₁:=by
  intro H hO hS hok hA hK
  have base_of:∀{b:Addr} {o:Obj},s₁.heap.get? b=some o->H b=none->(gQ s₁.heap H).get? b=some o:=λe n=>rG e n
  have noA:∀{b:Addr} {o:Obj} {es:Array DictEntry} {ep:Nat},s₁.heap.get? b=some o->o.data= .dict es ep->H b=none:=λ{b o es ep} e d=>by
   cases q:H b with
   | none=>rfl
   | some u=>
     have e':b=a:=hA b (by rw [q];simp)
     subst e'
     rw [ha] at e;cases e
     have d':Data.seq vs.toArray _=Data.dict es ep:=d
     cases d'
  have nsK:∀{b:Addr} {m:Str->Option Value},s₁.heap.Ns b m->(gQ s₁.heap H).Ns b m:=λ{b m} ⟨o,es,ep,e,d,r⟩=>⟨o,es,ep,base_of e (noA e d),d,r⟩
  have hKb:K.In (gQ s₁.heap H):=λb o e=>base_of (KX b o e) (by
   cases q:H b with
   | none=>rfl
   | some u=>
     have e':b=a:=hA b (by rw [q];simp)
     subst e'
     rw [hK (by rw [q];simp)] at e;cases e)
  have hM:Mod K mg (gQ s₁.heap H):=⟨hKb,nsK hns,⟨mb,nsK hb,hbb⟩,let ⟨mc,h1,h2⟩:=hlim;⟨mc,nsK h1,h2⟩⟩
  have e0:jj P w K mg (gQ s₁.heap H) callerA [] s₁ H:=⟨rfl,hM,λb o e=>vD e,Nat.le_of_eq (qA _ _),trivial,λb hb=>absurd (show b∈([]:List Addr) from hb) (by simp),hok,.of_eq hg⟩
  refine codeAny_mono ((F _ hKb (nsK hns)).run callerA [] s₁ H ⟨[.ref a],[]⟩ [.ref a] [.ref a] _ _ hr e0 (hbind s₁ (.ref a)) (.cons rfl .nil) (hsp H hO hS)) λr s' h=>?_
  cases r with
  | error e=>exact (hCX H e s' h).elim
  | ok fl=>
    cases fl with
    | next=>exact False.elim h
    | brk=>exact False.elim h
    | cont=>exact False.elim h
    | ret u=>
      obtain ⟨v,H',os,bare,un,hok',r',q⟩:=h
      have q':v= .bl true:=q
      subst q'
      obtain rfl:u=Value.bool true:=r'
      refine ⟨rfl,OldK.of_keep λb o e=>?_,os,bare⟩
      cases q:H b with
      | none=>exact un.keep b o e q (by intro z;exact absurd (show b∈([]:List Addr) from z) (by simp)) (by simp)
      | some u=>
        rcases hO b with z | ⟨ob,xs,z⟩
        ·rw [q] at z;cases z
        ·have z2:=un.frzs b ob _ z
         obtain ⟨e1,_⟩:=hok b _ z
         obtain ⟨e2,_⟩:=hok' b _ z2
         rw [e] at e1;cases e1
         exact e2
 cases hk:K.lookup a with
 | some o=>
   -- the script is one of the module's own objects
   have e:=KX a o hk
   rw [ha] at e
   cases e
   refine core (λ_=>none) (λ_=>.inl rfl) (.inr ⟨_,vs.toArray,_,hk,rfl,rfl,rfl,by rw [List.size_toArray,lenV];exact hl,by simpa using rv⟩) (λb u z=>by have z':(none:Option HO)=some u:=z;cases z') (λb z=>absurd rfl z) λz=>absurd rfl z
 | none=>
   refine core (λb=>if b=a then some (.frz {cls:=.type "list",data:=.seq vs.toArray} (.lst (ns.map V.int))) else none) (λb=>?_) (.inl (.inr ⟨{cls:=.type "list",data:=.seq vs.toArray},if_pos rfl⟩)) (λb u z=>?_) (λb z=>?_) λ_=>hk
   ·by_cases hb:b=a
    ·exact .inr ⟨_,_,if_pos hb⟩
    ·exact .inl (if_neg hb)
   ·by_cases hb:b=a
    ·have z':=(if_pos hb).symm.trans z
     cases z'
     subst hb
     exact ⟨ha,by rw [List.length_map];exact hl,vs,_,rv,ha⟩
    ·have z':=(if_neg hb).symm.trans z
     cases z'
   ·by_cases hb:b=a
    ·exact hb
    ·exact absurd (if_neg hb) z
abbrev bt {K:PySem.W.Frag}{h:Heap}(_:K.In h):PySem.W.Frag:=K
def dF (s:Stmt):Arguments:=match s with
 | .FunctionDef _ a _ _ _ _ _ _ _ _=>a
 | _=>{posonlyargs:=[],args:=[],vararg:=none,kwonlyargs:=[],kw_defaults:=[],kwarg:=none,defaults:=[]}
def bT (s:Stmt):List Stmt:=match s with
 | .FunctionDef _ _ b _ _ _ _ _ _ _=>b
 | _=>[]
def aq (s:Stmt):Scope:=match s with
 | .FunctionDef _ _ _ _ _ _ sc _ _ _=>sc
 | _=>{kind:=.function,names:=[],isGenerator:=false,isCoroutine:=false}
abbrev dJ:gx:=λ_ _ _ _ _ _=>False
abbrev E0:XK:=λ_ _ _=>False
theorem gP {X:Cx}:Passes dJ X E0:=λ_ _ _ _ _ _ _ h=>h.elim
structure bX (K:PySem.W.Frag) (x qual:Str) (st:Stmt) (f:Addr) (fd:FuncData):Prop where
 ex:∃(oc:Value) (od:Option Addr) (kV doc pm:Value) (an:Option Addr) (cdv ct:Value) (osl:Array (Option Value)),
  fd=PySem.W.fnOf x qual (dF st) (bT st) (aq st) .none kV doc pm an cdv ct/\K.lookup f=some ⟨oc,od,.func fd,osl⟩/\PySem.W.codeIn K cdv qual=true
 kp:PySem.W.keepIn K (.ref f)=true
section
variable {P:Program}{w:World}{K:PySem.W.Frag}{mg:Str->Option Value}{base:Heap}
variable {x qual:Str}{st:Stmt}{f:Addr}
theorem bX.ok {fd:FuncData}{N ps:List Str}{k:Nat}{sp:Sp}(F:bX K x qual st f fd)(S:aU N ps (aq st))(len:∀vs H Q E,sp vs H Q E->vs.length=ps.length)
 (hbody:∀(cdv:Value) (A:Around) (outer:List Env) (s:Shared) (H:Hp) (vs:List V) (Q:VK) (E:XK),bj k (A.deeper (envOfC qual (aq st) s.heap.objs.size f cdv))->sp vs H Q E->
  ∃t,eZ (cf dJ P w K mg base N qual (aq st) f cdv A outer s H E).cH (bT st) t/\t {nx:=λ_ H'=>Q .non H',rt:=Q} (start N vs) H):cJ P w K mg base dJ (k + 1) f fd ps sp:=by
 obtain ⟨oc,od,kV,doc,pm,an,cdv,ct,osl,rfl,lk,hcd⟩:=F.ex
 refine uk lk hcd S len λA outer s H vs Q E hr hsp=>?_
 obtain ⟨t,h,q⟩:=hbody cdv A outer s H vs Q E hr hsp
 exact ⟨t,h.cH,q⟩
theorem bX.binds {fd:FuncData}{ps:List Str}(F:bX K x qual st f fd)
 (h:∀(kV doc pm:Value) (an:Option Addr) (cdv ct:Value) (us:List Value),us.length=ps.length->bindArgs (PySem.W.fnOf x qual (dF st) (bT st) (aq st) .none kV doc pm an cdv ct) ⟨us,[]⟩=pure (ps.zip us)):Binds K fd ps []:=by
 obtain ⟨oc,od,kV,doc,pm,an,cdv,ct,osl,rfl,lk,hcd⟩:=F.ex
 exact .all (h kV doc pm an cdv ct)
theorem il {oc:Value}{od an:Option Addr}{osl:Array (Option Value)}{kV doc pm cdv ct:Value}(l:K.lookup f=some ⟨oc,od,.func (PySem.W.fnOf x qual (dF st) (bT st) (aq st) .none kV doc pm an cdv ct),osl⟩)
 (c:PySem.W.codeIn K cdv qual=true) (k:PySem.W.keepIn K (.ref f)=true):bX K x qual st f (PySem.W.fnOf x qual (dF st) (bT st) (aq st) .none kV doc pm an cdv ct):=⟨⟨oc,od,kV,doc,pm,an,cdv,ct,osl,rfl,l,c⟩,k⟩
end
section
variable {X:Cx}
end
section
variable {H:Hp}
theorem gJ {A B:Prop}(h:B):if false=true then A else B:=by
 rw [if_neg Bool.false_ne_true]
 exact h
theorem gE {A B:Prop}(h:A):if true=true then A else B:=by
 rw [if_pos rfl]
 exact h
def aw (H H':Hp):Prop:=∀b o,H b=some o->H' b=some o
theorem aw.refl (H:Hp):aw H H:=λ_ _ h=>h
theorem aw.trans {H1 H2:Hp}(a:aw H H1)(b:aw H1 H2):aw H H2:=λc o h=>b c o (a c o h)
theorem aw.free {H':Hp}(e:aw H H'){l:Addr}(h:H' l=Option.none):H l=Option.none:=by
 cases q:H l with
 | none=>rfl
 | some o=>
   rw [e l o q] at h
   cases h
theorem aw.seq {K:PySem.W.Frag}{H':Hp}{a:Addr}{xs:List V}(e:aw H H')(h:bz K H a xs):bz K H' a xs:=by
 rcases h with (h | ⟨o,h⟩) | h
 ·exact .inl (.inl (e _ _ h))
 ·exact .inl (.inr ⟨o,e _ _ h⟩)
 ·exact .inr h
end
section
variable {X:Cx}
end
section
variable {κ:Type} [DecidableEq κ]
end
end L2
set_option maxHeartbeats 4000000
namespace L2
open PySem PySem.Spec PyProof.Rows
section
variable {X:Cx}
variable {elt target iter:Expr}{ifs:List Expr}{scope:Scope}{pos:Pos}{s:Shared}{cl:List (Str×Addr)}{ix:List Nat}{wi:TI}{g:TG}{tc:TT}{te:TE}
def aL (X:Cx)(scope:Scope)(cl:List (Str×Addr))(C:Addr)(N':List Str)(s:Shared)(H:Hp)(ex:List Addr):Cx:=
 {X with N:=N',s₀:=s,H₀:=H,env:=compEnvC scope cl C X.env,outer:=X.stack,stack:=X.stack,ex:=ex,fn:=λ_=>false,pn:=[],xe:=λ_ _=>False}
def PF (X:Cx)(ifs:List Expr)(t:TT):Prop:=
 ∀(pins:List (Addr×Obj)) (s:Shared) (σ:St) (H:Hp) (Q:Bool->Hp->Prop),Inv X pins σ H s->t σ H Q->
  wpAny (model X.prog X.w) X.A (forIn ifs true λc r=>if r=true then do let ok ← isTrue c X.env (eval c X.env);pure (ForInStep.yield ok) else pure (ForInStep.yield r)) (TP X pins σ Q) X.xe s
def BO:TT:=λ_ H Q=>Q true H
theorem wH:PF X [] BO:=by
 intro pins s σ H Q I h
 exact wpAny_pure ⟨H,I,h⟩
theorem yO {c:Expr}{t:TT}(hc:PT X c t):PF X [c] t:=by
 intro pins s σ H Q I h
 show wpAny _ _ (forIn [c] true λc r=>_) _ _ s
 rw [List.forIn_cons]
 simp only [if_true,List.forIn_nil]
 refine wpAny_bind (wpAny_bind (wpAny_mono (hc pins s σ H Q I h) (λb s1 h1=>?_) λ_ _ e=>e))
 exact wpAny_pure (wpAny_pure h1)
theorem mM {prog:Program}{w:World}{A:Around}{R:Result->Shared->Prop}{it acc:Value}{env:Env}(I:Nat->Shared->Prop)
 (turn:∀n s,I n s->wpAny (model prog w) A (pyNext it) (λr s₁=>match r with
  | none=>R (.ok .next) s₁
  | some v=>wpAny (model prog w) A (letOwnedTupleGo target it v) (λ_ s₁'=>wpAny (model prog w) A (assign target env v) (λ_ s₂=>
   wpAny (model prog w) A (forIn ifs true λc r=>if r=true then do let ok ← isTrue c env (eval c env);pure (ForInStep.yield ok) else pure (ForInStep.yield r)) (λok s₃=>
    if ok=true then wpAny (model prog w) A (eval elt env) (λx s₄=>
     wpAny (model prog w) A (call (.builtin "list.append") [acc,x]) (λ_ s₅=>∃m,m < n/\I m s₅) (λ_ _=>False) s₄) (λ_ _=>False) s₃
    else∃m,m < n/\I m s₃) (λ_ _=>False) s₂) (λ_ _=>False) s₁') (λ_ _=>False) s₁) (λ_ _=>False) s)
 (n:Nat) (h:I n s):
 codeAny (model prog w) A (.compLoop (.ListComp elt [⟨target,iter,ifs,0⟩] scope pos) 0 it acc env) R s:=by
 have no:∀{α:Type} {t:Sem α} {Q:α->Shared->Prop} {E:Value->Shared->Prop} {s:Shared},wpAny (model prog w) A t Q (λ_ _=>False) s->wpAny (model prog w) A t Q E s:=λh=>wpAny_mono h (λ_ _ q=>q) λ_ _ f=>f.elim
 refine codeAny_loop rfl I (λn s hI=>?_) n h
 show wpAny _ A ((compTurn (.ListComp elt [⟨target,iter,ifs,0⟩] scope pos) 0 it acc env).onRaise (λx=>do noteFrame x env;theTreesLotGoes x)) _ _ s
 refine wpAny_noted ?_
 rw [compTurn_list]
 refine wpAny_bind (wpAny_standAt (wpAny_bind (wpAny_mono (no (turn n s hI)) (λr s₁ h₁=>?_) λ_ _ h'=>h')))
 cases r with
 | none=>exact wpAny_pure h₁
 | some v=>
   refine wpAny_bind (wpAny_mono (no h₁) (λ_ s₁' h₁'=>?_) λ_ _ h'=>h')
   refine wpAny_bind (wpAny_mono (no h₁') (λ_ s₂ h₂=>wpAny_bind (wpAny_mono (no h₂) (λok s₃ h₃=>?_) λ_ _ h'=>h')) λ_ _ h'=>h')
   cases ok with
   | false=>exact wpAny_pure ⟨rfl,h₃⟩
   | true=>
     exact wpAny_bind (wpAny_bind (wpAny_mono (no h₃) (λx s₄ h₄=>wpAny_bind (wpAny_mono (no h₄) (λ_ s₅ h₅=>wpAny_pure (wpAny_pure ⟨rfl,h₅⟩)) λ_ _ h'=>h')) λ_ _ h'=>h'))
def oV (wi:TI)(g:TG)(tc:TT)(te:TE)(z:St->St):TE:=λσ H Q=>wi σ H λJ H1=>
 ∃W:Nat->Nat->List V->St->Hp->Prop,(∃m,W 0 m [] (z σ) H1)/\∀i m ys σ' H',W i m ys σ' H'->
  ys.length<=sizeLine/\((J.stop i H'/\∀p,H' p=none->Q (.ref p) (upd H' p (.lst ys)))∨
  (J.go i H'/\∀x H2,J.yld i H' x H2->g x σ' H2 λσ2 H3=>tc σ2 H3 λb H4=>
    if b=true then te σ2 H4 λv H5=>∃m',m' < m/\W (i + 1) m' (ys++[v]) σ2 H5 else∃m',m' < m/\W (i + 1) m' ys σ2 H4))
structure cz (X:Cx) (scope:Scope) (cl:List (Str×Addr)) (own fr:List Str) (ix:List Nat):Prop where
 clos:closureFor scope X.env=pure cl
 cells:∀x c,cl.lookup x=some c->X.env.cells.lookup x=some c
 kind:scope.kind= .function
 ncell:∀y∈scope.names,y.2≠ .cell
 names:∀y∈scope.names,y.2= .local->scope.names.lookup y.1=some .local
 has:∀x,scope.names.lookup x=some .free->∃c,cl.lookup x=some c
 frees:∀x∈fr,scope.names.lookup x=some .free
 len:fr.length=ix.length
 at_:∀(k:Nat) (i:Nat) (x:Str),ix[k]?=some i->fr[k]?=some x->X.N[i]?=some x/\X.env.kindOf x=some .cell
theorem eI {env:Env}:∀{names:List (Str×NameKind)} {x:Str} {k:NameKind},
 (names.map λ(n,k)=>if (k==NameKind.free&&env.scope.kind== .function&&env.kindOf n==some .cell) then (n,NameKind.cell) else (n,k)).lookup x=some k->
 ∃k',names.lookup x=some k'/\(k=k'∨(k'= .free/\k= .cell))
 | [],_,_,h=>by simp at h
 | (n,k)::r,x,kk,h=>by
   have ih:=@eI env r x kk
   replace h:List.lookup x ((if (k==NameKind.free&&env.scope.kind== .function&&env.kindOf n==some .cell)=true then (n,NameKind.cell) else (n,k))::_)=some kk:=h
   by_cases hc:(k==NameKind.free&&env.scope.kind== .function&&env.kindOf n==some .cell)=true
   ·rw [if_pos hc] at h
    cases hx:x==n with
    | true=>
      simp only [List.lookup_cons,hx,Option.some.injEq] at h ⊢
      have hk:k= .free:=by
       simp only [Bool.and_eq_true] at hc
       exact eq_of_beq hc.1.1
      exact ⟨k,rfl,.inr ⟨hk,h.symm⟩⟩
    | false=>
      simp only [List.lookup_cons,hx] at h ⊢
      exact ih h
   ·rw [if_neg hc] at h
    cases hx:x==n with
    | true=>
      simp only [List.lookup_cons,hx,Option.some.injEq] at h ⊢
      exact ⟨k,rfl,.inl h.symm⟩
    | false=>
      simp only [List.lookup_cons,hx] at h ⊢
      exact ih h
theorem iB {env:Env}(hf:env.scope.kind= .function):∀{names:List (Str×NameKind)} {x:Str},names.lookup x=some .free->env.kindOf x=some .cell->
 (names.map λ(n,k)=>if (k==NameKind.free&&env.scope.kind== .function&&env.kindOf n==some .cell) then (n,NameKind.cell) else (n,k)).lookup x=some .cell
 | [],_,h,_=>by simp at h
 | (n,k)::r,x,h,hk=>by
   have ih:=@iB env hf r x
   show List.lookup x ((if (k==NameKind.free&&env.scope.kind== .function&&env.kindOf n==some .cell)=true then (n,NameKind.cell) else (n,k))::_)=_
   cases hx:x==n with
   | true=>
     simp only [List.lookup_cons,hx,Option.some.injEq] at h
     have e:x=n:=eq_of_beq hx
     subst e
     subst h
     rw [if_pos (by rw [hf,hk];rfl)]
     simp [List.lookup_cons]
   | false=>
     simp only [List.lookup_cons,hx] at h
     split
     ·simp only [List.lookup_cons,hx];exact ih h hk
     ·simp only [List.lookup_cons,hx];exact ih h hk
def dS (own:List Str)(ix:List Nat)(σ:St):St:=List.replicate own.length none++ix.map λi=>(σ[i]?).join
structure Off (X:Cx) (pins:List (Addr×Obj)) (H:Hp) (s:Shared) (C:Addr):Prop where
 ns:∃m,s.heap.Ns C m
 free:H C=none
 ne:C≠X.env.locals
 young:X.s₀.heap.objs.size<=C
 cell:∀x c,X.env.cells.lookup x=some c->c≠C
 pin:∀p∈X.pn++pins,p.1≠C
theorem kQ {own fr:List Str}
 {use:Option (Value->Sem Unit)} {Qf:Value->Shared->Prop} {pins:List (Addr×Obj)} {σ:St} {H:Hp} {Q:VK}
 (hc:X.calm=true) (S:cz X scope cl own fr ix) (hi:PI X target iter wi)
 (hb:∀(C:Addr) (s:Shared) (H:Hp) (ex:List Addr),PG (aL X scope cl C (own++fr) s H ex) target g/\PF (aL X scope cl C (own++fr) s H ex) ifs tc/\PE (aL X scope cl C (own++fr) s H ex) elt te)
 (hs:∀x,foldedSetIterable iter X.env x=pure x) (I:Inv X pins σ H s) (h:oV wi g tc te (dS own ix) σ H Q)
 (hfin:∀(D C:Addr) (H6:Hp) (s6:Shared),Inv X pins σ H6 s6->Off X pins H6 s6 C->Q (.ref D) H6->compPost (model X.prog X.w) X.A X.xe use Qf (.ref D) C (.ok .next) s6):
 wpAny (model X.prog X.w) X.A (comprehension (.ListComp elt [⟨target,iter,ifs,0⟩] scope pos) scope X.env (firstIterPos [⟨target,iter,ifs,0⟩] pos) (newList []) false (eval iter X.env) use) Qf X.xe s:=by
 refine wpAny_comprehension_free (use:=use) rfl hs S.clos S.kind S.names ?_
 refine aT (hi pins s σ H _ I h) λv s1 h1=>aT h1 λitv s2 h2=>?_
 obtain ⟨it,fp,tn,J,H2,rfl,I2,T,st2,f2,W,⟨m0,w0⟩,turn⟩:=h2
 refine wpAny_newObj_type (wpAny_newFunctionEnv S.ncell (by intro y hy;simp at hy) (λh₁ hns₁ hsb₁=>?_) S.kind)
 dsimp only at hns₁ hsb₁ ⊢
 generalize hH3:s2.heap.push {cls:=.type "list",dict:=none,data:=.seq ([]:List Value).toArray}=h3 at hns₁ hsb₁ ⊢
 have hC:h3.objs.size=s2.heap.objs.size + 1:=by rw [← hH3,Heap.size_push]
 have to3:∀b o,s2.heap.get? b=some o->h3.get? b=some o:=λb o e=>by rw [← hH3];exact Heap.get?_push_of_some _ e
 have getD3:h3.get? s2.heap.objs.size=some {cls:=.type "list",data:=.seq ([]:List Value).toArray}:=by rw [← hH3];exact Heap.get?_push_size _ rfl
 have to1:∀b o,h3.get? b=some o->h₁.get? b=some o:=λb o e=>hsb₁.extBut b o (Nat.ne_of_lt (Heap.lt_size e)) (Heap.get?_push_of_some _ e)
 have frD:∀{b:Addr},b∈fp->b≠s2.heap.objs.size:=λ{b} hb z=>by
  obtain ⟨o,e,_⟩:=T.obj 0 _ st2 b hb
  exact absurd (Heap.lt_size e) (by rw [z];exact Nat.lt_irrefl _)
 have frC:∀{b:Addr},b∈fp->b≠h3.objs.size:=λ{b} hb z=>by
  obtain ⟨o,e,_⟩:=T.obj 0 _ st2 b hb
  exact absurd (Heap.lt_size e) (by rw [z,hC];exact Nat.not_lt.mpr (Nat.le_succ _))
 have HD2:H2 s2.heap.objs.size=none:=I2.hok.fresh (Nat.le_refl _)
 -- the block's context
 let X':Cx:=aL X scope cl h3.objs.size (own++fr) {s2 with heap:=h3} H2 (s2.heap.objs.size::fp)
 have ok':X'.Ok:=by
  refine ⟨I2.ok.mod,S.kind,I2.ok.glob,I2.ok.blt,Nat.le_refl _,λx y c e1 e2=>I2.ok.inj x y c (S.cells x c e1) (S.cells y c e2),λx hx=>?_,λx c z=>?_,I2.ok.hd,I2.ok.frames,.inl rfl,λb hb=>?_,λb o e=>?_,?_,λb o e hb=>?_,λb hb z=>?_,?_,I2.ft⟩
  ·have key:scope.names.lookup x=some .free:=by
    have hx:(relabel scope X.env).names.lookup x=some .cell∨(relabel scope X.env).names.lookup x=some .free:=hx
    rcases hx with hx | hx
    ·obtain ⟨k',e,z⟩:=eI hx
     rcases z with z | z
     ·subst z;exact absurd rfl (S.ncell _ (PySem.mem_of_lookup e))
     ·rw [e,z.1]
    ·obtain ⟨k',e,z⟩:=eI hx
     rcases z with z | z
     ·subst z;exact e
     ·cases z.2
   exact S.has x key
  ·cases z
  ·rcases List.mem_cons.mp hb with rfl | hb
   ·refine ⟨by rw [show X'.env.locals=h3.objs.size from rfl,hC];exact Nat.ne_of_lt (Nat.lt_succ_self _),λx c e z=>?_⟩
    obtain ⟨v',q⟩:=I2.cell x c (S.cells x c e)
    exact absurd q.lt (by rw [z];exact Nat.lt_irrefl _)
   ·exact ⟨frC hb,λx c e=>(f2 b hb).2.2.2.2.1 x c (S.cells x c e)⟩
  ·obtain ⟨e1,e2⟩:=I2.bs b o e
   exact ⟨to3 b o e1,e2⟩
  ·show X.base.objs.size<=h3.objs.size
   have:=I2.ok.bsz;have:=I2.sz
   omega
  ·rcases List.mem_cons.mp hb with rfl | hb
   ·exact absurd (Heap.lt_size (I2.bs _ o e).1) (Nat.lt_irrefl _)
   ·rcases (f2 b hb).2.2.2.1 with z | z
    ·exact I2.ok.noex b o e z
    ·exact absurd (Nat.lt_of_lt_of_le (Nat.lt_of_lt_of_le (Heap.lt_size e) I2.ok.bsz) z) (Nat.lt_irrefl _)
  ·replace z:b∈bR X.stack:=z
   rcases List.mem_cons.mp hb with rfl | hb
   ·obtain ⟨_,o,ho,_⟩:=I2.stack.mem z
    exact absurd (Heap.lt_size ho) (Nat.lt_irrefl _)
   ·rcases List.mem_cons.mp (I2.lW b z) with q | q
    ·exact (f2 b hb).2.1 q
    ·exact (f2 b hb).2.2.1 q
  ·exact I2.stack.of_keeps λb o e _=>⟨o,to3 b o e,rfl⟩
 have I4:Inv X' [] (dS own ix σ) H2 {s2 with heap:=h₁,toks:=s2.toks + ([]:List (Str×Value)).length}:=by
  refine ⟨ok',rfl,I2.bare,Un.kept to1,⟨_,hns₁,λi x v e1 e2 e3=>?_⟩,λx c e=>?_,I2.hok.fresh (by show s2.heap.objs.size<=h3.objs.size;rw [hC];exact Nat.le_succ _),λx c e=>I2.freeC x c (S.cells x c e),λp hp=>absurd (show p∈([]:List (Addr×Obj)) from hp) (by simp),I2.hok.kept λb o e=>to1 b o (to3 b o e),?_⟩
  ·replace e1:(own++fr)[i]?=some x:=e1
   unfold dS at e2
   by_cases hlt:i < own.length
   ·rw [List.getElem?_append_left (by simpa using hlt),List.getElem?_replicate] at e2
    split at e2<;>cases e2
   ·rw [List.getElem?_append_right (by simpa using hlt)] at e1 e2
    rw [List.length_replicate,List.getElem?_map] at e2
    cases ek:ix[i - own.length]? with
    | none=>rw [ek] at e2;cases e2
    | some j=>
      rw [ek] at e2
      obtain ⟨n1,n2⟩:=S.at_ _ j x ek e1
      have e2':σ[j]?=some (some v):=by
       have q:(σ[j]?).join=some v:=Option.some.inj e2
       cases es:σ[j]? with
       | none=>rw [es] at q;cases q
       | some o=>rw [es] at q;exact congrArg some q
      obtain ⟨m,hn,hl⟩:=I2.loc
      obtain ⟨u,r,l⟩:=hl j x v n1 e2' (.inr (.inl n2))
      refine ⟨u,r,?_⟩
      have hfr:scope.names.lookup x=some .free:=S.frees x (List.mem_of_getElem? e1)
      rcases l with ⟨k,_⟩ | ⟨_,c,hcl,z⟩
      ·rw [n2] at k;cases k
      ·obtain ⟨c',hc'⟩:=S.has x hfr
       have q:=S.cells x c' hc'
       rw [hcl] at q
       cases q
       obtain ⟨oc,ho,hd⟩:=z
       exact .inr ⟨.inl (iB I2.ok.kind hfr n2),c,hc',oc,to1 _ _ (to3 _ _ ho),hd⟩
  ·obtain ⟨v',oc,ho,hd⟩:=I2.cell x c (S.cells x c e)
   exact ⟨v',oc,to1 _ _ (to3 _ _ ho),hd⟩
  ·show (dS own ix σ).length=(own++fr).length
   unfold dS
   rw [List.length_append,List.length_append,List.length_replicate,List.length_map,S.len]
 obtain ⟨hg,hf,he⟩:=hb h3.objs.size {s2 with heap:=h3} H2 (s2.heap.objs.size::fp)
 have hg:PG X' target g:=hg
 have hf:PF X' ifs tc:=hf
 have he:PE X' elt te:=he
 have locX:X'.env.locals=h3.objs.size:=rfl
 -- D's place
 have Dne:s2.heap.objs.size≠X'.env.locals:=by rw [locX,hC];exact Nat.ne_of_lt (Nat.lt_succ_self _)
 have Dfs:s2.heap.objs.size∉X'.fs:=ok'.exfs _ (List.mem_cons_self ..)
 have Dcl:∀x c,X'.env.cells.lookup x=some c->c≠s2.heap.objs.size:=λx c e=>(ok'.exf _ (List.mem_cons_self ..)).2 x c e
 have fpX:∀{pl:List (Addr×Obj)} {H':Hp},(∀p∈pl,p.1=s2.heap.objs.size)->(∀b∈fp,H' b=none)->∀b∈fp,f9 X' pl H' b:=λhp hn b hb=>
  ⟨hn b hb,frC hb,ok'.exfs b (List.mem_cons_of_mem _ hb),.inl (List.mem_cons_of_mem _ hb),(ok'.exf b (List.mem_cons_of_mem _ hb)).2,λp q=>by
   rw [hp p (by simpa [show X'.pn=[] from rfl] using q)];exact Ne.symm (frD hb)⟩
 have pinD:∀{σ':St} {H':Hp} {s':Shared} {o:Obj},Inv X' [] σ' H' s'->s'.heap.get? s2.heap.objs.size=some o->H' s2.heap.objs.size=none->(∀v,o.data≠ .cell v)->Inv X' [(s2.heap.objs.size,o)] σ' H' s':=λI e n d=>
  I.fq λp hp=>by
    obtain rfl:=List.mem_singleton.mp hp
    exact ⟨e,n,Dne,Dfs,d⟩
 have loop:codeAny (model X.prog X.w) X.A (.compLoop (.ListComp elt [⟨target,iter,ifs,0⟩] scope pos) 0 (.ref it) (.ref s2.heap.objs.size) X'.env)
  (compPost (model X.prog X.w) X.A X.xe use Qf (.ref s2.heap.objs.size) h3.objs.size) {s2 with heap:=h₁,toks:=s2.toks + ([]:List (Str×Value)).length}:=by
  refine mM (λn s'=>∃i ys its k σ' H',Inv X' [] σ' H' s'/\tn i s'.heap/\(∀b∈fp,H' b=none)/\H' s2.heap.objs.size=none/\Vals ys its/\s'.heap.get? s2.heap.objs.size=some {cls:=.type "list",data:=.seq its.toArray k}/\W i n ys σ' H')
   ?_ m0 ⟨0,[],[],0,_,H2,I4,T.keep 0 _ _ st2 λb _ o e=>to1 b o (to3 b o e),λb hb'=>(f2 b hb').1,HD2,.nil,to1 _ _ getD3,w0⟩
  rintro n s5 ⟨i,ys,its,k,σ5,H5,I5,st5,fr5,hD5,vs5,get5,w5⟩
  obtain ⟨hlen,alt⟩:=turn i n ys σ5 H5 w5
  have P5:=pinD I5 get5 hD5 (λv z=>by cases z)
  have okp:∀p∈[(s2.heap.objs.size,({cls:=.type "list",data:=.seq its.toArray k}:Obj))],p.1=s2.heap.objs.size:=λp hp=>by
   rw [List.mem_singleton.mp hp]
  rcases alt with ⟨stop,q⟩ | ⟨go,step⟩
  ·refine aT (T.done X' rfl rfl rfl hc i _ s5 σ5 H5 _ P5 (fpX okp fr5) st5 stop) λr s6 ⟨hr,I6⟩=>?_
   subst hr
   obtain ⟨m6,hn6,_⟩:=I6.loc
   obtain ⟨get6,_,_,_,_⟩:=I6.pin (s2.heap.objs.size,({cls:=.type "list",data:=.seq its.toArray k}:Obj)) (List.mem_append_right _ (List.mem_singleton.mpr rfl))
   have toh:∀b o,b≠h3.objs.size->s6.heap.get? b=some o->s6.heap.get? b=some o:=λb o hb e=>e
   have exn:∀{b:Addr} {o:Obj},s2.heap.get? b=some o->b∉fp->b∉X'.ex:=λ{b o} e hb z=>by
    rcases List.mem_cons.mp z with z | z
    ·exact absurd (Heap.lt_size e) (by rw [z];exact Nat.lt_irrefl _)
    ·exact hb z
   have neC:∀{b:Addr} {o:Obj},s2.heap.get? b=some o->b≠h3.objs.size:=λ{b o} e z=>by
    have q1:=Heap.lt_size e
    rw [z,hC] at q1
    exact absurd q1 (Nat.not_lt.mpr (Nat.le_succ _))
   have neD:∀{b:Addr} {o:Obj},s2.heap.get? b=some o->b≠s2.heap.objs.size:=λ{b o} e=>Nat.ne_of_lt (Heap.lt_size e)
   have neD':∀{b:Addr} {o:HO},H2 b=some o->b≠s2.heap.objs.size:=λ{b o} e=>cg e HD2
   have U:Un (bR X.stack) fp H2 (upd H5 s2.heap.objs.size (.lst ys)) s2.heap s6.heap:=by
    refine ⟨λb o e n hb hx=>?_,λb o e n hb hx=>?_,λb o e n hx=>?_,λb o e hx=>?_,λb xs e=>?_,λb o u e=>?_,λb ps e=>?_⟩
    ·exact toh b o (neC e) (I6.base.keep b o (to3 b o e) n hb (exn e hx))
    ·obtain ⟨sl,q1⟩:=I6.base.slot b o (to3 b o e) n hb (exn e hx)
     exact ⟨sl,toh b _ (neC e) q1⟩
    ·rw [aE (neD e)]
     exact I6.base.free b o (to3 b o e) n (exn e hx)
    ·obtain ⟨o',q1⟩:=I6.base.there b o (to3 b o e) (exn e hx)
     exact ⟨o',toh b _ (neC e) q1⟩
    ·rw [aE (neD' e)];exact I6.base.tups b xs e
    ·rw [aE (neD' e)];exact I6.base.frzs b o u e
    ·rw [aE (neD' e)];exact I6.base.tbls b ps e
   have HC:H5 h3.objs.size=none:=I6.free
   have hok:bY X.prog X.w (upd H5 s2.heap.objs.size (.lst ys)) s6.heap:=λb u e=>by
    by_cases hbD:b=s2.heap.objs.size
    ·subst hbD
     rw [aF] at e
     cases e
     exact ⟨hlen,its,k,vs5,toh _ _ (by rw [hC];exact Nat.ne_of_lt (Nat.lt_succ_self _)) get6⟩
    ·rw [aE hbD] at e
     refine (I6.hok b u e).fJ (λc o hco q1=>toh c o (λz=>?_) q1) (λc q1=>by rw [aE (cg q1 hD5)];exact q1) λc xs q1=>by rw [aE (cg q1 hD5)];exact q1
     rcases hco with hco | hco
     ·rw [← hco,z,HC] at e;cases e
     ·rw [z,HC] at hco;cases hco
   have fin:=I2.oI (s':=s6) (ch:=fp) I6.os U hok I6.bare λb hb'=>⟨(f2 b hb').2.2.2.1,(f2 b hb').2.1,(f2 b hb').2.2.2.2.1,(f2 b hb').2.2.2.2.2⟩
   refine hfin _ h3.objs.size _ s6 fin ⟨⟨m6,hn6⟩,?_,?_,?_,λx c e z=>?_,λp hp z=>?_⟩ (q _ hD5)
   ·rw [aE (by rw [hC];exact Nat.ne_of_gt (Nat.lt_succ_self _))];exact HC
   ·intro z
    have:=I2.lt
    rw [← z,hC] at this
    exact absurd this (Nat.not_lt.mpr (Nat.le_succ _))
   ·rw [hC];exact Nat.le_trans I2.sz (Nat.le_succ _)
   ·obtain ⟨v',q1⟩:=I2.cell x c e
    have:=q1.lt
    rw [z,hC] at this
    exact absurd this (Nat.not_lt.mpr (Nat.le_succ _))
   ·have:=Heap.lt_size (I2.pin p hp).1
    rw [z,hC] at this
    exact absurd this (Nat.not_lt.mpr (Nat.le_succ _))
  ·refine aT (T.item X' rfl rfl rfl hc i _ s5 σ5 H5 _ P5 (fpX okp fr5) st5 go) λr s6 ⟨u,hr,h6⟩=>?_
   subst hr
   refine aT h6 λ_ s7 ⟨x,H7,I7,r7,y7,st7,fr7⟩=>?_
   have I7':=I7.pinned (fpX okp fr7) (T.obj _ _ st7)
   refine aT (hg _ s7 σ5 H7 x u _ I7' r7 (step x H7 y7)) λ_ s8 ⟨σ8,H8,I8,q8⟩=>?_
   refine aT (hf _ s8 σ8 H8 _ I8 q8) λb s9 ⟨H9,I9,q9⟩=>?_
   have out:∀{σ':St} {H':Hp} {s':Shared},Inv X' ([(s2.heap.objs.size,({cls:=.type "list",data:=.seq its.toArray k}:Obj))]++gw fp s7.heap) σ' H' s'->
    tn (i + 1) s'.heap/\(∀b∈fp,H' b=none)/\H' s2.heap.objs.size=none/\s'.heap.get? s2.heap.objs.size=some {cls:=.type "list",data:=.seq its.toArray k}:=λI'=>by
    refine ⟨T.keep _ _ _ st7 λb hb' o e=>(I'.pin (b,o) (List.mem_append_right _ (List.mem_append_right _ (fh hb' e)))).1,λb hb'=>?_,(I'.pin (s2.heap.objs.size,({cls:=.type "list",data:=.seq its.toArray k}:Obj)) (List.mem_append_right _ (List.mem_append_left _ (List.mem_singleton.mpr rfl)))).2.1,(I'.pin (s2.heap.objs.size,({cls:=.type "list",data:=.seq its.toArray k}:Obj)) (List.mem_append_right _ (List.mem_append_left _ (List.mem_singleton.mpr rfl)))).1⟩
    obtain ⟨o,e,d⟩:=T.obj _ _ st7 b hb'
    exact (I'.pin (b,o) (List.mem_append_right _ (List.mem_append_right _ (fh hb' e)))).2.1
   cases b with
   | false=>
     rw [if_neg Bool.false_ne_true] at q9 ⊢
     obtain ⟨m',hm,w'⟩:=q9
     obtain ⟨o1,o2,o3,o4⟩:=out I9
     exact ⟨m',hm,i + 1,ys,its,k,σ8,H9,I9.fq (λ_ z=>nomatch z),o1,o2,o3,vs5,o4,w'⟩
   | true=>
     rw [if_pos rfl] at q9 ⊢
     refine aT (he _ s9 σ8 H9 _ I9 q9) λuv s10 ⟨v10,H10,I10,r10,q10⟩=>?_
     obtain ⟨m',hm,w'⟩:=q10
     obtain ⟨o1,o2,o3,o4⟩:=out I10
     refine wpAny_list_append_plain ⟨k,o4⟩ (λh' hpl hsb=>?_) (by
      have:=vs5.length
      rw [List.size_toArray,← this];exact hlen)
     obtain ⟨k',hk'⟩:=hpl
     have I11:Inv X' (gw fp s7.heap) σ8 H10 s10:=I10.fq λp hp=>I10.pin p (List.mem_append_right _ (List.mem_append_right _ hp))
     have I12:Inv X' [] σ8 H10 {s10 with heap:=h'}:=(I10.fq (λ_ z=>nomatch z):Inv X' [] σ8 H10 s10).turned (t':=s10.toks) (λb o hb' e=>hsb.extBut b o hb' e) o3 Dne (.inl (List.mem_cons_self ..)) Dcl (λp hp=>absurd (show p∈([]:List (Addr×Obj)) from hp) (by simp))
     refine ⟨m',hm,i + 1,ys++[v10],its++[uv],k',σ8,H10,I12,T.keep _ _ _ o1 λb hb' o e=>hsb.extBut b o (frD hb') e,o2,o3,vs5.append (.cons r10 .nil),?_,w'⟩
     show h'.get? _=_
     rw [hk']
     simp
 exact codeAny_compStart_list loop (T.self X.A 0 _ _ _ (T.keep 0 _ _ st2 λb _ o e=>to1 b o (to3 b o e)) loop)
theorem Off.gone {pins:List (Addr×Obj)}{σ:St}{H:Hp}{C:Addr}{h':Heap}(o:Off X pins H s C)(I:Inv X pins σ H s)(hsb:Heap.SameBut C s.heap h'):Inv X pins σ H {s with heap:=h'}:=
 I.turned (t':=s.toks) (λb u hb e=>hsb.extBut b u hb e) o.free o.ne (.inr o.young) o.cell o.pin
theorem kG {own fr:List Str}
 (hc:X.calm=true) (S:cz X scope cl own fr ix) (hi:PI X target iter wi)
 (hb:∀(C:Addr) (s:Shared) (H:Hp) (ex:List Addr),PG (aL X scope cl C (own++fr) s H ex) target g/\PF (aL X scope cl C (own++fr) s H ex) ifs tc/\PE (aL X scope cl C (own++fr) s H ex) elt te)
 (hs:∀x,foldedSetIterable iter X.env x=pure x:=by intro _;rfl):
 PE X (.ListComp elt [⟨target,iter,ifs,0⟩] scope pos) (oV wi g tc te (dS own ix)):=by
 intro pins s σ H Q I h
 rw [eval_ListComp]
 refine kQ (use:=none) hc S hi hb hs I h λD C H6 s6 I6 o6 q=>?_
 obtain ⟨m,hn⟩:=o6.ns
 exact ⟨m,hn,λh' hsb=>⟨.ref D,H6,o6.gone I6 hsb,rfl,q⟩⟩
theorem jG {i:Nat}{y:Str}{py spos:Pos}{own fr:List Str}
 (hsw:swapsWith (.ListComp elt [⟨target,iter,ifs,0⟩] scope pos) (some (.Name y py)) spos.line X.env=pure true)
 (hN:X.N.Nodup) (hi':X.N[i]?=some y) (hx:Loc X.env.scope y)
 (hc:X.calm=true) (S:cz X scope cl own fr ix) (hi:PI X target iter wi)
 (hb:∀(C:Addr) (s:Shared) (H:Hp) (ex:List Addr),PG (aL X scope cl C (own++fr) s H ex) target g/\PF (aL X scope cl C (own++fr) s H ex) ifs tc/\PE (aL X scope cl C (own++fr) s H ex) elt te)
 (hs:∀x,foldedSetIterable iter X.env x=pure x:=by intro _;rfl)
 (hf:X.fn y=true∨X.env.scope.names.lookup y=some .local:=by first | exact .inl rfl | exact .inr rfl | assumption):
 PS X (.Assign [.Name y py] (.ListComp elt [⟨target,iter,ifs,0⟩] scope pos) spos) (sd (oV wi g tc te (dS own ix)) (pq i)):=by
 intro pins s σ H D I h
 rw [exec_Assign_Name_used _ _ _ _ hsw]
 refine wpAny_bind (wpAny_standAt (wpAny_bind ?_))
 show wpAny _ _ (do let _ ← comprehension (.ListComp elt [⟨target,iter,ifs,0⟩] scope pos) scope X.env _ (newList []) false (eval iter X.env) (some (assign (.Name y py) X.env))) _ _ s
 refine wpAny_bind (wpAny_mono (kQ (use:=some (assign (.Name y py) X.env)) (Qf:=λ_ s'=>SP X pins D .next s') hc S hi hb hs I h λA C H6 s6 I6 o6 q=>?_) (λ_ s' hq=>wpAny_pure (wpAny_pure hq)) λ_ _ e=>e)
 show wpAny _ _ (assign (.Name y py) X.env (.ref A)) _ _ _
 refine wpAny_assign_Name (kR I6 hN hi' hx (v:=.ref A) rfl (λs7 I7 hw=>?_) hf)
 obtain ⟨c,hsb7,hcc⟩:=hw
 have neC:C≠c:=by
  rcases hcc with rfl | hcc
  ·exact o6.ne
  ·exact Ne.symm (o6.cell y c hcc)
 obtain ⟨m,hn⟩:=o6.ns
 have o7:Off X pins H6 s7 C:=⟨⟨m,hn.sameBut hsb7 neC⟩,o6.free,o6.ne,o6.young,o6.cell,o6.pin⟩
 exact ⟨m,hn.sameBut hsb7 neC,λh' hsb=>⟨_,H6,o7.gone I7 hsb,q⟩⟩
end
end L2
namespace Fc
open PySem PySem.Spec L2
open PyProof.Rows hiding St
section
variable {X:Cx}
variable {e:Expr}{σ:St}{H:Hp}{t:TT}{Q:Bool->Hp->Prop}
def cQ (X:Cx)(e:Expr):TE:=λσ H Q=>∀(pins:List (Addr×Obj)) (s:Shared),Inv X pins σ H s->wpAny (model X.prog X.w) X.A (eval e X.env) (EP X pins σ Q) X.xe s
def fK (X:Cx)(e:Expr):TT:=λσ H Q=>∀(pins:List (Addr×Obj)) (s:Shared),Inv X pins σ H s->wpAny (model X.prog X.w) X.A (isTrue e X.env (eval e X.env)) (TP X pins σ Q) X.xe s
def sD (X:Cx)(e:Expr):TT:=λσ H Q=>∀(whole:Sem Value) (pins:List (Addr×Obj)) (s:Shared),Inv X pins σ H s->wpAny (model X.prog X.w) X.A (isTrue e X.env whole) (TP X pins σ Q) X.xe s
def gb (X:Cx)(e:Expr):TG:=λv σ H Q=>∀(pins:List (Addr×Obj)) (s:Shared) (u:Value),Inv X pins σ H s->RelV v u->wpAny (model X.prog X.w) X.A (assign e X.env u) (λ_ s'=>∃σ' H',Inv X pins σ' H' s'/\Q σ' H') X.xe s
def jh (X:Cx)(st:Stmt):TS:=λD σ H=>∀(pins:List (Addr×Obj)) (s:Shared),Inv X pins σ H s->wpAny (model X.prog X.w) X.A (exec st X.env) (SP X pins D) X.xe s
def fZ (X:Cx)(st:List Stmt):TS:=λD σ H=>∀(pins:List (Addr×Obj)) (s:Shared),Inv X pins σ H s->wpAny (model X.prog X.w) X.A (execs st X.env) (SP X pins D) X.xe s
def jt (X:Cx)(es:List Expr):TA:=λσ H Q=>∀(pos:Pos) (pins:List (Addr×Obj)) (s:Shared),Inv X pins σ H s->wpAny (model X.prog X.w) X.A (spliced (backTo pos (starEach es X.env))) (AP X pins σ Q) X.xe s
def gD (X:Cx)(ifs:List Expr):TT:=λσ H Q=>∀(pins:List (Addr×Obj)) (s:Shared),Inv X pins σ H s->
 wpAny (model X.prog X.w) X.A (forIn ifs true λc r=>if r=true then do let ok ← isTrue c X.env (eval c X.env);pure (ForInStep.yield ok) else pure (ForInStep.yield r)) (TP X pins σ Q) X.xe s
theorem aN:PE X e (cQ X e):=λpins s _ _ _ I h=>h pins s I
theorem iA:PT X e (fK X e):=λpins s _ _ _ I h=>h pins s I
theorem xM:PW X e (sD X e):=λwh pins s _ _ _ I h=>h wh pins s I
theorem pgS:PG X e (gb X e):=λpins s _ _ _ u _ I r h=>h pins s u I r
theorem yn {e:Stmt}:PS X e (jh X e):=λpins s _ _ _ I h=>h pins s I
theorem eM {e:List Stmt}:eZ X e (fZ X e):=λpins s _ _ _ I h=>h pins s I
theorem ie {e:List Expr}:PA X e (jt X e):=λpos pins s _ _ _ I h=>h pos pins s I
theorem eS {t:TE}(h:PE X e t){Q:VK}(q:t σ H Q):cQ X e σ H Q:=λpins s I=>h pins s σ H Q I q
theorem tS (h:PT X e t)(q:t σ H Q):fK X e σ H Q:=λpins s I=>h pins s σ H Q I q
theorem wS (h:PW X e t)(q:t σ H Q):sD X e σ H Q:=λwh pins s I=>h wh pins s σ H Q I q
theorem gS {t:TG}(h:PG X e t){v:V}{Q:St->Hp->Prop}(q:t v σ H Q):gb X e v σ H Q:=λpins s u I r=>h pins s σ H v u Q I r q
theorem sS {e:Stmt}{t:TS}(h:PS X e t){D:Ends}(q:t D σ H):jh X e D σ H:=λpins s I=>h pins s σ H D I q
theorem uj {e:List Stmt}{t:TS}(h:eZ X e t){D:Ends}(q:t D σ H):fZ X e D σ H:=λpins s I=>h pins s σ H D I q
theorem aS {e:List Expr}{t:TA}(h:PA X e t){Q:List V->Hp->Prop}(q:t σ H Q):jt X e σ H Q:=λpos pins s I=>h pos pins s σ H Q I q
theorem fS {e:List Expr}(h:PF X e t)(q:t σ H Q):gD X e σ H Q:=λpins s I=>h pins s σ H Q I q
end
section
variable {H R:Hp}{p:Addr}{α:Type}
theorem aw.fresh (h:H p=none)(o:HO):aw H (upd H p o):=λb u q=>by rw [aE (cg q h)];exact q
structure Rep (α:Type) where
 R:PySem.W.Frag->Hp->V->α->Prop
 mono:∀{K:PySem.W.Frag} {H H':Hp} {v:V} {x:α},aw H H'->R K H v x->R K H' v x
def ag:Rep Int:=⟨λ_ _ v x=>v= .int x,λ_ h=>h⟩
def bU:Rep Bool:=⟨λ_ _ v x=>v= .bl x,λ_ h=>h⟩
theorem Paired.map {β:Type}{F G:α->β->Prop}(f:∀a b,F a b->G a b):∀{l:List α} {m:List β},PySem.Paired F l m->PySem.Paired G l m
 | _,_,.nil=>.nil
 | _,_,.cons h t=>.cons (f _ _ h) (Paired.map f t)
def ak (r:Rep α):Rep (List α):=⟨λK H v xs=>∃a vs,v= .ref a/\H a=some (.lst vs)/\PySem.Paired (r.R K H) vs xs/\xs.length<=sizeLine,
 λs ⟨a,vs,e,q,p,z⟩=>⟨a,vs,e,s _ _ q,Paired.map (λ_ _=>r.mono s) p,z⟩⟩
def cu:Rep (List Int):=⟨λK H v xs=>∃a,v= .ref a/\bz K H a (xs.map V.int)/\xs.length<=63,λs ⟨a,e,q,z⟩=>⟨a,e,s.seq q,z⟩⟩
def gK {β:Type}(r:Rep α)(r':Rep β):Rep (α×β):=⟨λK H v x=>∃a v1 v2,v= .ref a/\H a=some (.tup [v1,v2])/\r.R K H v1 x.1/\r'.R K H v2 x.2,
 λs ⟨a,v1,v2,e,q,h1,h2⟩=>⟨a,v1,v2,e,s _ _ q,r.mono s h1,r'.mono s h2⟩⟩
structure Ext (H R H' R':Hp):Prop where
 h:aw H H'
 r:aw R R'
 s:aw R' H'
 old:∀b,H b≠none->R' b=R b
theorem Ext.refl (s:aw R H):Ext H R H R:=⟨aw.refl _,aw.refl _,s,λ_ _=>rfl⟩
theorem aw.some {H':Hp}(s:aw H H'){b:Addr}(h:H b≠none):H' b≠none:=by
 cases q:H b with
 | none=>exact absurd q h
 | some o=>rw [s b o q];exact Option.some_ne_none o
theorem Ext.trans {H1 R1 H2 R2:Hp}(a:Ext H R H1 R1)(b:Ext H1 R1 H2 R2):Ext H R H2 R2:=
 ⟨a.h.trans b.h,a.r.trans b.r,b.s,λc hc=>(b.old c (aw.some a.h hc)).trans (a.old c hc)⟩
theorem Ext.fresh (s:aw R H)(h:H p=none)(o:HO):Ext H R (upd H p o) (upd R p o):=
 ⟨aw.fresh h o,aw.fresh (s.free h) o,λb u q=>by
  by_cases e:b=p
  ·subst e;rw [aF] at q ⊢;exact q
  ·rw [aE e] at q ⊢;exact s b u q,λb hb=>aE λe=>hb (e▸h)⟩
theorem Ext.cS (s:aw R H)(h:H p=none)(o:HO):Ext H R (upd H p o) R:=
 ⟨aw.fresh h o,aw.refl _,s.trans (aw.fresh h o),λ_ _=>rfl⟩
structure kT:Type 1 where
 fp:List Addr
 R:PySem.W.Frag->Hp->Hp->V->Prop
 loc:∀{K:PySem.W.Frag} {H R0 H' R':Hp} {v:V},(∀a∈fp,H' a=H a)->aw R0 R'->R K H R0 v->R K H' R' v
 has:∀{K:PySem.W.Frag} {H R0:Hp} {v:V},R K H R0 v->∀a∈fp,H a≠none
inductive Ent:Type 1
 | no
 | im {α:Type} (r:Rep α) (x:α)
 | mu {α:Type} (r:Rep α) (xs:List α)
 | di (kvs:List (Int×V))
 | ob (B:kT)
def B0 (kvs:List (Int×V)):List (Key×V):=kvs.map λp=>(Sum.inl p.1,p.2)
def Ent.ok (K:PySem.W.Frag)(H R:Hp):Ent->Option V->Prop
 | .no,_=>True
 | .im r x,o=>∃v,o=some v/\r.R K R v x
 | .mu r xs,o=>∃a vs,o=some (.ref a)/\H a=some (.lst vs)/\R a=none/\PySem.Paired (r.R K R) vs xs
 | .di kvs,o=>∃a,o=some (.ref a)/\H a=some (.dK (B0 kvs))/\R a=none
 | .ob B,o=>(∃v,o=some v/\B.R K H R v)/\∀a∈B.fp,R a=none
def Ent.own:Ent->Bool
 | .mu .. =>true
 | .di .. =>true
 | _=>false
def refOf:Option V->List Addr
 | some (.ref a)=>[a]
 | _=>[]
def Ent.fp:Ent->Option V->List Addr
 | .mu ..,o=>refOf o
 | .di ..,o=>refOf o
 | .ob B,_=>B.fp
 | _,_=>[]
abbrev Ga:=List Ent
structure av (K:PySem.W.Frag) (σ:St) (H0 R0 H R:Hp) (Γ:Ga):Prop where
 ext:Ext H0 R0 H R
 ent:∀(i:Nat) (e:Ent),Γ[i]?=some e->e.ok K H R (σ[i]?).join
 nw:∀(i:Nat) (e:Ent) (a:Addr),Γ[i]?=some e->a∈e.fp (σ[i]?).join->H0 a=none
 ds:∀(i j:Nat) (e e':Ent) (a:Addr),Γ[i]?=some e->Γ[j]?=some e'->a∈e.fp (σ[i]?).join->a∈e'.fp (σ[j]?).join->i=j
 len:Γ.length=σ.length
end
section
variable {K:PySem.W.Frag}{σ:St}{H0 R0 H R H' R':Hp}{Γ:Ga}{α:Type}{r:Rep α}
variable {a:Addr}{o:Option V}{u:HO}{i:Nat}
theorem dY:a∈refOf o↔o=some (.ref a):=by
 unfold refOf
 split
 ·rw [List.mem_singleton];constructor
  ·rintro rfl;rfl
  ·intro e;cases e;rfl
 ·rename_i h
  constructor
  ·intro z;cases z
  ·intro e;exact absurd e (h a)
theorem Ent.ka {e:Ent}(w:e.own=true):a∈e.fp o↔o=some (.ref a):=by
 cases e with
 | no=>cases w
 | im r x=>cases w
 | mu r xs=>exact dY
 | di kvs=>exact dY
 | ob B=>cases w
theorem av.new (E:av K σ H0 R0 H R Γ)(i:Nat)(e:Ent)(a:Addr)(h:Γ[i]?=some e)(w:e.own=true)(ha:(σ[i]?).join=some (.ref a)):H0 a=none:=E.nw i e a h ((Ent.ka w).mpr ha)
theorem Ent.dD {e:Ent}(h:e.ok K H R o)(ha:a∈e.fp o):H a≠none/\R a=none:=by
 cases e with
 | no=>cases ha
 | im r x=>cases ha
 | mu r xs=>
   obtain ⟨b,vs,e,q,n,_⟩:=h
   rw [Ent.fp,dY,e] at ha
   cases ha
   exact ⟨by rw [q];exact Option.some_ne_none _,n⟩
 | di kvs=>
   obtain ⟨b,e,q,n⟩:=h
   rw [Ent.fp,dY,e] at ha
   cases ha
   exact ⟨by rw [q];exact Option.some_ne_none _,n⟩
 | ob B=>obtain ⟨⟨v,e,q⟩,n⟩:=h;exact ⟨B.has q a ha,n a ha⟩
theorem Ent.ok.loc {e:Ent}(h:e.ok K H R o)(hH:∀a∈e.fp o,H' a=H a)(hR:aw R R')(hn:∀a∈e.fp o,R' a=none):e.ok K H' R' o:=by
 cases e with
 | no=>trivial
 | im r y=>obtain ⟨v,e,q⟩:=h;exact ⟨v,e,r.mono hR q⟩
 | mu r xs=>
   obtain ⟨a,vs,e,q,n,p⟩:=h
   have ha:a∈Ent.fp (.mu r xs) o:=dY.mpr e
   exact ⟨a,vs,e,(hH a ha).trans q,hn a ha,Paired.map (λ_ _=>r.mono hR) p⟩
 | di kvs=>
   obtain ⟨a,e,q,n⟩:=h
   have ha:a∈Ent.fp (.di kvs) o:=dY.mpr e
   exact ⟨a,e,(hH a ha).trans q,hn a ha⟩
 | ob B=>obtain ⟨⟨v,e,q⟩,n⟩:=h;exact ⟨⟨v,e,B.loc hH hR q⟩,hn⟩
theorem Ent.ok.grow {e:Ent}(h:e.ok K H R o)(x:Ext H R H' R'):e.ok K H' R' o:=by
 refine h.loc (λa ha=>?_) x.r (λa ha=>?_)
 ·cases q:H a with
  | none=>exact absurd q (Ent.dD h ha).1
  | some u=>exact x.h _ _ q
 ·obtain ⟨h1,h2⟩:=Ent.dD h ha
  exact (x.old a h1).trans h2
theorem av.grow (E:av K σ H0 R0 H R Γ)(x:Ext H R H' R'):av K σ H0 R0 H' R' Γ:=
 ⟨E.ext.trans x,λi e h=>(E.ent i e h).grow x,E.nw,E.ds,E.len⟩
theorem av.sub (E:av K σ H0 R0 H R Γ):aw R H:=E.ext.s
def Off (a:Addr)(σ:St)(Γ:Ga):Prop:=∀(i:Nat) (e:Ent),Γ[i]?=some e->a∉e.fp (σ[i]?).join
theorem av.off (E:av K σ H0 R0 H R Γ)(h:H a=none):Off a σ Γ:=λi e q w=>(Ent.dD (E.ent i e q) w).1 h
theorem set_at.{v}{β:Type v}{l:List β}{i:Nat}{y:β}{j:Nat}{e:β}(q:(l.set i y)[j]?=some e):(j=i/\e=y/\i < l.length)∨(j≠i/\l[j]?=some e):=by
 by_cases hj:j=i
 ·subst hj
  have hl:j < l.length:=by
   have:=List.getElem?_eq_some_iff.mp q
   simpa using this.1
  rw [List.getElem?_set_self hl] at q
  exact .inl ⟨rfl,(Option.some.inj q).symm,hl⟩
 ·rw [List.getElem?_set_ne (Ne.symm hj)] at q
  exact .inr ⟨hj,q⟩
theorem av.setG (E:av K σ H0 R0 H R Γ)(i:Nat){v:V}{en:Ent}(ho:en.ok K H R (some v))(h0:∀a∈en.fp (some v),H0 a=none)(hf:∀a∈en.fp (some v),∀(j:Nat) (e:Ent),j≠i->Γ[j]?=some e->a∉e.fp (σ[j]?).join):
 av K (σ.set i (some v)) H0 R0 H R (Γ.set i en):=by
 have key:∀(j:Nat) (e:Ent),(Γ.set i en)[j]?=some e->(j=i/\e=en/\((σ.set i (some v))[j]?).join=some v)∨(j≠i/\Γ[j]?=some e/\(σ.set i (some v))[j]?=σ[j]?):=λj e q=>by
  rcases set_at q with ⟨rfl,rfl,hl⟩ | ⟨hj,q⟩
  ·exact .inl ⟨rfl,rfl,by rw [List.getElem?_set_self (by rw [← E.len];exact hl)];rfl⟩
  ·exact .inr ⟨hj,q,List.getElem?_set_ne (Ne.symm hj)⟩
 refine ⟨E.ext,λj e q=>?_,λj e a q w=>?_,λj k e e' a q q' w w'=>?_,by rw [List.length_set,List.length_set];exact E.len⟩
 ·rcases key j e q with ⟨_,rfl,q2⟩ | ⟨_,q1,q2⟩
  ·rw [q2];exact ho
  ·rw [q2];exact E.ent j e q1
 ·rcases key j e q with ⟨_,rfl,q2⟩ | ⟨_,q1,q2⟩
  ·rw [q2] at w;exact h0 a w
  ·rw [q2] at w;exact E.nw j e a q1 w
 ·rcases key j e q with ⟨hj,rfl,q2⟩ | ⟨hj,q1,q2⟩
  ·rcases key k e' q' with ⟨hk,rfl,q2'⟩ | ⟨hk,q1',q2'⟩
   ·rw [hj,hk]
   ·rw [q2] at w;rw [q2'] at w';exact absurd w' (hf a w k e' hk q1')
  ·rcases key k e' q' with ⟨hk,rfl,q2'⟩ | ⟨hk,q1',q2'⟩
   ·rw [q2] at w;rw [q2'] at w';exact absurd w (hf a w' j e hj q1)
   ·rw [q2] at w;rw [q2'] at w';exact E.ds j k e e' a q1 q1' w w'
theorem av.set (E:av K σ H0 R0 H R Γ)(i:Nat){v:V}{x:α}(h:r.R K R v x):av K (σ.set i (some v)) H0 R0 H R (Γ.set i (.im r x)):=
 E.setG i ⟨v,rfl,h⟩ (λa w=>by cases w) λa w=>by cases w
theorem av.sO (E:av K σ H0 R0 H R Γ)(i:Nat){u:HO}{en:Ent}(ho:en.ok K H R (some (.ref a)))(h0:H0 a=none)(hf:∀(j:Nat) (e:Ent),j≠i->Γ[j]?=some e->a∉e.fp (σ[j]?).join)(hfp:en.fp (some (.ref a))=[a]:=by rfl):
 av K (σ.set i (some (.ref a))) H0 R0 H R (Γ.set i en):=
 E.setG i ho (λb w=>by rw [hfp,List.mem_singleton] at w;rw [w];exact h0) λb w=>by rw [hfp,List.mem_singleton] at w;rw [w];exact hf
theorem av.se (E:av K σ H0 R0 H R Γ){e0 en:Ent}(hi:Γ[i]?=some e0)(ha:a∈e0.fp (σ[i]?).join)(ho:en.ok K (L2.upd H a u) R (σ[i]?).join)
 (hsub:∀b∈en.fp (σ[i]?).join,b∈e0.fp (σ[i]?).join∨(H0 b=none/\Off b σ Γ)):av K σ H0 R0 (L2.upd H a u) R (Γ.set i en):=by
 have h0:H0 a=none:=E.nw i e0 a hi ha
 have hR:R a=none:=(Ent.dD (E.ent i e0 hi) ha).2
 refine ⟨⟨λb o q=>?_,E.ext.r,λb o q=>?_,E.ext.old⟩,λj e q=>?_,λj e b q w=>?_,λj k e e' b q q' w w'=>?_,by rw [List.length_set];exact E.len⟩
 ·rw [aE (cg q h0)];exact E.ext.h b o q
 ·rw [aE (cg q hR)];exact E.ext.s b o q
 ·rcases set_at q with ⟨rfl,rfl,_⟩ | ⟨hj,q1⟩
  ·exact ho
  ·refine (E.ent j e q1).loc (λb hb=>aE λz=>hj ?_) (aw.refl _) λb hb=>(Ent.dD (E.ent j e q1) hb).2
   rw [z] at hb
   exact E.ds j i e e0 a q1 hi hb ha
 ·rcases set_at q with ⟨rfl,rfl,_⟩ | ⟨hj,q1⟩
  ·rcases hsub b w with z | z
   ·exact E.nw _ _ b hi z
   ·exact z.1
  ·exact E.nw j e b q1 w
 ·rcases set_at q with ⟨rfl,rfl,_⟩ | ⟨hj,q1⟩
  ·rcases set_at q' with ⟨rfl,rfl,_⟩ | ⟨hk,q1'⟩
   ·rfl
   ·rcases hsub b w with z | z
    ·exact E.ds _ _ _ _ b hi q1' z w'
    ·exact absurd w' (z.2 k e' q1')
  ·rcases set_at q' with ⟨rfl,rfl,_⟩ | ⟨hk,q1'⟩
   ·rcases hsub b w' with z | z
    ·exact E.ds _ _ _ _ b q1 hi w z
    ·exact absurd w (z.2 j e q1)
   ·exact E.ds _ _ _ _ b q1 q1' w w'
theorem av.upd (E:av K σ H0 R0 H R Γ){e0 en:Ent}(hi:Γ[i]?=some e0)(w0:e0.own=true)(ha:(σ[i]?).join=some (.ref a))(hR:R a=none)(ho:en.ok K (L2.upd H a u) R (some (.ref a)))(hfp:en.fp (some (.ref a))=[a]:=by rfl):
 av K σ H0 R0 (L2.upd H a u) R (Γ.set i en):=
 E.se hi ((Ent.ka w0).mpr ha) (by rw [ha];exact ho) λb w=>.inl (by rw [ha,hfp,List.mem_singleton] at w;rw [w];exact (Ent.ka w0).mpr ha)
theorem av.gG (E:av K σ H0 R0 H R Γ)(ha:H a=some u)(hR:R a=none)(h0:H0 a=none)(off:Off a σ Γ):av K σ H0 R0 H (L2.upd R a u) Γ:=by
 have s2:aw R (L2.upd R a u):=aw.fresh hR _
 refine ⟨⟨E.ext.h,E.ext.r.trans s2,λb o qb=>?_,λb hb=>?_⟩,λi e qe=>?_,E.nw,E.ds,E.len⟩
 ·by_cases hb:b=a
  ·subst hb;rw [aF] at qb;cases qb;exact ha
  ·rw [aE hb] at qb;exact E.ext.s b o qb
 ·rw [aE (show b≠a from λe=>hb (by rw [e];exact h0))];exact E.ext.old b hb
 ·refine (E.ent i e qe).loc (λ_ _=>rfl) s2 λb hb=>?_
  rw [aE (show b≠a from λz=>off i e qe (z▸hb))]
  exact (Ent.dD (E.ent i e qe) hb).2
theorem av.tell (E:av K σ H0 R0 H R Γ){e0 en:Ent}(hi:Γ[i]?=some e0)(ho:en.ok K H R (σ[i]?).join)(hsub:∀b∈en.fp (σ[i]?).join,b∈e0.fp (σ[i]?).join):av K σ H0 R0 H R (Γ.set i en):=by
 refine ⟨E.ext,λj e q=>?_,λj e b q w=>?_,λj k e e' b q q' w w'=>?_,by rw [List.length_set];exact E.len⟩
 ·rcases set_at q with ⟨rfl,rfl,_⟩ | ⟨hj,q1⟩
  ·exact ho
  ·exact E.ent j e q1
 ·rcases set_at q with ⟨rfl,rfl,_⟩ | ⟨hj,q1⟩
  ·exact E.nw _ _ b hi (hsub b w)
  ·exact E.nw j e b q1 w
 ·rcases set_at q with ⟨rfl,rfl,_⟩ | ⟨hj,q1⟩
  ·rcases set_at q' with ⟨rfl,rfl,_⟩ | ⟨hk,q1'⟩
   ·rfl
   ·exact E.ds _ _ _ _ b hi q1' (hsub b w) w'
  ·rcases set_at q' with ⟨rfl,rfl,_⟩ | ⟨hk,q1'⟩
   ·exact E.ds _ _ _ _ b q1 hi w (hsub b w')
   ·exact E.ds _ _ _ _ b q1 q1' w w'
def Wk:Ga->Ga->Prop
 | [],[]=>True
 | e::r,e'::r'=>(e'=e∨e'= .no)/\Wk r r'
 | _,_=>False
theorem Wk.len:∀{Γ Γ':Ga},Wk Γ Γ'->Γ'.length=Γ.length
 | [],[],_=>rfl
 | _::_,_::_,h=>by rw [List.length_cons,List.length_cons,Wk.len h.2]
theorem Wk.at:∀{Γ Γ':Ga},Wk Γ Γ'->∀(i:Nat) (e:Ent),Γ'[i]?=some e->e= .no∨Γ[i]?=some e
 | [],[],_,i,e,q=>by simp at q
 | a::_,b::_,h,0,e,q=>by
   simp at q
   rcases h.1 with z | z
   ·right;simp [← q,z]
   ·left;rw [← q,z]
 | a::r,b::r',h,i + 1,e,q=>by
   simp at q
   have:=Wk.at h.2 i e q
   simpa using this
theorem Wk.refl:∀Γ:Ga,Wk Γ Γ
 | []=>trivial
 | _::r=>⟨.inl rfl,Wk.refl r⟩
theorem av.weak (E:av K σ H0 R0 H R Γ){Γ':Ga}(w:Wk Γ Γ'):av K σ H0 R0 H R Γ':=by
 refine ⟨E.ext,λi e q=>?_,λi e a q z=>?_,λi j e e' a q q' z z'=>?_,w.len.trans E.len⟩
 ·rcases w.at i e q with rfl | q
  ·trivial
  ·exact E.ent i e q
 ·rcases w.at i e q with rfl | q
  ·cases z
  ·exact E.nw i e a q z
 ·rcases w.at i e q with rfl | q
  ·cases z
  ·rcases w.at j e' q' with rfl | q'
   ·cases z'
   ·exact E.ds i j e e' a q q' z z'
end
section
variable {X:Cx}{Γ Γ1 Γ2 Γ3:Ga}{α β γ:Type}
variable {pos:Pos}{e:Expr}{r:Rep α}
def EV (X:Cx)(e:Expr)(Γ:Ga){α:Type}(r:Rep α)(y:α)(Γ':Ga):Prop:=
 ∀(σ:St) (H0 R0 H R:Hp),av X.K σ H0 R0 H R Γ->∀Q:VK,(∀v H' R',av X.K σ H0 R0 H' R' Γ'->aw R R'->r.R X.K R' v y->Q v H')->cQ X e σ H Q
def bb (X:Cx)(e:Expr)(Γ:Ga){α:Type}(r:Rep α)(ys:List α)(Γ':Ga):Prop:=
 ∀(σ:St) (H0 R0 H R:Hp),av X.K σ H0 R0 H R Γ->∀Q:VK,(∀a vs H' R',av X.K σ H0 R0 H' R' Γ'->aw R R'->H' a=some (.lst vs)->R' a=none->H0 a=none->Off a σ Γ'->PySem.Paired (r.R X.K R') vs ys->ys.length<=sizeLine->Q (.ref a) H')->cQ X e σ H Q
def TV (X:Cx)(e:Expr)(Γ:Ga)(b:Bool)(Γ':Ga):Prop:=
 ∀(σ:St) (H0 R0 H R:Hp),av X.K σ H0 R0 H R Γ->∀Q:Bool->Hp->Prop,(∀H' R',av X.K σ H0 R0 H' R' Γ'->aw R R'->Q b H')->fK X e σ H Q
def TW (X:Cx)(e:Expr)(Γ:Ga)(b:Bool)(Γ':Ga):Prop:=
 ∀(σ:St) (H0 R0 H R:Hp),av X.K σ H0 R0 H R Γ->∀Q:Bool->Hp->Prop,(∀H' R',av X.K σ H0 R0 H' R' Γ'->aw R R'->Q b H')->sD X e σ H Q
def TF (X:Cx)(es:List Expr)(Γ:Ga)(b:Bool)(Γ':Ga):Prop:=
 ∀(σ:St) (H0 R0 H R:Hp),av X.K σ H0 R0 H R Γ->∀Q:Bool->Hp->Prop,(∀H' R',av X.K σ H0 R0 H' R' Γ'->aw R R'->Q b H')->gD X es σ H Q
def BG (X:Cx)(tg:Expr){α:Type}(r:Rep α)(bf:α->Ga->Ga):Prop:=
 ∀(σ:St) (H0 R0 H R:Hp) (Γ:Ga) (v:V) (x:α),av X.K σ H0 R0 H R Γ->r.R X.K R v x->∀Q:St->Hp->Prop,(∀σ',av X.K σ' H0 R0 H R (bf x Γ)->Q σ' H)->gb X tg v σ H Q
abbrev RT:=Hp->V->Hp->Hp->Prop
def WS (X:Cx)(sts:List Stmt)(Γ:Ga)(N:Ga->Prop)(T:RT):Prop:=
 ∀(σ:St) (H0 R0 H R:Hp),av X.K σ H0 R0 H R Γ->∀D:Ends,(∀σ' H' R' Γ',av X.K σ' H0 R0 H' R' Γ'->aw R R'->N Γ'->D.nx σ' H')->(∀v H' R',Ext H0 R0 H' R'->T H0 v H' R'->D.rt v H')->fZ X sts D σ H
def W1 (X:Cx)(st:Stmt)(Γ:Ga)(N:Ga->Prop)(T:RT):Prop:=
 ∀(σ:St) (H0 R0 H R:Hp),av X.K σ H0 R0 H R Γ->∀D:Ends,(∀σ' H' R' Γ',av X.K σ' H0 R0 H' R' Γ'->aw R R'->N Γ'->D.nx σ' H')->(∀v H' R',Ext H0 R0 H' R'->T H0 v H' R'->D.rt v H')->jh X st D σ H
def dc (K:PySem.W.Frag){β:Type}(r:Rep β)(P:β->Prop):RT:=λ_ v _ R'=>∃y,r.R K R' v y/\P y
def wU (K:PySem.W.Frag){β:Type}(r:Rep β)(P:List β->Prop):RT:=λH0 v H' R'=>∃a vs ys,v= .ref a/\H0 a=none/\H' a=some (.lst vs)/\R' a=none/\PySem.Paired (r.R K R') vs ys/\ys.length<=sizeLine/\P ys
theorem bb.im {ys:List α}(h:bb X e Γ r ys Γ1):EV X e Γ (ak r) ys Γ1:=by
 intro σ H0 R0 H R E Q q
 refine h σ H0 R0 H R E Q λa vs H' R' E' s1 ha hR h0 off p z=>?_
 have s2:aw R' (upd R' a (.lst vs)):=aw.fresh hR _
 exact q (.ref a) H' (upd R' a (.lst vs)) (E'.gG ha hR h0 off) (s1.trans s2) ⟨a,vs,rfl,aF,Paired.map (λ_ _=>r.mono s2) p,z⟩
theorem EV.cast {y y':α}(h:EV X e Γ r y Γ1)(e1:y=y'):EV X e Γ r y' Γ1:=e1▸h
theorem TV.cast {b b':Bool}(h:TV X e Γ b Γ1)(e1:b=b'):TV X e Γ b' Γ1:=e1▸h
theorem aa (i:Nat){x:Str}{y:α}(hΓ:Γ[i]?=some (.im r y))(hN:X.N[i]?=some x:=by rfl)(hv:cL X.env.scope x:=by first | exact Or.inl rfl | exact Or.inr (Or.inl rfl) | exact Or.inr (Or.inr rfl))
 (hd:(x==("__debug__":Str))=false:=by decide) (hcd:(x==("__classdict__":Str))=false:=by decide):EV X (.Name x pos) Γ r y Γ:=by
 intro σ H0 R0 H R E Q q
 obtain ⟨v,e,h⟩:=E.ent i _ hΓ
 refine eS (bM hN hv hd hcd) ⟨v,?_,q v H R E (aw.refl _) h⟩
 cases es:σ[i]? with
 | none=>rw [es] at e;cases e
 | some o=>rw [es] at e;exact congrArg some e
theorem ae {i:Int}{j:Nat}:EV X (.Constant (.int i) j pos) Γ ag i Γ:=λ_ _ _ _ _ E _ q=>eS gZ (q _ _ _ E (aw.refl _) rfl)
theorem m8 {b:Bool}{j:Nat}:EV X (.Constant (.bool b) j pos) Γ bU b Γ:=λ_ _ _ _ _ E _ q=>eS Ab (q _ _ _ E (aw.refl _) rfl)
theorem ku {x:Str}{n:Int}{t:Tok}(hm:X.mg x=some (.int n t))(hg:Gl X x:=by rfl)(hd:(x==("__debug__":Str))=false:=by decide):EV X (.Name x pos) Γ ag n Γ:=
 λ_ _ _ _ _ E _ q=>eS (fu (v:=.int n) hg hm ⟨t,rfl⟩ hd) (q (.int n) _ _ E (aw.refl _) rfl)
theorem fU {op:Operator}{r2:R2}{a b:Expr}{ra:Rep α}{rb:Rep β}{rc:Rep γ}{x:α}{y:β}{z:γ}(ho:cP X (binaryOp op) r2)(ha:EV X a Γ ra x Γ1)(hb:EV X b Γ1 rb y Γ2)
 (hz:∀(R:Hp) v u H Q,ra.R X.K R v x->rb.R X.K R u y->(∀w,rc.R X.K R w z->Q w H)->r2 v u H Q):EV X (.BinOp a op b pos) Γ rc z Γ2:=by
 intro σ H0 R0 H R E Q q
 refine eS (lz ho aN aN) (ha σ H0 R0 H R E _ λv H1 R1 E1 s1 e1=>hb σ H0 R0 H1 R1 E1 _ λu H2 R2 E2 s2 e2=>?_)
 exact hz R2 v u H2 _ (ra.mono s2 e1) e2 λw hw=>q w H2 R2 E2 (s1.trans s2) hw
section
variable {a b c:Expr}{pos:Pos}{x y z:Int}
theorem bW (ha:EV X a Γ ag x Γ1)(hb:EV X b Γ1 ag y Γ2):EV X (.BinOp a .Add b pos) Γ ag (x + y) Γ2:=fU wk ha hb λR v u H Q e1 e2 q=>⟨x,y,e1,e2,q _ rfl⟩
theorem iz (ha:EV X a Γ ag x Γ1)(hb:EV X b Γ1 ag y Γ2):EV X (.BinOp a .Sub b pos) Γ ag (x - y) Γ2:=fU yx ha hb λR v u H Q e1 e2 q=>⟨x,y,e1,e2,q _ rfl⟩
theorem yu (ha:EV X a Γ ag x Γ1)(hb:EV X b Γ1 ag y Γ2)(h:oH x y):EV X (.BinOp a .Mult b pos) Γ ag (x * y) Γ2:=fU zc ha hb λR v u H Q e1 e2 q=>⟨x,y,e1,e2,h,q _ rfl⟩
theorem bD (ha:EV X a Γ ag x Γ1)(hb:EV X b Γ1 ag y Γ2)(h:0 < y):EV X (.BinOp a .Mod b pos) Γ ag (x % y) Γ2:=fU xE ha hb λR v u H Q e1 e2 q=>⟨x,y,e1,e2,h,q _ rfl⟩
theorem dZ (ha:EV X a Γ ag x Γ1)(hb:EV X b Γ1 ag y Γ2)(h:xR x y):EV X (.BinOp a .FloorDiv b pos) Γ ag (x / y) Γ2:=fU vw ha hb λR v u H Q e1 e2 q=>⟨x,y,e1,e2,h,q _ rfl⟩
theorem qU (ha:EV X a Γ ag x Γ1)(hb:EV X b Γ1 ag y Γ2)(h:wF x y):EV X (.BinOp a .Pow b pos) Γ ag (x ^ y.toNat) Γ2:=fU yg ha hb λR v u H Q e1 e2 q=>⟨x,y,e1,e2,h,q _ rfl⟩
theorem cX (ha:EV X a Γ ag x Γ1):EV X (.UnaryOp .USub a pos) Γ ag (-x) Γ1:=by
 intro σ H0 R0 H R E Q q
 exact eS (zB yG aN) (ha σ H0 R0 H R E _ λv H1 R1 E1 s1 e1=>⟨x,e1,q _ H1 R1 E1 s1 rfl⟩)
end
structure eQ (X:Cx) (op:CmpOp) {α β:Type} (ra:Rep α) (rb:Rep β) (x:α) (y:β) (k:Bool):Prop where
 r2:∃r,cP X (compareOp op) r/\∀(R H:Hp) v u Q,aw R H->ra.R X.K R v x->rb.R X.K R u y->Q (.bl k) H->r v u H Q
theorem eT {op:CmpOp}{a b:Expr}{pos:Pos}{ra:Rep α}{rb:Rep β}{x:α}{y:β}{k:Bool}(c:eQ X op ra rb x y k)(ha:EV X a Γ ra x Γ1)(hb:EV X b Γ1 rb y Γ2)(hm:behindInMarks op b=false:=by first | exact qI _ | with_unfolding_all rfl):
 EV X (.Compare a [op] [b] pos) Γ bU k Γ2:=by
 obtain ⟨r,ho,hr⟩:=c.r2
 intro σ H0 R0 H R E Q q
 refine eS (vy ho aN aN hm) (ha σ H0 R0 H R E _ λv H1 R1 E1 s1 e1=>hb σ H0 R0 H1 R1 E1 _ λu H2 R2 E2 s2 e2=>?_)
 exact hr R2 H2 v u _ E2.sub (ra.mono s2 e1) e2 (q _ H2 R2 E2 (s1.trans s2) rfl)
theorem ao {op:CmpOp}{a b:Expr}{pos:Pos}{ra:Rep α}{rb:Rep β}{x:α}{y:β}{k:Bool}(c:eQ X op ra rb x y k)(ha:EV X a Γ ra x Γ1)(hb:EV X b Γ1 rb y Γ2)(hm:behindInMarks op b=false:=by first | exact qI _ | with_unfolding_all rfl):
 TV X (.Compare a [op] [b] pos) Γ k Γ2:=by
 obtain ⟨r,ho,hr⟩:=c.r2
 intro σ H0 R0 H R E Q q
 refine tS (vS ho aN aN hm) (ha σ H0 R0 H R E _ λv H1 R1 E1 s1 e1=>hb σ H0 R0 H1 R1 E1 _ λu H2 R2 E2 s2 e2=>?_)
 exact hr R2 H2 v u _ E2.sub (ra.mono s2 e1) e2 ⟨k,rfl,q H2 R2 E2 (s1.trans s2)⟩
section
variable {x y:Int}
theorem jb:eQ X .Lt ag ag x y (decide (x < y)):=⟨_,AB,λR H v u Q _ e1 e2 q=>⟨x,y,e1,e2,q⟩⟩
theorem oZ:eQ X .LtE ag ag x y (decide (x<=y)):=⟨_,zw,λR H v u Q _ e1 e2 q=>⟨x,y,e1,e2,q⟩⟩
theorem tu:eQ X .Gt ag ag x y (decide (y < x)):=⟨_,zI,λR H v u Q _ e1 e2 q=>⟨x,y,e1,e2,q⟩⟩
theorem jo:eQ X .GtE ag ag x y (decide (y<=x)):=⟨_,Af,λR H v u Q _ e1 e2 q=>⟨x,y,e1,e2,q⟩⟩
theorem eu:eQ X .Eq ag ag x y (decide (x=y)):=⟨_,tK,λR H v u Q _ e1 e2 q=>by
 cases e1;cases e2
 exact ⟨rfl,by rw [show decide (V.int x=V.int y)=decide (x=y) by rw [iF];exact Bool.beq_eq_decide_eq x y];exact q⟩⟩
theorem sN:eQ X .NotEq ag ag x y (!decide (x=y)):=⟨_,tR,λR H v u Q _ e1 e2 q=>by
 cases e1;cases e2
 exact ⟨rfl,by rw [show decide (V.int x=V.int y)=decide (x=y) by rw [iF];exact Bool.beq_eq_decide_eq x y];exact q⟩⟩
end
variable {a:Expr}{pos:Pos}{x:Bool}{b:Expr}{y:Bool}{rest:List Expr}{c:Expr}
theorem fo {K:PySem.W.Frag}{R:Hp}:∀{vs:List V} {xs:List Int},PySem.Paired (ag.R K R) vs xs->vs=xs.map V.int
 | _,_,.nil=>rfl
 | _,_,.cons h t=>by rw [List.map_cons,← fo t];exact congrArg (· ::_) h
theorem mq {op op':CmpOp}{ra:Rep α}{rb:Rep β}{rc:Rep γ}{x:α}{y:β}{z:γ}{k k':Bool}(c1:eQ X op ra rb x y k)(c2:eQ X op' rb rc y z k')(ha:EV X a Γ ra x Γ)(hb:EV X b Γ rb y Γ)(hc:EV X c Γ rc z Γ)
 (hm:lastMarks [op,op'] [b,c]=false:=by with_unfolding_all rfl):EV X (.Compare a [op,op'] [b,c] pos) Γ bU (k&&k') Γ:=by
 obtain ⟨r,ho,hr⟩:=c1.r2
 obtain ⟨r',ho',hr'⟩:=c2.r2
 intro σ H0 R0 H R E Q q
 refine eS (rP ho ho' aN aN aN hm) (ha σ H0 R0 H R E _ λv H1 R1 E1 s1 e1=>hb σ H0 R0 H1 R1 E1 _ λu H2 R2 E2 s2 e2=>?_)
 refine hr R2 H2 v u _ E2.sub (ra.mono s2 e1) e2 ⟨k,rfl,?_⟩
 cases k with
 | false=>exact gJ (q _ H2 R2 E2 (s1.trans s2) rfl)
 | true=>exact gE (hc σ H0 R0 H2 R2 E2 _ λw H3 R3 E3 s3 e3=>hr' R3 H3 u w _ E3.sub (rb.mono s3 e2) e3 (q _ H3 R3 E3 (s1.trans (s2.trans s3)) rfl))
theorem gj {op:BoolOp}{r:Rep α}{x:α}(h:EV X a Γ r x Γ1):EV X (.BoolOp op [a] pos) Γ r x Γ1:=λσ H0 R0 H R E Q q=>eS (xG aN) (h σ H0 R0 H R E Q q)
theorem fG (ha:EV X a Γ bU x Γ)(hb:x=true->EV X (.BoolOp .And (b::rest) pos) Γ bU y Γ):EV X (.BoolOp .And (a::b::rest) pos) Γ bU (x&&y) Γ:=by
 intro σ H0 R0 H R E Q q
 refine eS (yr aN aN) (ha σ H0 R0 H R E _ λv H1 R1 E1 s1 e1=>⟨x,e1,?_⟩)
 cases x with
 | false=>exact gJ (q _ H1 R1 E1 s1 rfl)
 | true=>exact gE (hb rfl σ H0 R0 H1 R1 E1 _ λw H3 R3 E3 s3 e3=>q w H3 R3 E3 (s1.trans s3) e3)
theorem Ag (ha:EV X a Γ bU x Γ)(hb:x=false->EV X (.BoolOp .Or (b::rest) pos) Γ bU y Γ):EV X (.BoolOp .Or (a::b::rest) pos) Γ bU (x ||y) Γ:=by
 intro σ H0 R0 H R E Q q
 refine eS (zH aN aN) (ha σ H0 R0 H R E _ λv H1 R1 E1 s1 e1=>⟨x,e1,?_⟩)
 cases x with
 | true=>exact gE (q _ H1 R1 E1 s1 rfl)
 | false=>exact gJ (hb rfl σ H0 R0 H1 R1 E1 _ λw H3 R3 E3 s3 e3=>q w H3 R3 E3 (s1.trans s3) e3)
theorem mI (ha:EV X a Γ bU x Γ1):EV X (.UnaryOp .Not a pos) Γ bU (!x) Γ1:=by
 intro σ H0 R0 H R E Q q
 exact eS (wm aN) (ha σ H0 R0 H R E _ λv H1 R1 E1 s1 e1=>⟨x,e1,q _ H1 R1 E1 s1 rfl⟩)
theorem bP (ha:TV X a Γ x Γ1):TV X (.UnaryOp .Not a pos) Γ (!x) Γ1:=by
 intro σ H0 R0 H R E Q q
 exact tS (wq iA) (ha σ H0 R0 H R E _ λH1 R1 E1 s1=>q H1 R1 E1 s1)
theorem TW.tv {e:Expr}{b:Bool}(h:TW X e Γ b Γ1):TV X e Γ b Γ1:=λσ H0 R0 H R E Q q=>tS (xM.pt) (h σ H0 R0 H R E Q q)
theorem eK (ha:TV X a Γ x Γ1):TW X (.BoolOp .And [a] pos) Γ x Γ1:=λσ H0 R0 H R E Q q=>wS (uL iA) (ha σ H0 R0 H R E Q q)
theorem cU (ha:TV X a Γ x Γ1):TW X (.BoolOp .Or [a] pos) Γ x Γ1:=λσ H0 R0 H R E Q q=>wS (yc iA) (ha σ H0 R0 H R E Q q)
theorem fz (ha:TV X a Γ x Γ)(hb:x=true->TW X (.BoolOp .And (b::rest) pos) Γ y Γ):TW X (.BoolOp .And (a::b::rest) pos) Γ (x&&y) Γ:=by
 intro σ H0 R0 H R E Q q
 refine wS (w9 iA xM) (ha σ H0 R0 H R E _ λH1 R1 E1 s1=>?_)
 cases x with
 | false=>exact gJ (q H1 R1 E1 s1)
 | true=>exact gE (hb rfl σ H0 R0 H1 R1 E1 _ λH3 R3 E3 s3=>q H3 R3 E3 (s1.trans s3))
theorem c7 (ha:TV X a Γ x Γ)(hb:x=false->TW X (.BoolOp .Or (b::rest) pos) Γ y Γ):TW X (.BoolOp .Or (a::b::rest) pos) Γ (x ||y) Γ:=by
 intro σ H0 R0 H R E Q q
 refine wS (Ah iA xM) (ha σ H0 R0 H R E _ λH1 R1 E1 s1=>?_)
 cases x with
 | true=>exact gE (q H1 R1 E1 s1)
 | false=>exact gJ (hb rfl σ H0 R0 H1 R1 E1 _ λH3 R3 E3 s3=>q H3 R3 E3 (s1.trans s3))
theorem bA {k:Bool}(ha:EV X a Γ bU k Γ1)(he:∀whole,isTrue a X.env whole=(do let v ← whole;standAt a.pos;holding [v] (truthy v)):=by intro _;rfl):TV X a Γ k Γ1:=by
 intro σ H0 R0 H R E Q q
 exact tS (xq aN he) (ha σ H0 R0 H R E _ λv H1 R1 E1 s1 e1=>⟨k,e1,q H1 R1 E1 s1⟩)
theorem ej:TF X [] Γ true Γ:=λσ H0 R0 H R E Q q=>fS wH (q H R E (aw.refl _))
theorem mx {b:Bool}(h:TV X c Γ b Γ1):TF X [c] Γ b Γ1:=λσ H0 R0 H R E Q q=>fS (yO iA) (h σ H0 R0 H R E Q q)
theorem z0 {k:Bool}{r:Rep α}{x y:α}(hc:TV X c Γ k Γ1)(ha:k=true->EV X a Γ1 r x Γ2)(hb:k=false->EV X b Γ1 r y Γ2):EV X (.IfExp c a b pos) Γ r (if k then x else y) Γ2:=by
 intro σ H0 R0 H R E Q q
 refine eS (jd iA aN aN) (hc σ H0 R0 H R E _ λH1 R1 E1 s1=>?_)
 cases k with
 | true=>exact gE (ha rfl σ H0 R0 H1 R1 E1 _ λv H3 R3 E3 s3 e3=>q v H3 R3 E3 (s1.trans s3) e3)
 | false=>exact gJ (hb rfl σ H0 R0 H1 R1 E1 _ λv H3 R3 E3 s3 e3=>q v H3 R3 E3 (s1.trans s3) e3)
end
section
variable {X:Cx}{Γ Γ1 Γ2 Γ3:Ga}{α β γ δ:Type}
variable {r:Rep α}{i:Int}{es:List Expr}{pos:Pos}
structure Pk:Type 1 where
 {α:Type}
 r:Rep α
 x:α
inductive fH (K:PySem.W.Frag) (R:Hp):List V->List Pk->Prop
 | nil:fH K R [] []
 | cons {v:V} {vs:List V} {p:Pk} {ps:List Pk}:p.r.R K R v p.x->fH K R vs ps->fH K R (v::vs) (p::ps)
def HA (X:Cx)(es:List Expr)(Γ:Ga)(ps:List Pk)(Γ':Ga):Prop:=
 ∀(σ:St) (H0 R0 H R:Hp),av X.K σ H0 R0 H R Γ->∀Q:List V->Hp->Prop,(∀vs H' R',av X.K σ H0 R0 H' R' Γ'->aw R R'->fH X.K R' vs ps->Q vs H')->jt X es σ H Q
theorem aP:HA X [] Γ [] Γ:=λσ H0 R0 H R E Q q=>aS br (q [] H R E (aw.refl _) .nil)
theorem au {e:Expr}{x:α}{ps:List Pk}(he:EV X e Γ r x Γ1)(hr:HA X es Γ1 ps Γ2)(hs:starEach (e::es) X.env=(false,eval e X.env)::starEach es X.env:=by rfl):HA X (e::es) Γ (⟨r,x⟩::ps) Γ2:=by
 intro σ H0 R0 H R E Q q
 refine aS (aH aN ie hs) (he σ H0 R0 H R E _ λv H1 R1 E1 s1 e1=>hr σ H0 R0 H1 R1 E1 _ λvs H2 R2 E2 s2 e2=>?_)
 exact q (v::vs) H2 R2 E2 (s1.trans s2) (.cons (r.mono s2 e1) e2)
def EA (X:Cx)(es:List Expr)(Γ:Ga){α:Type}(r:Rep α)(ys:List α)(Γ':Ga):Prop:=
 ∀(σ:St) (H0 R0 H R:Hp),av X.K σ H0 R0 H R Γ->∀Q:List V->Hp->Prop,(∀vs H' R',av X.K σ H0 R0 H' R' Γ'->aw R R'->PySem.Paired (r.R X.K R') vs ys->Q vs H')->jt X es σ H Q
theorem aA:EA X [] Γ r [] Γ:=λσ H0 R0 H R E Q q=>aS br (q [] H R E (aw.refl _) .nil)
theorem ah {e:Expr}{x:α}{ys:List α}(he:EV X e Γ r x Γ1)(hr:EA X es Γ1 r ys Γ2)(hs:starEach (e::es) X.env=(false,eval e X.env)::starEach es X.env:=by rfl):EA X (e::es) Γ r (x::ys) Γ2:=by
 intro σ H0 R0 H R E Q q
 refine aS (aH aN ie hs) (he σ H0 R0 H R E _ λv H1 R1 E1 s1 e1=>hr σ H0 R0 H1 R1 E1 _ λvs H2 R2 E2 s2 e2=>?_)
 exact q (v::vs) H2 R2 E2 (s1.trans s2) (.cons (r.mono s2 e1) e2)
theorem aY {ys:List α}(h:EA X es Γ r ys Γ1)(hz:ys.length<=sizeLine):bb X (.List es pos) Γ r ys Γ1:=by
 intro σ H0 R0 H R E Q q
 refine eS (mE ie) (h σ H0 R0 H R E _ λvs H1 R1 E1 s1 p1=>⟨by rw [p1.length];exact hz,λp hp=>?_⟩)
 exact q p vs _ R1 (E1.grow (Ext.cS E1.sub hp _)) s1 aF (E1.sub.free hp) (E1.ext.h.free hp) (E1.off hp) p1 hz
theorem cT {F:α->β->Prop}:∀{vs:List α} {xs:List β},PySem.Paired F vs xs->∀{i:Nat} {y:β},xs[i]?=some y->∃v,vs[i]?=some v/\F v y
 | _,_,.nil,i,y,h=>by simp at h
 | _,_,.cons h t,0,y,e=>by simp at e;subst e;exact ⟨_,rfl,h⟩
 | _,_,.cons h t,i + 1,y,e=>by
   obtain ⟨v,e1,e2⟩:=cT t (i:=i) (y:=y) (by simpa using e)
   exact ⟨v,by simpa using e1,e2⟩
theorem gC {F:α->β->Prop}{vs:List α}{xs:List β}(p:PySem.Paired F vs xs){y:β}(h:cM xs i=some y):∃v,cM vs i=some v/\F v y:=by
 unfold cM at h ⊢
 rw [p.length]
 cases e:gT xs.length i with
 | none=>rw [e] at h;cases h
 | some j=>rw [e] at h;exact cT p h
theorem lO {xs:List α}(h0:0<=i)(h1:i < xs.length):cM xs i=xs[i.toNat]?:=by
 have e:i=((i.toNat:Nat):Int):=by omega
 have hl:i.toNat < xs.length:=by omega
 have q:cM xs ((i.toNat:Nat):Int)=some xs[i.toNat]:=wa (List.getElem?_eq_getElem hl)
 rw [← e] at q
 rw [q,List.getElem?_eq_getElem hl]
theorem cn {a b:Expr}{xs:List α}{y:α}(ha:EV X a Γ (ak r) xs Γ1)(hb:EV X b Γ1 ag i Γ2)(h:cM xs i=some y)(hs:gy b:=by exact λ_ _=>rfl):EV X (.Subscript a b pos) Γ r y Γ2:=by
 intro σ H0 R0 H R E Q q
 refine eS (iJ kA aN aN hs) (ha σ H0 R0 H R E _ λv H1 R1 E1 s1 e1=>hb σ H0 R0 H1 R1 E1 _ λu H2 R2 E2 s2 e2=>?_)
 obtain ⟨p,vs,rfl,ha,pp,z⟩:=(ak r).mono s2 e1
 obtain ⟨w,e3,e4⟩:=gC pp h
 exact ⟨p,vs,i,w,rfl,e2,bz.of (E2.sub _ _ ha),e3,q w H2 R2 E2 (s1.trans s2) e4⟩
theorem wY {a b:Expr}{xs:List Int}{y:Int}(ha:EV X a Γ cu xs Γ1)(hb:EV X b Γ1 ag i Γ2)(h:cM xs i=some y)(hs:gy b:=by exact λ_ _=>rfl):EV X (.Subscript a b pos) Γ ag y Γ2:=by
 intro σ H0 R0 H R E Q q
 refine eS (iJ kA aN aN hs) (ha σ H0 R0 H R E _ λv H1 R1 E1 s1 e1=>hb σ H0 R0 H1 R1 E1 _ λu H2 R2 E2 s2 e2=>?_)
 obtain ⟨p,rfl,ha,z⟩:=cu.mono s2 e1
 have e3:cM (xs.map V.int) i=some (.int y):=by
  unfold cM at h ⊢
  rw [List.length_map]
  cases e:gT xs.length i with
  | none=>rw [e] at h;cases h
  | some j=>
    rw [e] at h
    show (xs.map V.int)[j]?=_
    rw [List.getElem?_map,show xs[j]?=some y from h];rfl
 exact ⟨p,_,i,_,rfl,e2,E2.sub.seq ha,e3,q _ H2 R2 E2 (s1.trans s2) rfl⟩
section
variable {a:Expr}{n:Int}{j:Nat}{p1 pos:Pos}{w:Row}
end
variable {a:Expr}{pos:Pos}{r:Rep α}{xs:List α}
def OV (X:Cx)(e:Option Expr)(Γ:Ga)(o:Option Int):Prop:=∃t,PO X e t/\∀(σ:St) (H0 R0 H R:Hp),av X.K σ H0 R0 H R Γ->∀Q:Option Int->Hp->Prop,(∀H' R',av X.K σ H0 R0 H' R' Γ->aw R R'->Q o H')->t σ H Q
theorem c9:OV X none Γ none:=⟨_,vH,λσ H0 R0 H R E Q q=>q H R E (aw.refl _)⟩
theorem c8 {e:Expr}{i:Int}(h:EV X e Γ ag i Γ):OV X (some e) Γ (some i):=⟨_,vY aN,λσ H0 R0 H R E Q q=>h σ H0 R0 H R E _ λv H1 R1 E1 s1 e1=>⟨i,e1,q H1 R1 E1 s1⟩⟩
def cut (xs:List α)(lo hi:Option Int):List α:=(xs.drop (HT.sIx xs.length 0 lo)).take (HT.sIx xs.length xs.length hi - HT.sIx xs.length 0 lo)
theorem gg {F:α->β->Prop}:∀(n:Nat) {vs:List α} {xs:List β},PySem.Paired F vs xs->PySem.Paired F (vs.drop n) (xs.drop n)
 | 0,_,_,h=>h
 | _ + 1,_,_,.nil=>.nil
 | n + 1,_,_,.cons _ t=>gg n t
theorem eN {F:α->β->Prop}:∀(n:Nat) {vs:List α} {xs:List β},PySem.Paired F vs xs->PySem.Paired F (vs.take n) (xs.take n)
 | 0,_,_,_=>.nil
 | _ + 1,_,_,.nil=>.nil
 | n + 1,_,_,.cons h t=>.cons h (eN n t)
theorem bN {F:α->β->Prop}:∀{vs:List α} {xs:List β} {vs':List α} {xs':List β},PySem.Paired F vs xs->PySem.Paired F vs' xs'->PySem.Paired F (vs++vs') (xs++xs')
 | _,_,_,_,.nil,h=>h
 | _,_,_,_,.cons h t,h'=>.cons h (bN t h')
theorem oX (xs:List α)(lo hi:Option Int):(cut xs lo hi).length<=xs.length:=by
 unfold cut
 rw [List.length_take,List.length_drop]
 omega
theorem ir {lo hi:Option Expr}{p2:Pos}{l h:Option Int}(ha:EV X a Γ (ak r) xs Γ)(hl:OV X lo Γ l)(hh:OV X hi Γ h):bb X (.Subscript a (.Slice lo hi none p2) pos) Γ r (cut xs l h) Γ:=by
 intro σ H0 R0 H R E Q q
 obtain ⟨tl,pl,kl⟩:=hl
 obtain ⟨th,ph,kh⟩:=hh
 refine eS (mr uS aN pl ph) (ha σ H0 R0 H R E _ λv H1 R1 E1 s1 e1=>kl σ H0 R0 H1 R1 E1 _ λH2 R2 E2 s2=>kh σ H0 R0 H2 R2 E2 _ λH3 R3 E3 s3=>?_)
 obtain ⟨p,vs,rfl,hp,pp,z⟩:=(ak r).mono (s2.trans s3) e1
 refine ⟨p,vs,rfl,bz.of (E3.sub _ _ hp),λd hd=>?_⟩
 refine q d _ _ R3 (E3.grow (Ext.cS E3.sub hd _)) (s1.trans (s2.trans s3)) aF (E3.sub.free hd) (E3.ext.h.free hd) (E3.off hd) ?_ (Nat.le_trans (oX _ _ _) z)
 unfold cut gf
 rw [pp.length]
 exact eN _ (gg _ pp)
theorem du {b:Expr}{ys:List α}(ha:EV X a Γ (ak r) xs Γ1)(hb:EV X b Γ1 (ak r) ys Γ2)(hz:xs.length + ys.length<=sizeLine):bb X (.BinOp a .Add b pos) Γ r (xs++ys) Γ2:=by
 intro σ H0 R0 H R E Q q
 refine eS (lz xr aN aN) (ha σ H0 R0 H R E _ λv H1 R1 E1 s1 e1=>hb σ H0 R0 H1 R1 E1 _ λu H2 R2 E2 s2 e2=>?_)
 obtain ⟨p,vs,rfl,hp,pp,z⟩:=(ak r).mono s2 e1
 obtain ⟨p',ws,rfl,hp',pp',z'⟩:=e2
 refine ⟨p,p',vs,ws,rfl,rfl,E2.sub _ _ hp,E2.sub _ _ hp',by rw [pp.length,pp'.length];exact hz,λd hd=>?_⟩
 exact q d _ _ R2 (E2.grow (Ext.cS E2.sub hd _)) (s1.trans s2) aF (E2.sub.free hd) (E2.ext.h.free hd) (E2.off hd) (bN pp pp') (by rw [List.length_append];exact hz)
theorem jH {F:α->β->Prop}{vs:List α}{xs:List β}(h:PySem.Paired F vs xs):∀k:Nat,PySem.Paired F (List.replicate k vs).flatten (List.replicate k xs).flatten
 | 0=>.nil
 | k + 1=>by rw [List.replicate_succ,List.replicate_succ];exact bN h (jH h k)
theorem vm {b:Expr}{k:Int}(ha:EV X a Γ (ak r) xs Γ1)(hb:EV X b Γ1 ag k Γ2)(h1: -(2 ^ 63)<=k)(h2:k < 2 ^ 63)(hz:xs.length * k.toNat<=sizeLine):bb X (.BinOp a .Mult b pos) Γ r (List.replicate k.toNat xs).flatten Γ2:=by
 intro σ H0 R0 H R E Q q
 refine eS (lz zt aN aN) (ha σ H0 R0 H R E _ λv H1 R1 E1 s1 e1=>hb σ H0 R0 H1 R1 E1 _ λu H2 R2 E2 s2 e2=>?_)
 obtain ⟨p,vs,rfl,hp,pp,z⟩:=(ak r).mono s2 e1
 refine ⟨p,k,vs,rfl,e2,E2.sub _ _ hp,h1,h2,by rw [pp.length];exact hz,λd hd=>?_⟩
 exact q d _ _ R2 (E2.grow (Ext.cS E2.sub hd _)) (s1.trans s2) aF (E2.sub.free hd) (E2.ext.h.free hd) (E2.off hd) (jH pp _) (by rw [len_rep,Nat.mul_comm];exact hz)
theorem fA {p:Pos}(hm:X.mg "len"=none)(ha:EV X a Γ (ak r) xs Γ1)(hs:starEach [a] X.env=[(false,eval a X.env)]:=by rfl)(hg:Gl X "len":=by rfl):EV X (.Call (.Name "len" p) [a] [] pos) Γ ag (xs.length:Int) Γ1:=by
 intro σ H0 R0 H R E Q q
 refine eS (cG dA hg hm PySem.boot_len (aH aN br hs) (by decide) (by decide) hs) (ha σ H0 R0 H R E _ λv H1 R1 E1 s1 e1=>?_)
 obtain ⟨p,vs,rfl,hp,pp,z⟩:=e1
 refine ⟨p,vs,rfl,.inl (bz.of (E1.sub _ _ hp)),?_⟩
 rw [pp.length]
 exact q _ H1 R1 E1 s1 rfl
theorem ny {p:Pos}{xs:List Int}(hm:X.mg "len"=none)(ha:EV X a Γ cu xs Γ1)(hs:starEach [a] X.env=[(false,eval a X.env)]:=by rfl)(hg:Gl X "len":=by rfl):EV X (.Call (.Name "len" p) [a] [] pos) Γ ag (xs.length:Int) Γ1:=by
 intro σ H0 R0 H R E Q q
 refine eS (cG dA hg hm PySem.boot_len (aH aN br hs) (by decide) (by decide) hs) (ha σ H0 R0 H R E _ λv H1 R1 E1 s1 e1=>?_)
 obtain ⟨p,rfl,hp,z⟩:=e1
 refine ⟨p,_,rfl,.inl (E1.sub.seq hp),?_⟩
 rw [List.length_map]
 exact q _ H1 R1 E1 s1 rfl
end
section
variable {X:Cx}{Γ Γ1 Γ2 Γ3:Ga}{α β γ δ:Type}{N:Ga->Prop}{T:RT}
variable {pos:Pos}{r:Rep α}{x:Str}{p1:Pos}{e:Expr}
theorem qq {Γ':Ga}(w:Wk Γ Γ')(h:N Γ'):WS X [] Γ N T:=λσ H0 R0 H R E D dn dr=>uj uK (dn σ H R Γ' (E.weak w) (aw.refl _) h)
theorem aG (h:N Γ):WS X [] Γ N T:=qq (Wk.refl Γ) h
theorem ai {st:Stmt}{rest:List Stmt}(h:W1 X st Γ (λΓ'=>WS X rest Γ' N T) T):WS X (st::rest) Γ N T:=λσ H0 R0 H R E D dn dr=>
 uj (l9 yn eM) (h σ H0 R0 H R E {D with nx:=fZ X rest D} (λσ' H' R' Γ' E' s' h'=>h' σ' H0 R0 H' R' E' D (λσ2 H2 R2 Γ2 E2 s2=>dn σ2 H2 R2 Γ2 E2 (s'.trans s2)) dr) dr)
theorem ay {st:Stmt}(h:W1 X st Γ N T):WS X [st] Γ N T:=λσ H0 R0 H R E D dn dr=>uj (wb yn) (h σ H0 R0 H R E D dn dr)
theorem bw (i:Nat){y:α}(he:EV X e Γ r y Γ1)(h:N (Γ1.set i (.im r y)))(hN:X.N.Nodup:=by first | assumption | decide)(hi:X.N[i]?=some x:=by rfl)(hx:Loc X.env.scope x:=by first | exact Or.inl rfl | exact Or.inr rfl)
 (hs:swapsWith e (some (.Name x p1)) pos.line X.env=pure false:=by rfl) (hf:X.fn x=true∨X.env.scope.names.lookup x=some .local:=by first | exact .inl rfl | exact .inr rfl):W1 X (.Assign [.Name x p1] e pos) Γ N T:=λσ H0 R0 H R E D dn dr=>
 sS (eP hN hi hx aN hs hf) (he σ H0 R0 H R E _ λv H1 R1 E1 s1 e1=>dn _ H1 R1 _ (E1.set i e1) s1 h)
theorem xJ (i:Nat){ys:List α}(he:bb X e Γ r ys Γ1)(h:N (Γ1.set i (.mu r ys)))(hN:X.N.Nodup:=by first | assumption | decide)(hi:X.N[i]?=some x:=by rfl)(hx:Loc X.env.scope x:=by first | exact Or.inl rfl | exact Or.inr rfl)
 (hs:swapsWith e (some (.Name x p1)) pos.line X.env=pure false:=by rfl) (hf:X.fn x=true∨X.env.scope.names.lookup x=some .local:=by first | exact .inl rfl | exact .inr rfl):W1 X (.Assign [.Name x p1] e pos) Γ N T:=λσ H0 R0 H R E D dn dr=>
 sS (eP hN hi hx aN hs hf) (he σ H0 R0 H R E _ λa vs H1 R1 E1 s1 ha hR h0 off p z=>dn _ H1 R1 _ (E1.sO (u:=.lst vs) (en:=.mu r ys) i ⟨a,vs,rfl,ha,hR,p⟩ h0 λj e _ q w=>off j e q w) s1 h)
theorem bB {P:α->Prop}{y:α}(he:EV X e Γ r y Γ1)(h:P y):W1 X (.Return (some e) pos) Γ N (dc X.K r P):=λσ H0 R0 H R E D dn dr=>
 sS (eA aN) (he σ H0 R0 H R E _ λv H1 R1 E1 s1 e1=>dr v H1 R1 E1.ext ⟨y,e1,h⟩)
theorem aD {c:Expr}{a b:List Stmt}{k:Bool}(hc:TV X c Γ k Γ1)(h1:k=true->WS X a Γ1 N T)(h2:k=false->WS X b Γ1 N T):W1 X (.If c a b pos) Γ N T:=λσ H0 R0 H R E D dn dr=>by
 refine sS (Ay iA eM eM) (hc σ H0 R0 H R E _ λH1 R1 E1 s1=>?_)
 cases k with
 | true=>exact gE (h1 rfl σ H0 R0 H1 R1 E1 D (λσ2 H2 R2 Γ2 E2 s2=>dn σ2 H2 R2 Γ2 E2 (s1.trans s2)) dr)
 | false=>exact gJ (h2 rfl σ H0 R0 H1 R1 E1 D (λσ2 H2 R2 Γ2 E2 s2=>dn σ2 H2 R2 Γ2 E2 (s1.trans s2)) dr)
theorem cF (i:Nat)(hN:X.N.Nodup:=by first | assumption | decide)(hi:X.N[i]?=some x:=by rfl)(hx:Loc X.env.scope x:=by first | exact Or.inl rfl | exact Or.inr rfl)(hf:X.fn x=true∨X.env.scope.names.lookup x=some .local:=by first | exact .inl rfl | exact .inr rfl):
 BG X (.Name x pos) r (λy Γ=>Γ.set i (.im r y)):=λσ H0 R0 H R Γ v x E h Q q=>gS (cy hN hi hx hf) (q _ (E.set i h))
theorem kg (i j:Nat){y:Str}{k:Nat}{p2:Pos}{r':Rep β}(hc:X.calm=true:=by rfl)(hN:X.N.Nodup:=by first | assumption | decide)(hi:X.N[i]?=some x:=by rfl)(hx:Loc X.env.scope x:=by first | exact Or.inl rfl | exact Or.inr rfl)(hf:X.fn x=true∨X.env.scope.names.lookup x=some .local:=by first | exact .inl rfl | exact .inr rfl)
 (hj:X.N[j]?=some y:=by rfl) (hy:Loc X.env.scope y:=by first | exact Or.inl rfl | exact Or.inr rfl) (hf':X.fn y=true∨X.env.scope.names.lookup y=some .local:=by first | exact .inl rfl | exact .inr rfl):
 BG X (.Tuple [.Name x p1,.Name y p2] k pos) (gK r r') (λw Γ=>(Γ.set i (.im r w.1)).set j (.im r' w.2)):=λσ H0 R0 H R Γ v w E h Q q=>by
 obtain ⟨a,v1,v2,rfl,ha,e1,e2⟩:=h
 exact gS (jR hc (cj (cy hN hi hx hf) (cj (cy hN hj hy hf') iN))) ⟨a,_,rfl,bL.of (E.sub _ _ ha),rfl,v1,[v2],rfl,v2,[],rfl,rfl,q _ ((E.set i e1).set j e2)⟩
end
section
variable {X:Cx}{Γ Γ1 Γ2 Γ3:Ga}{α β γ δ:Type}{N:Ga->Prop}{T:RT}
variable {r:Rep α}{xs:List α}
theorem at_of {σ:St}{i:Nat}{v:V}(e:(σ[i]?).join=some v):σ[i]?=some (some v):=by
 cases es:σ[i]? with
 | none=>rw [es] at e;cases e
 | some o=>rw [es] at e;exact congrArg some e
theorem vU {c:Expr}{body:List Stmt}{pos:Pos}(I:Nat->Ga->Prop){m0:Nat}(h0:I m0 Γ)
 (hstep:∀(m:Nat) (Γ:Ga),I m Γ->∃(k:Bool) (Γ':Ga),TV X c Γ k Γ'/\(k=true->WS X body Γ' (λΓ''=>∃m',m' < m/\I m' Γ'') T)/\(k=false->N Γ'))
 (hp:PassesOwn (model X.prog X.w) X.A X.env X.xe:=by exact PassesOwn.never):W1 X (.While c body [] pos) Γ N T:=λσ H0 R0 H R E D dn dr=>by
 refine sS (sL hp iA eM) ?_
 refine ⟨λm σ' H'=>∃R' Γ',av X.K σ' H0 R0 H' R' Γ'/\aw R R'/\I m Γ',⟨m0,R,Γ,E,aw.refl _,h0⟩,?_⟩
 rintro m σ' H' ⟨R',Γ',E',s',hI⟩
 obtain ⟨k,Γ2,ht,h1,h2⟩:=hstep m Γ' hI
 refine ht σ' H0 R0 H' R' E' _ λH1 R1 E1 s1=>?_
 cases k with
 | true=>
   refine gE ⟨_,λσ2 H2 h=>h,h1 rfl σ' H0 R0 H1 R1 E1 _ (λσ3 H3 R3 Γ3 E3 s3 h3=>?_) dr⟩
   obtain ⟨m',hm,hI'⟩:=h3
   exact ⟨m',hm,R3,Γ3,E3,s'.trans (s1.trans s3),hI'⟩
 | false=>exact gJ (dn σ' H1 R1 Γ2 E1 (s'.trans s1) (h2 rfl))
theorem lS (i:Nat){x:Str}{e:Expr}{p1 ap cp pos:Pos}{y:α}(he:EV X e Γ r y Γ1)(hΓ:Γ[i]?=some (.mu r xs))(hΓ1:Γ1[i]?=some (.mu r xs))(hz:xs.length < sizeLine)(h:N (Γ1.set i (.mu r (xs++[y]))))
 (hN:X.N[i]?=some x:=by rfl) (hv:cL X.env.scope x:=by first | exact Or.inl rfl | exact Or.inr (Or.inl rfl) | exact Or.inr (Or.inr rfl))
 (hd:(x==("__debug__":Str))=false:=by decide) (hcd:(x==("__classdict__":Str))=false:=by decide)
 (hsw:swapsWith (.Call (.Attribute (.Name x p1) "append" ap) [e] [] cp) none pos.line X.env=pure false:=by rfl)
 (hbase:attributeBase (.Name x p1) "append" X.env (eval (.Name x p1) X.env)=eval (.Name x p1) X.env:=by rfl)
 (hfew:((backTo cp (starEach [e] X.env)).all (λx=> !x.1)&&(backToKw cp (keywordEach [] X.env)).all (λx=>x.1.isSome)
  &&decide ([e].length + ([]:List Keyword).length + (if ([]:List Keyword).isEmpty then 0 else 1) < 30))=true:=by rfl)
 (hline:(ap.endLine==cp.line)=true:=by rfl) (hs:starEach [e] X.env=(false,eval e X.env)::starEach [] X.env:=by rfl):W1 X (.Expr (.Call (.Attribute (.Name x p1) "append" ap) [e] [] cp) pos) Γ N T:=λσ H0 R0 H R E D dn dr=>by
 obtain ⟨a,vs,ea,ha,hR,pp⟩:=E.ent i _ hΓ
 refine sS (eC (lr PySem.F.plainAttrs_list PySem.F.slot_list_append PySem.F.type_list_append fW (bM hN hv hd hcd) (aH aN br hs) hbase hfew hline hs rfl) hsw) ?_
 refine ⟨.ref a,at_of ea,.inl ⟨rfl,vs,bz.of ha⟩,he σ H0 R0 H R E _ λv H1 R1 E1 s1 e1=>?_⟩
 obtain ⟨a',vs',ea',ha',hR',pp'⟩:=E1.ent i _ hΓ1
 rw [ea] at ea';cases ea'
 refine ⟨a,vs',v,rfl,rfl,ha',by rw [pp'.length];exact hz,?_⟩
 exact dn σ _ R1 _ (E1.upd (en:=.mu r (xs++[y])) hΓ1 rfl ea hR' ⟨a,_,rfl,aF,hR',bN pp' (.cons e1 .nil)⟩) s1 h
theorem j7 {F:α->β->Prop}{v:α}{y:β}(h:F v y):∀{vs:List α} {xs:List β} (i:Nat),PySem.Paired F vs xs->PySem.Paired F (vs.set i v) (xs.set i y)
 | _,_,_,.nil=>.nil
 | _,_,0,.cons _ t=>.cons h t
 | _,_,i + 1,.cons q t=>.cons q (j7 h i t)
theorem freeze {K:PySem.W.Frag}{σ:St}{H0 R0 H R:Hp}(E:av K σ H0 R0 H R Γ){i:Nat}(hΓ:Γ[i]?=some (.mu r xs))(hz:xs.length<=sizeLine):∃R' v,av K σ H0 R0 H R' (Γ.set i (.im (ak r) xs))/\aw R R'/\(σ[i]?).join=some v/\(ak r).R K R' v xs:=by
 obtain ⟨a,vs,ea,ha,hR,pp⟩:=E.ent i _ hΓ
 have h0:H0 a=none:=E.new i _ a hΓ rfl ea
 have s2:aw R (upd R a (.lst vs)):=aw.fresh hR _
 have rr:(ak r).R K (upd R a (.lst vs)) (.ref a) xs:=⟨a,vs,rfl,aF,Paired.map (λ_ _=>r.mono s2) pp,hz⟩
 have E1:av K σ H0 R0 H R (Γ.set i .no):=E.tell hΓ trivial λb w=>by cases w
 have E2:=E1.gG ha hR h0 λj e q w=>by
  rcases set_at q with ⟨rfl,rfl,_⟩ | ⟨hj,q1⟩
  ·cases w
  ·exact hj (E.ds j i e _ a q1 hΓ w ((Ent.ka (e:=.mu r xs) rfl).mpr ea))
 have hl:i < Γ.length:=(List.getElem?_eq_some_iff.mp hΓ).1
 have E3:=E2.tell (i:=i) (e0:=.no) (en:=.im (ak r) xs) (List.getElem?_set_self hl) ⟨_,ea,rr⟩ λb w=>by cases w
 rw [List.set_set] at E3
 exact ⟨_,.ref a,E3,s2,ea,rr⟩
theorem WS.freeze (i:Nat){sts:List Stmt}(hΓ:Γ[i]?=some (.mu r xs))(hz:xs.length<=sizeLine)(h:WS X sts (Γ.set i (.im (ak r) xs)) N T):WS X sts Γ N T:=λσ H0 R0 H R E D dn dr=>by
 obtain ⟨R',v,E',s',_,_⟩:=Fc.freeze E hΓ hz
 exact h σ H0 R0 H R' E' D (λσ2 H2 R2 Γ2 E2 s2=>dn σ2 H2 R2 Γ2 E2 (s'.trans s2)) dr
end
abbrev cI:=PySem.W.Frag->List Pk->RT->Prop
def bg (S:cI)(K:PySem.W.Frag):Sp:=λvs H Q _=>∃R ps T,aw R H/\fH K R vs ps/\S K ps T/\∀v H' R',Ext H R H' R'->T H v H' R'->Q v H'
theorem fH.length {K:PySem.W.Frag}{R:Hp}:∀{vs:List V} {ps:List Pk},fH K R vs ps->vs.length=ps.length
 | _,_,.nil=>rfl
 | _,_,.cons _ t=>by rw [List.length_cons,List.length_cons,fH.length t]
structure aV (P:Program) (w:World) (K:PySem.W.Frag) (mg:Str->Option Value) (base:Heap) (x:Str) (k:Nat) (sp:Sp):Prop where
 ex:∃f fd ps,cJ P w K mg base dJ k f fd ps sp/\mg x=some (.ref f)/\PySem.W.keepIn K (.ref f)=true/\Binds K fd ps []
theorem aV.mono {P:Program}{w:World}{K:PySem.W.Frag}{mg:Str->Option Value}{base:Heap}{x:Str}{j k:Nat}{sp:Sp}(c:aV P w K mg base x j sp)(h:j<=k):aV P w K mg base x k sp:=by
 obtain ⟨f,fd,ps,F,a,b,c⟩:=c.ex
 exact ⟨f,fd,ps,F.mono h,a,b,c⟩
section
variable {X:Cx}{Γ Γ1 Γ2 Γ3:Ga}{α β γ δ:Type}{N:Ga->Prop}{T:RT}
theorem fL {S:cI}{x:Str}{k:Nat}{e:Expr}{es:List Expr}{p pos:Pos}{ps:List Pk}{Q:VK}{σ:St}{H0 R0 H R:Hp}(C:aV X.prog X.w X.K X.mg X.base x k (bg S X.K))(hr:bj k X.A)(ha:HA X (e::es) Γ ps Γ1)(hS:S X.K ps T)(E:av X.K σ H0 R0 H R Γ)
 (q:∀H1 R1 v H' R',av X.K σ H0 R0 H1 R1 Γ1->aw R R1->Ext H1 R1 H' R'->T H1 v H' R'->Q v H')
 (hg:Gl X x) (hdb:(x==("__debug__":Str))=false) (he:starEach (e::es) X.env=(false,eval e X.env)::starEach es X.env) (hpl:(backTo pos (starEach es X.env)).any (·.1)=false):cQ X (.Call (.Name x p) (e::es) [] pos) σ H Q:=by
 obtain ⟨f,fd,pn,F,hm,hk,hb⟩:=C.ex
 refine eS (iM F hr hg hm hk hb .nil gP ie hdb he hpl) (ha σ H0 R0 H R E _ λvs H1 R1 E1 s1 p1=>?_)
 refine ⟨R1,ps,T,E1.sub,by rw [List.append_nil];exact p1,hS,λv H' R' x t=>q H1 R1 v H' R' E1 s1 x t⟩
theorem bI {S:cI}{x:Str}{k:Nat}{e:Expr}{es:List Expr}{p pos:Pos}{ps:List Pk}{r:Rep α}{y:α}(C:aV X.prog X.w X.K X.mg X.base x k (bg S X.K))(hr:bj k X.A)(ha:HA X (e::es) Γ ps Γ1)(hS:S X.K ps (dc X.K r (· =y)))
 (hg:Gl X x:=by rfl) (hdb:(x==("__debug__":Str))=false:=by decide) (he:starEach (e::es) X.env=(false,eval e X.env)::starEach es X.env:=by rfl) (hpl:(backTo pos (starEach es X.env)).any (·.1)=false:=by rfl):EV X (.Call (.Name x p) (e::es) [] pos) Γ r y Γ1:=λσ H0 R0 H R E Q q=>
 fL C hr ha hS E (λH1 R1 v H' R' E1 s1 xx t=>by
  obtain ⟨z,e1,rfl⟩:=t
  exact q v H' R' (E1.grow xx) (s1.trans xx.r) e1) hg hdb he hpl
end
def dM (ps:List Pk)(n:Nat):Ga:=ps.map (λp=>Ent.im p.r p.x)++List.replicate (n - ps.length) .no
theorem ee {K:PySem.W.Frag}{R H:Hp}{vs:List V}{ps:List Pk}{N:List Str}(s:aw R H)(p:fH K R vs ps)(hl:ps.length<=N.length):av K (L2.start N vs) H R H R (dM ps N.length):=by
 have noown:∀(i:Nat) (e:Ent) (o:Option V),(dM ps N.length)[i]?=some e->e.fp o=[]:=λi e o q=>by
  unfold dM at q
  rcases List.mem_append.mp (List.mem_of_getElem? q) with z | z
  ·obtain ⟨p,_,rfl⟩:=List.mem_map.mp z;rfl
  ·obtain ⟨_,rfl⟩:=List.mem_replicate.mp z;rfl
 refine ⟨Ext.refl s,λi e q=>?_,λi e a q w=>absurd w (by rw [noown i e _ q];exact List.not_mem_nil),λi j e e' a q _ w=>absurd w (by rw [noown i e _ q];exact List.not_mem_nil),?_⟩
 ·have hp:=p.length
  unfold dM at q
  unfold L2.start
  by_cases hi:i < ps.length
  ·rw [List.getElem?_append_left (by simpa using hi),List.getElem?_map] at q
   rw [List.getElem?_append_left (by simpa [hp] using hi),List.getElem?_map]
   have key:∀{vs:List V} {ps:List Pk},fH K R vs ps->∀(i:Nat) (p:Pk),ps[i]?=some p->∃v,vs[i]?=some v/\p.r.R K R v p.x:=by
    intro vs ps h
    induction h with
    | nil=>intro i p e;simp at e
    | cons a b ih=>
      intro i p e
      cases i with
      | zero=>simp at e;subst e;exact ⟨_,rfl,a⟩
      | succ i=>simpa using ih i p (by simpa using e)
   cases e1:ps[i]? with
   | none=>rw [e1] at q;cases q
   | some p1=>
     rw [e1] at q
     cases q
     obtain ⟨v,h1,h2⟩:=key p i p1 e1
     rw [h1]
     exact ⟨v,rfl,h2⟩
  ·rw [List.getElem?_append_right (by simpa using hi),List.getElem?_replicate] at q
   split at q
   ·cases q;trivial
   ·cases q
 ·unfold dM L2.start
  rw [List.length_append,List.length_append,List.length_map,List.length_map,List.length_replicate,List.length_replicate,p.length]
section
variable {P:Program}{w:World}{K:PySem.W.Frag}{mg:Str->Option Value}{base:Heap}
theorem cN {S:cI}{x qual:Str}{st:Stmt}{f:Addr}{fd:FuncData}{N ps:List Str}{k:Nat}(F:bX K x qual st f fd)(Sc:aU N ps (aq st))(hm:mg x=some (.ref f))(hb:Binds K fd ps [])(len:∀qs T,S K qs T->qs.length=ps.length)
 (hbody:∀(cdv:Value) (A:Around) (outer:List Env) (s:Shared) (H:Hp) (E:XK) (qs:List Pk) (T:RT),bj k (A.deeper (envOfC qual (aq st) s.heap.objs.size f cdv))->S K qs T->
  WS (cf dJ P w K mg base N qual (aq st) f cdv A outer s H E).cH (bT st) (dM qs N.length) (λ_=>False) T):aV P w K mg base x (k + 1) (bg S K):=by
 refine ⟨f,fd,ps,?_,hm,F.kp,hb⟩
 refine F.ok Sc (λvs H Q E h=>?_) (λcdv A outer s H vs Q E hr h=>?_)
 ·obtain ⟨R,qs,T,_,p,hS,_⟩:=h
  rw [p.length];exact len qs T hS
 ·obtain ⟨R,qs,T,sR,p,hS,q⟩:=h
  have hl:qs.length<=N.length:=by
   rw [len qs T hS]
   have:=congrArg List.length Sc.pre
   rw [List.length_take] at this
   omega
  exact ⟨_,eM,hbody cdv A outer s H E qs T hr hS (L2.start N vs) H R H R (ee sR p hl) {nx:=λ_ H'=>Q .non H',rt:=Q} (λ_ _ _ _ _ _ f=>f.elim) λv H' R' xx t=>q v H' R' xx t⟩
end
section
variable {X:Cx}{Γ Γ1 Γ2 Γ3:Ga}{α β γ δ:Type}{N:Ga->Prop}{T:RT}
variable {a:Expr}{p pos:Pos}
theorem sV {bs:List Bool}{us:List Value}(r:Vals (bs.map V.bl) us){j:Nat}{v:Value}(h:us.toArray[j]?=some v):v= .bool (bs.getD j true):=by
 induction bs generalizing us j with
 | nil=>cases r;simp at h
 | cons b r' ih=>
   cases r with
   | cons h1 t=>
     cases j with
     | zero=>simp at h;rw [← h];exact h1
     | succ j=>exact ih t (by simpa using h)
theorem all_range (bs:List Bool):((List.range bs.length).all λj=>bs.getD j true)=bs.all id:=by
 rw [Bool.eq_iff_iff,List.all_eq_true,List.all_eq_true]
 constructor
 ·intro h b hb
  obtain ⟨j,hj,rfl⟩:=List.mem_iff_getElem.mp hb
  have:=h j (List.mem_range.mpr hj)
  simpa [List.getD_eq_getElem?_getD,List.getElem?_eq_getElem hj] using this
 ·intro h j hj
  have hj:=List.mem_range.mp hj
  simpa [List.getD_eq_getElem?_getD,List.getElem?_eq_getElem hj] using h _ (List.getElem_mem hj)
theorem sx (hc:X.calm=true):dg X (.builtin "all") (λxs H Q=>∃(p:Addr) (bs:List Bool),xs=[.ref p]/\bz X.K H p (bs.map V.bl)/\Q (.bl (bs.all id)) H):=by
 intro pins s σ H xs us Q I r h
 obtain ⟨p,bs,rfl,hq,q⟩:=h
 obtain ⟨u,rfl,rx⟩:=vals1 r
 cases rx
 obtain ⟨its,r',pl,hz⟩:=I.list hq
 have hne:p≠s.heap.objs.size:=λe=>by obtain ⟨o,ho,_⟩:=pl.isList;exact absurd (Heap.lt_size ho) (by rw [e];exact Nat.lt_irrefl _)
 refine call_all_walk (wpAny_pyIter_list pl.isList ?_)
 refine ⟨s.heap.objs.size,_,[s.heap.objs.size],its.toArray.size,_,_,λj=>bs.getD j true,rfl,Walks.list (A:=X.A.in1) (show X.A.in1.handled=none from I.ok.hd hc) s.heap.objs.size p hne its.toArray,?_,λj v s Q E hv hQ=>?_,λh' tk hk=>?_⟩
 ·refine ⟨⟨_,Heap.get?_push_size _ rfl,rfl,rfl⟩,?_⟩
  obtain ⟨o,ho,c,n,d⟩:=pl.isList
  exact ⟨o,Heap.get?_push_of_some _ ho,c,n,d⟩
 ·rw [sV r' hv];exact wpAny_truthy_bool hQ
 ·have e:its.toArray.size=bs.length:=by rw [List.size_toArray,← r'.length,List.length_map]
  rw [e,all_range]
  exact ⟨.bl _,H,I.kept λb o e=>hk b o (λz=>absurd (Heap.lt_size e) (by rw [List.mem_singleton.mp z];exact Nat.lt_irrefl _)) (Heap.get?_push_of_some _ e),rfl,q⟩
theorem lQ {K:PySem.W.Frag}{R:Hp}:∀{vs:List V} {xs:List Bool},PySem.Paired (bU.R K R) vs xs->vs=xs.map V.bl
 | _,_,.nil=>rfl
 | _,_,.cons h t=>by rw [List.map_cons,← lQ t];exact congrArg (· ::_) h
theorem uw {x:Str}{id:String}{r:List V->Hp->VK->Prop}{ra:Rep α}{rb:Rep β}{y:α}{z:β}(hc:dg X (.builtin id) r)(hm:X.mg x=none)(hv:bootBuiltins x=some (.builtin id))(ha:EV X a Γ ra y Γ1)
 (h:∀(R H:Hp) v Q,aw R H->ra.R X.K R v y->(∀w,rb.R X.K R w z->Q w H)->r [v] H Q) (hs:starEach [a] X.env=[(false,eval a X.env)]:=by rfl) (hg:Gl X x:=by rfl) (hn:x≠"__name__":=by decide) (hdb:(x==("__debug__":Str))=false:=by decide):
 EV X (.Call (.Name x p) [a] [] pos) Γ rb z Γ1:=by
 intro σ H0 R0 H R E Q q
 exact eS (cG hc hg hm hv (aH aN br hs) hn hdb hs) (ha σ H0 R0 H R E _ λv H1 R1 E1 s1 e1=>h R1 H1 v _ E1.sub e1 λw hw=>q w H1 R1 E1 s1 hw)
theorem j0 {bs:List Bool}(hm:X.mg "all"=none)(ha:EV X a Γ (ak bU) bs Γ1)(hs:starEach [a] X.env=[(false,eval a X.env)]:=by rfl)(hc:X.calm=true:=by rfl)(hg:Gl X "all":=by rfl):EV X (.Call (.Name "all" p) [a] [] pos) Γ bU (bs.all id) Γ1:=
 uw (sx hc) hm boot_all ha (λR H v Q s ⟨p,vs,e,hp,pp,_⟩ q=>⟨p,bs,by rw [e],by rw [← lQ pp];exact bz.of (s _ _ hp),q _ rfl⟩) hs hg
theorem vN {b:Bool}(hm:X.mg "int"=none)(ha:EV X a Γ bU b Γ1)(hs:starEach [a] X.env=[(false,eval a X.env)]:=by rfl)(hg:Gl X "int":=by rfl):EV X (.Call (.Name "int" p) [a] [] pos) Γ ag (if b then 1 else 0) Γ1:=by
 intro σ H0 R0 H R E Q q
 exact eS (eW qJ hg hm PyProof.Rows.boot_int (aH aN br hs) (by decide) (by decide) hs) (ha σ H0 R0 H R E _ λv H1 R1 E1 s1 e1=>.inr ⟨b,by rw [show v=V.bl b from e1],q _ H1 R1 E1 s1 rfl⟩)
theorem gM {r:Rep α}{xs:List α}(hm:X.mg "list"=none)(ha:EV X a Γ (ak r) xs Γ1)(hs:starEach [a] X.env=[(false,eval a X.env)]:=by rfl)(hg:Gl X "list":=by rfl):bb X (.Call (.Name "list" p) [a] [] pos) Γ r xs Γ1:=by
 intro σ H0 R0 H R E Q q
 refine eS (eW iy hg hm PyProof.Rows.boot_list (aH aN br hs) (by decide) (by decide) hs) (ha σ H0 R0 H R E _ λv H1 R1 E1 s1 e1=>?_)
 obtain ⟨p,vs,rfl,hp,pp,z⟩:=e1
 exact ⟨p,vs,rfl,.inl (bz.of (E1.sub _ _ hp)),λl hl=>q l vs _ R1 (E1.grow (Ext.cS E1.sub hl _)) s1 aF (E1.sub.free hl) (E1.ext.h.free hl) (E1.off hl) pp z⟩
theorem nG {b:Expr}{x y:Int}(hm:X.mg "min"=none)(ha:HA X [a,b] Γ [⟨ag,x⟩,⟨ag,y⟩] Γ1)(hs:starEach [a,b] X.env=(false,eval a X.env)::starEach [b] X.env:=by rfl)(hc:X.calm=true:=by rfl)(hg:Gl X "min":=by rfl)(hpl:(backTo pos (starEach [b] X.env)).any (·.1)=false:=by rfl):EV X (.Call (.Name "min" p) [a,b] [] pos) Γ ag (if y < x then y else x) Γ1:=by
 intro σ H0 R0 H R E Q q
 refine eS (cG (qx hc) hg hm PyProof.Rows.boot_min ie (by decide) (by decide) hs hpl) (ha σ H0 R0 H R E _ λvs H1 R1 E1 s1 p1=>?_)
 cases p1 with
 | cons a1 t=>cases t with
   | cons a2 t2=>cases t2;cases a1;cases a2;exact ⟨x,y,rfl,q _ H1 R1 E1 s1 rfl⟩
theorem oa:∀{xs ys:List Int},xs.Perm ys->xs.Pairwise (· <=·)->ys.Pairwise (· <=·)->xs=ys:=by
 intro xs ys p h1 h2
 exact List.Perm.eq_of_pairwise (le:=λa b=>decide (a<=b)) (by intro a b _ _ h h';simp at h h';omega) (h1.imp λh=>by simpa using h) (h2.imp λh=>by simpa using h) p
def sortI (xs:List Int):List Int:=xs.mergeSort (λa b=>decide (a<=b))
theorem jf {xs ms:List Int}(p:ms.Perm xs)(h:ms.Pairwise (· <=·)):ms=sortI xs:=by
 refine oa (p.trans (List.mergeSort_perm xs _).symm) h ?_
 have:=List.pairwise_mergeSort (le:=λ(a b:Int)=>decide (a<=b)) (by intro a b c;simp;omega) (by intro a b;simp;omega) xs
 exact this.imp λh=>by simpa using h
end
def Src (K:PySem.W.Frag)(J:It)(R1:Hp){α:Type}(r:Rep α)(xs:List α):Prop:=
 ∀(H' R':Hp),aw R1 R'->aw R' H'->∀i:Nat,(∀x,xs[i]?=some x->J.go i H'/\∀v H2,J.yld i H' v H2->∃R2,Ext H' R' H2 R2/\r.R K R2 v x)/\(xs.length<=i->J.stop i H')
section
variable {X:Cx}{Γ Γ1 Γ2 Γ3:Ga}{α β γ δ:Type}{N:Ga->Prop}{T:RT}
variable {tg:Expr}{xs:List α}{iter:Expr}{bf:α->Ga->Ga}{pos:Pos}{elt:Expr}{ifs:List Expr}{scope:Scope}{cl:List (Str×Addr)}{ix:List Nat}{ra:Rep α}{rb:Rep β}{p:α->Bool}{f:α->β}
def IV (X:Cx)(tg iter:Expr)(Γ:Ga){α:Type}(r:Rep α)(xs:List α)(Γ1:Ga):Prop:=
 ∃wi,PI X tg iter wi/\∀(σ:St) (H0 R0 H R:Hp),av X.K σ H0 R0 H R Γ->∀Rq:It->Hp->Prop,(∀J H1 R1,av X.K σ H0 R0 H1 R1 Γ1->aw R R1->xs.length<=sizeLine->Src X.K J R1 r xs->Rq J H1)->wi σ H Rq
theorem dE {r:Rep α}(h:EV X iter Γ (ak r) xs Γ1):IV X tg iter Γ r xs Γ1:=by
 refine ⟨_,vx aN,λσ H0 R0 H R E Rq q=>h σ H0 R0 H R E _ λv H1 R1 E1 s1 e1=>?_⟩
 obtain ⟨a,vs,rfl,ha,pp,z⟩:=e1
 refine ⟨a,rfl,⟨vs,bz.of (E1.sub _ _ ha)⟩,q _ H1 R1 E1 s1 z λH' R' sR sH i=>⟨λx hx=>?_,λhi=>?_⟩⟩
 ·have hq:bz X.K H' a vs:=bz.of (sH _ _ (sR _ _ ha))
  obtain ⟨v,hv,hr⟩:=cT pp hx
  refine ⟨⟨vs,v,hq,hv⟩,λv' H2 hy=>?_⟩
  obtain ⟨rfl,hy⟩:=hy
  have:=hy vs hq
  rw [hv] at this
  cases this
  exact ⟨R',Ext.refl sH,r.mono sR hr⟩
 ·exact ⟨vs,bz.of (sH _ _ (sR _ _ ha)),by rw [pp.length];exact hi⟩
def ups (lo:Int)(n:Nat):List Int:=(List.range n).map λ(k:Nat)=>lo + (k:Int)
theorem dh (lo:Int)(n:Nat):(ups lo n).length=n:=by unfold ups;rw [List.length_map,List.length_range]
theorem pW {lo:Int}{n i:Nat}{x:Int}(h:(ups lo n)[i]?=some x):i < n/\x=lo + (i:Int):=by
 have hi:i < n:=by have:=(List.getElem?_eq_some_iff.mp h).1;rwa [dh] at this
 refine ⟨hi,?_⟩
 unfold ups at h
 rw [List.getElem?_map,List.getElem?_range hi] at h
 exact (Option.some.inj h).symm
theorem vO {K:PySem.W.Frag}{R1:Hp}(lo:Int)(n:Nat):Src K (tJ lo n) R1 ag (ups lo n):=λH' R' sR sH i=>⟨λx hx=>by
 obtain ⟨h1,rfl⟩:=pW hx
 refine ⟨h1,λv H2 hy=>?_⟩
 obtain ⟨rfl,rfl⟩:=hy
 exact ⟨R',Ext.refl sH,rfl⟩,λhi=>by rw [dh] at hi;exact hi⟩
theorem eV {a:Expr}{p1 p2:Pos}{n:Int}(hm:X.mg "range"=none)(ha:EV X a Γ ag n Γ1)(hn: -(2 ^ 62)<=n/\n<=1000000)(hs1:starEach [a] X.env=[(false,eval a X.env)]:=by rfl)(hg:Gl X "range":=by rfl):IV X tg (.Call (.Name "range" p1) [a] [] p2) Γ ag (ups 0 n.toNat) Γ1:=by
 refine ⟨_,qw hg hm (aH aN br hs1) hs1,λσ H0 R0 H R E Rq q=>ha σ H0 R0 H R E _ λv H1 R1 E1 s1 e1=>?_⟩
 exact ⟨n,by rw [show v=V.int n from e1],hn.1,by omega,q _ H1 R1 E1 s1 (by rw [dh];exact Nat.le_trans (show n.toNat<=1000000 by omega) (by decide)) (vO 0 n.toNat)⟩
theorem iu {body:List Stmt}{r:Rep α}(I:Nat->Ga->Prop)(hit:IV X tg iter Γ r xs Γ1)(hb:BG X tg r bf)(h0:I 0 Γ1)
 (hstep:∀(i:Nat) (x:α) (Γ:Ga),xs[i]?=some x->I i Γ->WS X body (bf x Γ) (I (i + 1)) T) (hend:∀Γ:Ga,I xs.length Γ->N Γ)
 (hc:X.calm=true:=by rfl) (hp:PassesOwn (model X.prog X.w) X.A X.env X.xe:=by exact PassesOwn.never) (hs:∀x,foldedSetIterable iter X.env x=pure x:=by intro _;rfl):W1 X (.For tg iter body [] pos) Γ N T:=λσ H0 R0 H R E D dn dr=>by
 obtain ⟨wi,hi,hit⟩:=hit
 refine sS (xi hp hc hi pgS eM hs) (hit σ H0 R0 H R E _ λJ H1 R1 E1 s1 hz src=>?_)
 refine ⟨λi m σ' H'=>m=xs.length - i/\i<=xs.length/\∃R' Γ',av X.K σ' H0 R0 H' R' Γ'/\aw R1 R'/\I i Γ',⟨_,rfl,Nat.zero_le _,R1,Γ1,E1,aw.refl _,h0⟩,?_⟩
 rintro i m σ' H' ⟨rfl,hle,R',Γ',E',s',hI⟩
 obtain ⟨sgo,sstop⟩:=src H' R' s' E'.sub i
 by_cases hlt:i < xs.length
 ·obtain ⟨go,yl⟩:=sgo _ (List.getElem?_eq_getElem hlt)
  refine .inr ⟨go,λσ' H'=>i + 1<=xs.length/\∃R' Γ',av X.K σ' H0 R0 H' R' Γ'/\aw R1 R'/\I (i + 1) Γ',λσ2 H2 h=>⟨xs.length - (i + 1),by omega,rfl,h.1,h.2⟩,λv H2 hy=>?_⟩
  obtain ⟨R2,x2,hr⟩:=yl v H2 hy
  refine hb σ' H0 R0 H2 R2 Γ' v _ (E'.grow x2) hr _ λσ2 E2=>?_
  exact hstep i _ Γ' (List.getElem?_eq_getElem hlt) hI σ2 H0 R0 H2 R2 E2 _ (λσ3 H3 R3 Γ3 E3 s3 h3=>⟨hlt,R3,Γ3,E3,s'.trans (x2.r.trans s3),h3⟩) dr
 ·have e:i=xs.length:=by omega
  subst e
  exact .inl ⟨sstop (Nat.le_refl _),dn σ' H' R' Γ' E' (s1.trans s') (hend Γ' hI)⟩
def og:Option Ent->Ent
 | some (.im r x)=>.im r x
 | _=>.no
def bQ (own:List Str)(ix:List Nat)(Γ:Ga):Ga:=List.replicate own.length .no++ix.map λi=>og Γ[i]?
theorem gR {K:PySem.W.Frag}{σ:St}{H0 R0 H R:Hp}(E:av K σ H0 R0 H R Γ)(own:List Str)(ix:List Nat):av K (dS own ix σ) H R H R (bQ own ix Γ):=by
 have noown:∀(i:Nat) (e:Ent) (o:Option V),(bQ own ix Γ)[i]?=some e->e.fp o=[]:=λi e o q=>by
  unfold bQ at q
  rcases List.mem_append.mp (List.mem_of_getElem? q) with z | z
  ·obtain ⟨_,rfl⟩:=List.mem_replicate.mp z;rfl
  ·obtain ⟨k,_,rfl⟩:=List.mem_map.mp z
   unfold og
   split<;>rfl
 refine ⟨Ext.refl E.sub,λi e q=>?_,λi e a q w=>absurd w (by rw [noown i e _ q];exact List.not_mem_nil),λi j e e' a q _ w=>absurd w (by rw [noown i e _ q];exact List.not_mem_nil),by unfold bQ dS;simp⟩
 unfold bQ at q
 unfold dS
 by_cases hi:i < own.length
 ·rw [List.getElem?_append_left (by simpa using hi),List.getElem?_replicate] at q
  rw [if_pos hi] at q
  cases q;trivial
 ·rw [List.getElem?_append_right (by simpa using hi),List.length_replicate,List.getElem?_map] at q
  rw [List.getElem?_append_right (by simpa using hi),List.length_replicate,List.getElem?_map]
  cases ek:ix[i - own.length]? with
  | none=>rw [ek] at q;cases q
  | some k=>
    rw [ek] at q
    have q':og Γ[k]?=e:=Option.some.inj q
    subst q'
    show (og Γ[k]?).ok K H R (σ[k]?).join
    cases eg:Γ[k]? with
    | none=>trivial
    | some e=>
      cases e with
      | im r x=>exact E.ent k _ eg
      | no=>trivial
      | mu r x=>trivial
      | di x=>trivial
      | ob x=>trivial
theorem kJ {own fr:List Str}{J:It}{σ:St}{H0 R0 H1 R1:Hp}{Q:VK}(E1:av X.K σ H0 R0 H1 R1 Γ1)(src:Src X.K J R1 ra xs)(hz:xs.length<=sizeLine)
 (hb:∀(C:Addr) (s:Shared) (H:Hp) (ex:List Addr),BG (aL X scope cl C (own++fr) s H ex) tg ra bf) (hw:∀x,Wk (bf x (bQ own ix Γ1)) (bQ own ix Γ1))
 (ht:∀(C:Addr) (s:Shared) (H:Hp) (ex:List Addr) x,x∈xs->TF (aL X scope cl C (own++fr) s H ex) ifs (bf x (bQ own ix Γ1)) (p x) (bf x (bQ own ix Γ1)))
 (he:∀(C:Addr) (s:Shared) (H:Hp) (ex:List Addr) x,x∈xs->p x=true->EV (aL X scope cl C (own++fr) s H ex) elt (bf x (bQ own ix Γ1)) rb (f x) (bf x (bQ own ix Γ1)))
 (q:∀a vs H' R',Ext H1 R1 H' R'->H' a=none->PySem.Paired (rb.R X.K R') vs ((xs.filter p).map f)->Q (.ref a) (upd H' a (.lst vs))):
 ∃W:Nat->Nat->List V->St->Hp->Prop,(∃m,W 0 m [] (dS own ix σ) H1)/\∀i m ys σ' H',W i m ys σ' H'->
  ys.length<=sizeLine/\((J.stop i H'/\∀p,H' p=none->Q (.ref p) (upd H' p (.lst ys)))∨
  (J.go i H'/\∀x H2,J.yld i H' x H2->(λv σ H Q=>∀C s Hh ex,gb (aL X scope cl C (own++fr) s Hh ex) tg v σ H Q:TG) x σ' H2 λσ2 H3=>(λσ H Q=>∀C s Hh ex,gD (aL X scope cl C (own++fr) s Hh ex) ifs σ H Q:TT) σ2 H3 λb H4=>
    if b=true then (λσ H Q=>∀C s Hh ex,cQ (aL X scope cl C (own++fr) s Hh ex) elt σ H Q:TE) σ2 H4 λv H5=>∃m',m' < m/\W (i + 1) m' (ys++[v]) σ2 H5 else∃m',m' < m/\W (i + 1) m' ys σ2 H4)):=by
 refine ⟨λi m ys σ' H'=>m=xs.length - i/\i<=xs.length/\∃R',av X.K σ' H1 R1 H' R' (bQ own ix Γ1)/\PySem.Paired (rb.R X.K R') ys (((xs.take i).filter p).map f),⟨_,rfl,Nat.zero_le _,R1,gR E1 own ix,.nil⟩,?_⟩
 rintro i m ys σ' H' ⟨rfl,hle,R',E',pp⟩
 have hys:ys.length<=sizeLine:=by
  rw [pp.length,List.length_map]
  refine Nat.le_trans (List.length_filter_le _ _) (Nat.le_trans ?_ hz)
  rw [List.length_take];omega
 obtain ⟨sgo,sstop⟩:=src H' R' E'.ext.r E'.sub i
 refine ⟨hys,?_⟩
 by_cases hlt:i < xs.length
 ·obtain ⟨go,yl⟩:=sgo _ (List.getElem?_eq_getElem hlt)
  have hmem:xs[i]∈xs:=List.getElem_mem hlt
  have tk:(xs.take (i + 1))=xs.take i++[xs[i]]:=by rw [List.take_succ,List.getElem?_eq_getElem hlt];rfl
  refine .inr ⟨go,λv H2 hy C s Hh ex=>?_⟩
  obtain ⟨R2,x2,hr⟩:=yl v H2 hy
  refine hb C s Hh ex σ' H1 R1 H2 R2 _ v _ (E'.grow x2) hr _ λσ2 E2=>?_
  intro C s Hh ex
  refine ht C s Hh ex _ hmem σ2 H1 R1 H2 R2 E2 _ λH4 R4 E4 s4=>?_
  cases hpx:p xs[i] with
  | false=>
    rw [if_neg Bool.false_ne_true]
    refine ⟨xs.length - (i + 1),by omega,rfl,hlt,R4,E4.weak (hw _),?_⟩
    rw [tk,List.filter_append,List.filter_cons,hpx,if_neg Bool.false_ne_true,List.filter_nil,List.append_nil]
    exact Paired.map (λ_ _=>rb.mono (x2.r.trans s4)) pp
  | true=>
    rw [if_pos rfl]
    intro C s Hh ex
    refine he C s Hh ex _ hmem hpx σ2 H1 R1 H4 R4 E4 _ λw H5 R5 E5 s5 e5=>?_
    refine ⟨xs.length - (i + 1),by omega,rfl,hlt,R5,E5.weak (hw _),?_⟩
    rw [tk,List.filter_append,List.filter_cons,hpx,if_pos rfl,List.filter_nil,List.map_append]
    exact bN (Paired.map (λ_ _=>rb.mono (x2.r.trans (s4.trans s5))) pp) (.cons e5 .nil)
 ·have e:i=xs.length:=by omega
  subst e
  rw [List.take_length] at pp
  exact .inl ⟨sstop (Nat.le_refl _),λa ha=>q a ys H' R' E'.ext ha pp⟩
theorem eF {own fr:List Str}
 (S:cz X scope cl own fr ix) (hit:IV X tg iter Γ ra xs Γ1)
 (hb:∀(C:Addr) (s:Shared) (H:Hp) (ex:List Addr),BG (aL X scope cl C (own++fr) s H ex) tg ra bf) (hw:∀x,Wk (bf x (bQ own ix Γ1)) (bQ own ix Γ1))
 (ht:∀(C:Addr) (s:Shared) (H:Hp) (ex:List Addr) x,x∈xs->TF (aL X scope cl C (own++fr) s H ex) ifs (bf x (bQ own ix Γ1)) (p x) (bf x (bQ own ix Γ1)))
 (he:∀(C:Addr) (s:Shared) (H:Hp) (ex:List Addr) x,x∈xs->p x=true->EV (aL X scope cl C (own++fr) s H ex) elt (bf x (bQ own ix Γ1)) rb (f x) (bf x (bQ own ix Γ1)))
 (hc:X.calm=true:=by rfl) (hs:∀x,foldedSetIterable iter X.env x=pure x:=by intro _;rfl):bb X (.ListComp elt [⟨tg,iter,ifs,0⟩] scope pos) Γ rb ((xs.filter p).map f) Γ1:=by
 intro σ H0 R0 H R E Q q
 obtain ⟨wi,hi,hit⟩:=hit
 refine eS (kG (g:=λv σ H Q=>∀C s Hh ex,gb (aL X scope cl C (own++fr) s Hh ex) tg v σ H Q) (tc:=λσ H Q=>∀C s Hh ex,gD (aL X scope cl C (own++fr) s Hh ex) ifs σ H Q) (te:=λσ H Q=>∀C s Hh ex,cQ (aL X scope cl C (own++fr) s Hh ex) elt σ H Q) hc S hi
  (λC s H ex=>⟨λpins s1 σ H v u Q I r h=>h C s _ ex pins s1 u I r,λpins s1 σ H Q I h=>h C s _ ex pins s1 I,λpins s1 σ H Q I h=>h C s _ ex pins s1 I⟩) hs) ?_
 refine hit σ H0 R0 H R E _ λJ H1 R1 E1 s1 hz src=>kJ E1 src hz hb hw ht he λa vs H' R' xx ha pp=>?_
 have E2:=E1.grow xx
 exact q a vs _ R' (E2.grow (Ext.cS E2.sub ha _)) (s1.trans xx.r) aF (E2.sub.free ha) (E2.ext.h.free ha) (E2.off ha) pp (by
  rw [List.length_map];exact Nat.le_trans (List.length_filter_le _ _) hz)
theorem mO (i:Nat){y:Str}{py spos:Pos}{own fr:List Str}
 (S:cz X scope cl own fr ix) (hit:IV X tg iter Γ ra xs Γ1)
 (hb:∀(C:Addr) (s:Shared) (H:Hp) (ex:List Addr),BG (aL X scope cl C (own++fr) s H ex) tg ra bf) (hw:∀x,Wk (bf x (bQ own ix Γ1)) (bQ own ix Γ1))
 (ht:∀(C:Addr) (s:Shared) (H:Hp) (ex:List Addr) x,x∈xs->TF (aL X scope cl C (own++fr) s H ex) ifs (bf x (bQ own ix Γ1)) (p x) (bf x (bQ own ix Γ1)))
 (he:∀(C:Addr) (s:Shared) (H:Hp) (ex:List Addr) x,x∈xs->p x=true->EV (aL X scope cl C (own++fr) s H ex) elt (bf x (bQ own ix Γ1)) rb (f x) (bf x (bQ own ix Γ1)))
 (h:N (Γ1.set i (.mu rb ((xs.filter p).map f))))
 (hsw:swapsWith (.ListComp elt [⟨tg,iter,ifs,0⟩] scope pos) (some (.Name y py)) spos.line X.env=pure true:=by rfl)
 (hN:X.N.Nodup:=by first | assumption | decide) (hi':X.N[i]?=some y:=by rfl) (hx:Loc X.env.scope y:=by first | exact Or.inl rfl | exact Or.inr rfl)
 (hc:X.calm=true:=by rfl) (hs:∀x,foldedSetIterable iter X.env x=pure x:=by intro _;rfl) (hf:X.fn y=true∨X.env.scope.names.lookup y=some .local:=by first | exact .inl rfl | exact .inr rfl):
 W1 X (.Assign [.Name y py] (.ListComp elt [⟨tg,iter,ifs,0⟩] scope pos) spos) Γ N T:=λσ H0 R0 H R E D dn dr=>by
 obtain ⟨wi,hi,hit⟩:=hit
 refine sS (jG (i:=i) (g:=λv σ H Q=>∀C s Hh ex,gb (aL X scope cl C (own++fr) s Hh ex) tg v σ H Q) (tc:=λσ H Q=>∀C s Hh ex,gD (aL X scope cl C (own++fr) s Hh ex) ifs σ H Q) (te:=λσ H Q=>∀C s Hh ex,cQ (aL X scope cl C (own++fr) s Hh ex) elt σ H Q) hsw hN hi' hx hc S hi
  (λC s H ex=>⟨λpins s1 σ H v u Q I r h=>h C s _ ex pins s1 u I r,λpins s1 σ H Q I h=>h C s _ ex pins s1 I,λpins s1 σ H Q I h=>h C s _ ex pins s1 I⟩) hs hf) ?_
 refine hit σ H0 R0 H R E _ λJ H1 R1 E1 s1 hz src=>kJ (Q:=λv H'=>D.nx (σ.set i (some v)) H') E1 src hz hb hw ht he λa vs H' R' xx ha pp=>?_
 have E2:=E1.grow xx
 exact dn _ _ R' _ ((E2.grow (Ext.cS E2.sub ha _)).sO (u:=.lst vs) (en:=.mu rb ((xs.filter p).map f)) i ⟨a,vs,rfl,aF,E2.sub.free ha,pp⟩ (E2.ext.h.free ha) λj e _ q w=>E2.off ha j e q w) (s1.trans xx.r) h
end
section
variable {X:Cx}{Γ Γ1 Γ2 Γ3:Ga}{α β γ δ:Type}{N:Ga->Prop}{T:RT}
variable {pins:List (Addr×Obj)}{σ:St}{H:Hp}{s:Shared}{K:PySem.W.Frag}{es:List Expr}{tp p pos:Pos}{xs:List α}{r:Rep α}
theorem iH {h':Heap}{t':Nat}{fp:List Addr}(I:Inv X pins σ H s)(k:∀b o,b∉fp->s.heap.get? b=some o->h'.get? b=some o)(hf:∀b∈fp,f9 X pins H b):Inv X pins σ H {s with heap:=h',toks:=t'}:=by
 have nit:∀b u,H b=some u->b∉fp:=λb u e z=>by rw [(hf b z).1] at e;cases e
 refine I.step (g':=s.gens) (d':=s.drawn) (ch:=fp) (λb hb=>⟨(hf b hb).2.2.2.1,(hf b hb).2.1,(hf b hb).2.2.2.2.1,(hf b hb).2.2.2.2.2⟩) (λb o _ _ hc e _=>k b o hc e) (λb o _ _ hc e _=>⟨o.slots,k b o hc e⟩) (λ_ _ _ _ n=>n)
  (λb o hc e=>⟨o,k b o hc e⟩) (λ_ _ e=>e) (λ_ _ _ e=>e) (λb ps e=>⟨#[],by rw [e];simp⟩) (λm hm=>?_) (λb u e=>?_) I.bare
 ·obtain ⟨o,es,ep,ho,r⟩:=hm
  exact ⟨o,es,ep,k _ o (λz=>(hf _ z).2.1 rfl) ho,r⟩
 ·refine (I.hok b u e).fJ (λc v hc q=>k c v ?_ q) (λ_ q=>q) λ_ _ q=>q
  rcases hc with z | z
  ·rw [z];exact nit b u e
  ·exact nit c _ z
theorem adopt {a:Addr}{o:HO}(I:Inv X pins σ H s)(hf:f9 X pins H a)(hy:X.s₀.heap.objs.size<=a)(new:bG X.prog X.w (upd H a o) s.heap a o):Inv X pins σ (upd H a o) s:=by
 have ne:∀{b:Addr} {u:HO},H b=some u->b≠a:=λe=>cg e hf.1
 have ne0:∀{b:Addr} {u:Obj},X.s₀.heap.get? b=some u->b≠a:=λe z=>absurd (Nat.lt_of_lt_of_le (Heap.lt_size e) hy) (by rw [z];exact Nat.lt_irrefl _)
 refine ⟨I.ok,I.os,I.bare,⟨I.base.keep,I.base.slot,λb u e n hx=>by rw [aE (ne0 e)];exact I.base.free b u e n hx,I.base.there,λb xs e=>?_,λb u v e=>?_,λb ps e=>?_⟩,I.loc,I.cell,?_,λx c e=>?_,λp hp=>?_,λb u e=>?_,I.len⟩
 ·have q:=I.base.tups b xs e;rw [aE (ne q)];exact q
 ·have q:=I.base.frzs b u v e;rw [aE (ne q)];exact q
 ·obtain ⟨m,q⟩:=I.base.tbls b ps e;exact ⟨m,by rw [aE (ne q)];exact q⟩
 ·rw [aE (Ne.symm hf.2.1)];exact I.free
 ·rw [aE (hf.2.2.2.2.1 x c e)];exact I.freeC x c e
 ·obtain ⟨e,n,r⟩:=I.pin p hp
  exact ⟨e,by rw [aE (hf.2.2.2.2.2 p hp)];exact n,r⟩
 ·by_cases hb:b=a
  ·subst hb;rw [aF] at e;cases e;exact new
  ·rw [aE hb] at e
   exact (I.hok b u e).fJ (λc v _ q=>q) (λc q=>by rw [aE (ne q)];exact q) λc xs q=>by rw [aE (ne q)];exact q
def AK (K:PySem.W.Frag)(a:Addr):It:=
 ⟨λi H=>∃xs x,bz K H a xs/\xs[i]?=some x,λi H v H'=>∃p x,H p=none/\v= .ref p/\H'=upd H p (.tup [.int i,x])/\∀xs,bz K H a xs->xs[i]?=some x,λi H=>∃xs,bz K H a xs/\xs.length<=i⟩
theorem rp {P:Program}{w:World}{k:Nat}(a e it:Addr)(hei:e≠it):Turn P w K (.Tuple es k tp) (AK K a) [e,it] e (λi h=>(∃old,IsEnum h e it i old)/\h.IsListIter it a i) where
 mem:=by simp
 obj:=λi h st b hb=>by
  obtain ⟨⟨old,he⟩,o,ho,hc,hd⟩:=st
  rcases List.mem_cons.mp hb with rfl | hb
  ·exact ⟨_,he,λv z=>by cases z⟩
  ·have e2:b=it:=by simpa using hb
   subst e2
   exact ⟨o,ho,λv z=>by rw [hd] at z;cases z⟩
 keep:=λi h h' st kk=>⟨st.1.elim λold he=>⟨old,kk e (by simp) _ he⟩,st.2.at λo x=>kk it (by simp) o x⟩
 item:=by
  intro X hP hw hK hc i pins s σ H E I hf st hg
  subst hP hw hK
  obtain ⟨⟨old,he⟩,hit⟩:=st
  obtain ⟨xs,x,hq,hx⟩:=hg
  obtain ⟨its,r,pl,hz⟩:=I.list hq
  obtain ⟨u,hu,rx⟩:=r.get hx
  have hn:H s.heap.objs.size=none:=I.hok.fresh (Nat.le_refl _)
  refine wpAny_pyNext_enum_item he hit pl.isList (x:=u) (by simpa using hu) hei λh' ho hit' hT hsz hk=>?_
  refine ⟨_,rfl,?_⟩
  refine wpAny_letOwnedTupleGo_enum (s:={s with heap:=h',toks:=s.toks + 1}) ho λh2 he2 hs2=>?_
  have hk2:∀b o,b∉[e,it]->s.heap.get? b=some o->h2.get? b=some o:=λb o hb q=>by
   have hbe:b≠e:=λz=>hb (by simp [z])
   exact hs2.extBut b o hbe (hk b o hbe (λz=>hb (by simp [z])) q)
  have I1:Inv X pins σ H {s with heap:=h2,toks:=s.toks + 1}:=iH I hk2 hf
  have hel:e≠s.heap.objs.size:=Nat.ne_of_lt (Heap.lt_size he)
  have hT2:h2.get? s.heap.objs.size=some {cls:=.type "tuple",data:=.seq #[.int i s.toks,u]}:=(hs2.2 _ (Ne.symm hel)).trans hT
  have I2:Inv X pins σ (upd H s.heap.objs.size (.tup [.int i,x])) {s with heap:=h2,toks:=s.toks + 1}:=
   adopt I1 (I.ib (Nat.le_refl _) hn) (I.sz) ⟨by show 2<=sizeLine;decide,[.int i s.toks,u],.cons ⟨_,rfl⟩ (.cons rx .nil),⟨_,hT2,rfl,_,rfl⟩⟩
  refine ⟨.ref s.heap.objs.size,_,I2,rfl,⟨s.heap.objs.size,x,hn,rfl,rfl,λys hy=>?_⟩,⟨⟨u,by simpa using he2⟩,hit'.at λo y=>(hs2.2 it (Ne.symm hei)).trans y⟩,λb hb=>?_⟩
  ·rw [I.mG hy hq];exact hx
  ·have hlt:b < s.heap.objs.size:=by
    rcases List.mem_cons.mp hb with rfl | hb
    ·exact Heap.lt_size he
    ·have e2:b=it:=by simpa using hb
     subst e2
     obtain ⟨o,ho,_⟩:=hit
     exact Heap.lt_size ho
   rw [aE (Nat.ne_of_lt hlt)]
   exact (hf b hb).1
 done:=by
  intro X hP hw hK hc i pins s σ H E I hf st hg
  subst hP hw hK
  obtain ⟨⟨old,he⟩,hit⟩:=st
  obtain ⟨xs,hq,hx⟩:=hg
  obtain ⟨its,r,pl,hz⟩:=I.list hq
  refine wpAny_pyNext_enum_end (I.ok.hd hc) he hit pl.isList (by have:=r.length;simp;omega) λh' hk=>⟨rfl,?_⟩
  exact iH (t':=s.toks) I (λb o hb q=>hk b o (λz=>hb (by simp [z])) q) hf
 self:=λ_ _ _ _ _ st h=>st.1.elim λold he=>wpAny_pyIter_enum he h
def zQ (K:PySem.W.Frag)(ta:TA):TI:=λσ H R=>ta σ H λvs H1=>∃a xs,vs=[.ref a]/\bz K H1 a xs/\R (AK K a) H1
theorem vL {a:Expr}{ta:TA}{k:Nat}(hg:Gl X "enumerate")(hm:X.mg "enumerate"=none)(ha:PA X [a] ta)(hs:starEach [a] X.env=[(false,eval a X.env)]:=by rfl):PI X (.Tuple es k tp) (.Call (.Name "enumerate" p) [a] [] pos) (zQ X.K ta):=by
 intro pins s σ H R I h
 refine Call_ (gi I hg hm boot_enumerate (PyProof.Rows.callWith_type1 (aT (ha pos pins s σ H _ I h) λus s1 ⟨vs,H1,I1,r1,q1⟩=>?_) hs rfl))
 obtain ⟨l,xs,e,hq,q⟩:=q1
 subst e
 cases r1 with
 | cons r rr=>
   cases rr
   cases r
   obtain ⟨its,r',pl,hz⟩:=I1.list hq
   refine call_enumerate_list pl.isList λh' he hit hsz hk=>?_
   refine wpAny_pyIter_enum he ?_
   have I2:Inv X pins σ H1 {s1 with heap:=h'}:=I1.kept (t':=s1.toks) hk
   have f0:H1 s1.heap.objs.size=none:=I1.hok.fresh (Nat.le_refl _)
   have f1:H1 (s1.heap.objs.size + 1)=none:=I1.hok.fresh (Nat.le_succ _)
   refine ⟨s1.heap.objs.size + 1,[s1.heap.objs.size + 1,s1.heap.objs.size],_,_,H1,rfl,I2,rp l (s1.heap.objs.size + 1) s1.heap.objs.size (Nat.ne_of_gt (Nat.lt_succ_self _)),⟨⟨.none,he⟩,hit⟩,λb hb=>?_,q⟩
   rcases List.mem_cons.mp hb with rfl | hb
   ·exact I1.ib (Nat.le_succ _) f1
   ·have e2:b=s1.heap.objs.size:=by simpa using hb
    subst e2
    exact I1.ib (Nat.le_refl _) f0
def nums (xs:List α):List (Int×α):=(xs.zipIdx).map λp=>((p.2:Int),p.1)
theorem iW (xs:List α):(nums xs).length=xs.length:=by unfold nums;rw [List.length_map,List.length_zipIdx]
theorem m5 {i:Nat}{y:Int×α}(h:(nums xs)[i]?=some y):y.1=(i:Int)/\xs[i]?=some y.2:=by
 unfold nums at h
 rw [List.getElem?_map,List.getElem?_zipIdx] at h
 cases e:xs[i]? with
 | none=>rw [e] at h;cases h
 | some x=>rw [e] at h;cases h;exact ⟨by simp,rfl⟩
theorem uT {a:Expr}{k:Nat}(hm:X.mg "enumerate"=none)(ha:EV X a Γ (ak r) xs Γ1)(hs:starEach [a] X.env=[(false,eval a X.env)]:=by rfl)(hg:Gl X "enumerate":=by rfl):
 IV X (.Tuple es k tp) (.Call (.Name "enumerate" p) [a] [] pos) Γ (gK ag r) (nums xs) Γ1:=by
 refine ⟨_,vL hg hm (aH aN br hs) hs,λσ H0 R0 H R E Rq q=>ha σ H0 R0 H R E _ λv H1 R1 E1 s1 e1=>?_⟩
 obtain ⟨a,vs,rfl,hp,pp,z⟩:=e1
 refine ⟨a,vs,rfl,bz.of (E1.sub _ _ hp),q _ H1 R1 E1 s1 (by rw [iW];exact z) λH' R' sR sH i=>⟨λy hy=>?_,λhi=>?_⟩⟩
 ·have hq:bz X.K H' a vs:=bz.of (sH _ _ (sR _ _ hp))
  obtain ⟨e1,e2⟩:=m5 hy
  obtain ⟨v,hv,hr⟩:=cT pp e2
  refine ⟨⟨vs,v,hq,hv⟩,λv' H2 hyl=>?_⟩
  obtain ⟨p,x,hpn,rfl,rfl,hy⟩:=hyl
  have:=hy vs hq
  rw [hv] at this
  cases this
  have s2:aw R' (upd R' p (.tup [.int i,v])):=aw.fresh (sH.free hpn) _
  exact ⟨upd R' p (.tup [.int i,v]),Ext.fresh sH hpn _,p,_,_,rfl,aF,by rw [e1];rfl,r.mono s2 (r.mono sR hr)⟩
 ·exact ⟨vs,bz.of (sH _ _ (sR _ _ hp)),by rw [pp.length,← iW xs];exact hi⟩
theorem mT:dg X (.builtin "isinstance") (λxs H Q=>∃x c t b,xs=[x,.ty c]/\dk X.K H x t/\PySem.W.kitOne X.K t (.type c)=some b/\Q (.bl b) H):=by
 intro pins s σ H xs us Q I r h
 obtain ⟨x,c,t,b,rfl,ty,e,q⟩:=h
 obtain ⟨u,u2,rfl,r1,r2⟩:=vals2 r
 cases (show u2=Value.type c from r2)
 exact rg I r1 ty e λtk=>⟨.bl b,H,I.tok tk,rfl,q⟩
theorem bV {e:Expr}{y:Str}{p2:Pos}{x:α}{c:String}{t:Value}{b:Bool}(hm:X.mg "isinstance"=none)(hmy:X.mg y=none)(hvy:bootBuiltins y=some (.type c))(he:EV X e Γ r x Γ1)
 (ty:∀(R H:Hp) v,aw R H->r.R X.K R v x->dk X.K H v t) (ht:∀K:PySem.W.Frag,PySem.W.kitOne K t (.type c)=some b:=by intro;rfl)
 (hs:starEach [e,.Name y p2] X.env=(false,eval e X.env)::starEach [.Name y p2] X.env:=by rfl) (hg:Gl X "isinstance":=by rfl) (hgy:Gl X y:=by rfl) (hny:y≠"__name__":=by decide) (hdy:(y==("__debug__":Str))=false:=by decide):EV X (.Call (.Name "isinstance" p) [e,.Name y p2] [] pos) Γ bU b Γ1:=by
 intro σ H0 R0 H R E Q q
 refine eS (cG mT hg hm PyProof.Rows.boot_isinstance (aH aN (aH (nK (v:=.ty c) hgy hmy hvy rfl hny hdy) br rfl) hs) (by decide) (by decide) hs rfl) (he σ H0 R0 H R E _ λv H1 R1 E1 s1 e1=>?_)
 exact ⟨v,c,t,b,rfl,ty R1 H1 v E1.sub e1,ht _,q _ H1 R1 E1 s1 rfl⟩
theorem ty_int {x:Int}(R H:Hp)(v:V)(_:aw R H)(h:ag.R K R v x):dk K H v (.type "int"):=by cases h;exact .int _
theorem ty_list (R H:Hp)(v:V)(s:aw R H)(h:(ak r).R K R v xs):dk K H v (.type "list"):=by obtain ⟨a,vs,rfl,e,_⟩:=h;exact .lst (s _ _ e)
theorem in1_units (A:Around):A.in1.units=A.units + 1:=rfl
theorem pV {X:Cx}{R:Hp}{A:Around}(I:Inv X pins σ H s)(sub:aw R H){a b:Addr}{vs ws:List V}{k:Nat->Bool}(ha:R a=some (.tup vs))(hb:R b=some (.tup ws))(hl:vs.length=ws.length)(hu:A.units < cLine)
 (he:∀(us us':List Value),Vals vs us->Vals ws us'->∀(j:Nat) (h1:j < us.toArray.size) (h2:j < us'.toArray.size),SeqAt.EqAt A.in1 s us.toArray[j] us'.toArray[j] (k j)):
 SeqAt.RcAt A s (.ref a) (.ref b) ((List.range vs.length).all k)/\SeqAt.RcNeAt A s (.ref a) (.ref b) (!(List.range vs.length).all k):=by
 obtain ⟨us,hv,pl,_⟩:=I.tuple (bL.of (sub _ _ ha))
 obtain ⟨us',hw,pl',_⟩:=I.tuple (bL.of (sub _ _ hb))
 have lx:us.toArray.size=vs.length:=by rw [List.size_toArray,← hv.length]
 have ly:us'.toArray.size=vs.length:=by rw [List.size_toArray,← hw.length,hl]
 have r1:=SeqAt.RcAt.tuples (A:=A) pl pl' hu (he us us' hv hw)
 have r2:=SeqAt.RcNeAt.tuples (A:=A) pl pl' hu (he us us' hv hw)
 rw [lx,ly,Nat.min_self] at r1 r2
 simp only [beq_self_eq_true,Bool.and_true] at r1 r2
 exact ⟨r1,r2⟩
end
def kr (scope:Scope)(env:Env):List (Str×Addr):=(scope.names.filterMap λp=>if p.2== .free then (env.cells.lookup p.1).map (λc=>(p.1,c)) else none).reverse
theorem jE {env:Env}:∀(names:List (Str×NameKind)) (acc:List (Str×Addr)),(∀y∈names,y.2= .free->∃c,env.cells.lookup y.1=some c)->
 (forIn names acc λ(x:Str×NameKind) (r:List (Str×Addr))=>if (x.2==NameKind.free)=true then do let a ← cellOf env x.1;pure (ForInStep.yield ((x.1,a)::r)) else pure (ForInStep.yield r):Sem (List (Str×Addr)))
  =pure ((names.filterMap λp=>if p.2== .free then (env.cells.lookup p.1).map (λc=>(p.1,c)) else none).reverse++acc)
 | [],acc,_=>rfl
 | (n,k)::r,acc,h=>by
   have ih:=jE (env:=env) r
   rw [List.forIn_cons,List.filterMap_cons]
   cases hk:(k==NameKind.free) with
   | false=>
     simp only [hk,Bool.false_eq_true,if_false]
     rw [pure_bind]
     exact ih acc λy hy=>h y (List.mem_cons_of_mem _ hy)
   | true=>
     obtain ⟨c,hc⟩:=h (n,k) List.mem_cons_self (eq_of_beq hk)
     have hcell:cellOf env n=pure c:=by unfold cellOf;rw [hc]
     simp only [hk,if_true,hc,Option.map_some,hcell]
     rw [pure_bind,pure_bind]
     show forIn r ((n,c)::acc) _=_
     rw [ih ((n,c)::acc) λy hy=>h y (List.mem_cons_of_mem _ hy)]
     simp
theorem oO {X:Cx}{scope:Scope}{own fr:List Str}{ix:List Nat}(hk:scope.kind= .function)(hn:∀y∈scope.names,y.2≠ .cell)(hl:∀y∈scope.names,y.2= .local->scope.names.lookup y.1=some .local)
 (hc:∀x,X.env.scope.names.lookup x=some .cell->∃c,X.env.cells.lookup x=some c) (hf:∀y∈scope.names,y.2= .free->X.env.scope.names.lookup y.1=some .cell)
 (hfr:∀x∈fr,scope.names.lookup x=some .free) (hlen:fr.length=ix.length) (hat:∀(k i:Nat) (x:Str),ix[k]?=some i->fr[k]?=some x->X.N[i]?=some x):cz X scope (kr scope X.env) own fr ix:=by
 have free:∀y∈scope.names,y.2= .free->∃c,X.env.cells.lookup y.1=some c:=λy hy e=>hc _ (hf y hy e)
 refine ⟨?_,λx c e=>?_,hk,hn,hl,λx e=>?_,hfr,hlen,λk i x e1 e2=>⟨hat k i x e1 e2,hf (x,.free) (PySem.mem_of_lookup (hfr x (List.mem_of_getElem? e2))) rfl⟩⟩
 ·have:=jE (env:=X.env) scope.names [] free
  rw [List.append_nil] at this
  have e:closureFor scope X.env=((forIn scope.names [] λ(x:Str×NameKind) (r:List (Str×Addr))=>if (x.2==NameKind.free)=true then do let a ← cellOf X.env x.1;pure (ForInStep.yield ((x.1,a)::r)) else pure (ForInStep.yield r):Sem (List (Str×Addr))) >>=λcs=>pure cs):=rfl
  rw [e,this,pure_bind]
  rfl
 ·have m:=PySem.mem_of_lookup e
  unfold kr at m
  obtain ⟨p,_,hp⟩:=List.mem_filterMap.mp (List.mem_reverse.mp m)
  split at hp
  ·cases q:X.env.cells.lookup p.1 with
   | none=>rw [q] at hp;cases hp
   | some c'=>rw [q] at hp;cases hp;exact q
  ·cases hp
 ·have m:=PySem.mem_of_lookup e
  obtain ⟨c,hcc⟩:=free _ m rfl
  have m2:(x,c)∈kr scope X.env:=by
   unfold kr
   refine List.mem_reverse.mpr (List.mem_filterMap.mpr ⟨(x,.free),m,?_⟩)
   simp [hcc]
  cases q:(kr scope X.env).lookup x with
  | some c'=>exact ⟨c',rfl⟩
  | none=>
    rw [List.lookup_eq_none_iff] at q
    exact absurd (q _ m2) (by simp)
def qt (scope so:Scope)(N0 fr:List Str)(ix:List Nat):Bool:=
 decide (scope.kind= .function)&&scope.names.all (λy=>decide (y.2≠ .cell)&&(decide (y.2≠ .local) ||decide (scope.names.lookup y.1=some .local))&&(decide (y.2≠ .free) ||decide (so.names.lookup y.1=some .cell)))
  &&fr.all (λx=>decide (scope.names.lookup x=some .free))&&decide (fr.length=ix.length)&&(List.range ix.length).all λk=>match ix[k]?,fr[k]? with | some i,some x=>decide (N0[i]?=some x) | _,_=>true
theorem cR {X:Cx}{scope so:Scope}{N0 own fr:List Str}{ix:List Nat}(hso:X.env.scope=so)(hN0:X.N=N0)(hc:∀x,X.env.scope.names.lookup x=some .cell->∃c,X.env.cells.lookup x=some c)(h:qt scope so N0 fr ix=true):cz X scope (kr scope X.env) own fr ix:=by
 unfold qt at h
 simp only [Bool.and_eq_true,Bool.or_eq_true,decide_eq_true_eq,List.all_eq_true] at h
 obtain ⟨⟨⟨⟨h1,h2⟩,h3⟩,h4⟩,h5⟩:=h
 refine oO h1 (λy hy=>(h2 y hy).1.1) (λy hy e=>(h2 y hy).1.2.resolve_left λz=>z e) hc (λy hy e=>by rw [hso];exact (h2 y hy).2.resolve_left λz=>z e) h3 h4 λk i x e1 e2=>?_
 have hk:k < ix.length:=(List.getElem?_eq_some_iff.mp e1).1
 have:=h5 k (List.mem_range.mpr hk)
 rw [e1,e2] at this
 rw [hN0]
 simpa using this
section
variable {X:Cx}{Γ Γ1 Γ2 Γ3:Ga}{α β γ δ:Type}{N:Ga->Prop}{T:RT}
end
section
variable {X:Cx}{Γ Γ1 Γ2 Γ3:Ga}{α β γ δ:Type}{N:Ga->Prop}{T:RT}
theorem vC:cP X (binaryOp .Mult) (rI IntMulOk λi j=>.int (i * j)):=nv λ_ _ _ _ _ _ _ hc q=>mul_int q hc
theorem kC {a b:Expr}{pos:Pos}{x y:Int}(ha:EV X a Γ ag x Γ1)(hb:EV X b Γ1 ag y Γ2)(h:IntMulOk x y):EV X (.BinOp a .Mult b pos) Γ ag (x * y) Γ2:=fU vC ha hb λR v u H Q e1 e2 q=>⟨x,y,e1,e2,h,q _ rfl⟩
theorem av.ua {K:PySem.W.Frag}{σ:St}{H0 R0 H R:Hp}(E:av K σ H0 R0 H R Γ){i:Nat}{e0 en:Ent}(hi:Γ[i]?=some e0)(ho:en.ok K H R (σ[i]?).join)(hsub:∀b∈en.fp (σ[i]?).join,H0 b=none/\∀(j:Nat) (e:Ent),j≠i->Γ[j]?=some e->b∉e.fp (σ[j]?).join):av K σ H0 R0 H R (Γ.set i en):=by
 refine ⟨E.ext,λj e q=>?_,λj e b q w=>?_,λj k e e' b q q' w w'=>?_,by rw [List.length_set];exact E.len⟩
 ·rcases set_at q with ⟨rfl,rfl,_⟩ | ⟨hj,q1⟩
  ·exact ho
  ·exact E.ent j e q1
 ·rcases set_at q with ⟨rfl,rfl,_⟩ | ⟨hj,q1⟩
  ·exact (hsub b w).1
  ·exact E.nw j e b q1 w
 ·rcases set_at q with ⟨rfl,rfl,_⟩ | ⟨hj,q1⟩
  ·rcases set_at q' with ⟨rfl,rfl,_⟩ | ⟨hk,q1'⟩
   ·rfl
   ·exact absurd w' ((hsub b w).2 k e' hk q1')
  ·rcases set_at q' with ⟨rfl,rfl,_⟩ | ⟨hk,q1'⟩
   ·exact absurd w ((hsub b w').2 j e hj q1)
   ·exact E.ds _ _ _ _ b q1 q1' w w'
variable {P:Program}{w:World}{K:PySem.W.Frag}{mg:Str->Option Value}{base:Heap}
end
section
variable {X:Cx}{Γ Γ1 Γ2 Γ3:Ga}{α β γ δ:Type}{N:Ga->Prop}{T:RT}
def fj:Ent->Ent
 | .im r x=>.im r x
 | _=>.no
theorem av.frz {K:PySem.W.Frag}{σ:St}{H0 R0 H R:Hp}(E:av K σ H0 R0 H R Γ):av K σ H H H H (Γ.map fj):=by
 have noown:∀(i:Nat) (e:Ent) (o:Option V),(Γ.map fj)[i]?=some e->e.fp o=[]:=λi e o q=>by
  rw [List.getElem?_map] at q
  cases h:Γ[i]? with
  | none=>rw [h] at q;cases q
  | some e'=>rw [h] at q;cases q;cases e'<;>rfl
 refine ⟨Ext.refl (aw.refl _),λi e q=>?_,λi e a q w=>absurd w (by rw [noown i e _ q];exact List.not_mem_nil),λi j e e' a q _ w=>absurd w (by rw [noown i e _ q];exact List.not_mem_nil),by rw [List.length_map];exact E.len⟩
 rw [List.getElem?_map] at q
 cases h:Γ[i]? with
 | none=>rw [h] at q;cases q
 | some e'=>
   rw [h] at q;cases q
   have:=E.ent i e' h
   cases e' with
   | im r x=>obtain ⟨v,e,hr⟩:=this;exact ⟨v,e,r.mono E.sub hr⟩
   | no=>trivial
   | mu r x=>trivial
   | di x=>trivial
   | ob x=>trivial
end
variable {P:Program}{w:World}{K:PySem.W.Frag}{mg:Str->Option Value}{base:Heap}
theorem xU {S:cI}{x qual:Str}{st:Stmt}{f:Addr}{fd:FuncData}{N ps:List Str}{k:Nat}(F:bX K x qual st f fd)(Sc:aU N ps (aq st))(len:∀qs T,S K qs T->qs.length=ps.length)
 (hbody:∀(cdv:Value) (A:Around) (outer:List Env) (s:Shared) (H:Hp) (E:XK) (qs:List Pk) (T:RT),bj k (A.deeper (envOfC qual (aq st) s.heap.objs.size f cdv))->S K qs T->
  WS (cf dJ P w K mg base N qual (aq st) f cdv A outer s H E).cH (bT st) (dM qs N.length) (λ_=>False) T):cJ P w K mg base dJ (k + 1) f fd ps (bg S K):=by
 refine F.ok Sc (λvs H Q E h=>?_) (λcdv A outer s H vs Q E hr h=>?_)
 ·obtain ⟨R,qs,T,_,p,hS,_⟩:=h
  rw [p.length];exact len qs T hS
 ·obtain ⟨R,qs,T,sR,p,hS,q⟩:=h
  have hl:qs.length<=N.length:=by
   rw [len qs T hS]
   have:=congrArg List.length Sc.pre
   rw [List.length_take] at this
   omega
  exact ⟨_,eM,hbody cdv A outer s H E qs T hr hS (L2.start N vs) H R H R (ee sR p hl) {nx:=λ_ H'=>Q .non H',rt:=Q} (λ_ _ _ _ _ _ f=>f.elim) λv H' R' xx t=>q v H' R' xx t⟩
def Def (K:PySem.W.Frag)(mg:Str->Option Value)(x:Str)(st:Stmt)(ps:List Str):Prop:=∃f fd,bX K x x st f fd/\mg x=some (.ref f)/\Binds K fd ps []
theorem bF {h:Heap}{x:Str}{st:Stmt}{ps:List Str}{f:Addr}{oc:Value}{od an:Option Addr}{osl:Array (Option Value)}{kV doc pm cdv ct:Value}(KX:K.In h)(G:h.Ns mainGlobals mg)
 (a:PySem.W.nsIn K mainGlobals x=some (some (.ref f))) (l:K.lookup f=some ⟨oc,od,.func (PySem.W.fnOf x x (dF st) (bT st) (aq st) .none kV doc pm an cdv ct),osl⟩) (c:PySem.W.codeIn K cdv x=true) (k:PySem.W.keepIn K (.ref f)=true)
 (b:∀(kV doc pm:Value) (an:Option Addr) (cdv ct:Value) (us:List Value),us.length=ps.length->bindArgs (PySem.W.fnOf x x (dF st) (bT st) (aq st) .none kV doc pm an cdv ct) ⟨us,[]⟩=pure (ps.zip us)):Def K mg x st ps:=
 ⟨f,_,il l c k,PySem.W.mg_of KX G a,(il l c k).binds b⟩
open PySem.Builtin.Int (intBits)
theorem mS {ns:List Int}(h:PySem.W.WData.layableAll [.list (ns.map .int)]=true):∀n∈ns,intBits n<=2 ^ 20:=λn hn=>by
 have h1:=PySem.W.layableW_arg h _ (List.mem_singleton.mpr rfl)
 have h2:=PySem.W.layableW_item h1 (.int n) (List.mem_map.mpr ⟨n,hn,rfl⟩)
 exact PySem.PyData.bits_of_layable h2
end Fc
namespace Att
open PySem PySem.W PySem.Calls PyProof.Rows
open PySem.Builtin.Int (intBits)
theorem lK {l:OpenLaw}{n:Nat}{q:Program}{loose:List Str}{XP:(Str->Option Value)->Heap->Prop}{YP:World->Heap->Prop}{d:DefRec}
 (hn:l.most=some n) (hdf:d.params.defaults=[])
 (call:∀(w:World) (s₀ s₁:Shared) (mg mb:Str->Option Value) (fa:Addr) (o:Obj) (pm cd doc:Value) (a:Addr) (vs:List Value) (ns:List Int),
  Ground q loose [] XP w s₀ mg mb s₁.heap->YP w s₁.heap->
  s₁.heap.get? fa=some o->o.data= .func (docDef d.name d.params d.body d.scope pm cd doc)->s₁.heap.CodeRec cd d.name->mg d.name=some (.ref fa)->
  s₁.heap.get? a=some {cls:=.type "list",data:=.seq vs.toArray}->IntsAre vs ns->ns.length<=n->(∀m∈ns,intBits m<=2 ^ 20)->s₁.gens= #[]->
  codeAny (model l.prog w) callerA (.call (.ref fa) ⟨[.ref a],[]⟩) (λr s'=>r= .ok (.ret (.bool true))/\OldK s₁.heap s'.heap/\s'.os=s₁.os/\AllBare s'.gens) s₁):
 WalkO q loose XP YP l.row.toRowW d [] (λf vs=>PySem.call f vs):=by
 intro w s₀ s₁ mg mb G Y fa o pm cd doc dV kV ho hd hcd hD hmg hg args vals as hpre hlay hrd hwl hlo
 obtain rfl:dV= .none:=Dflts.none hD hdf
 obtain rfl:kV= .none:=Dflts.noKw hD
 obtain ⟨a,vs,ns,rfl,rfl,hobj,hints,hlen⟩:=pD hn hpre hwl
 refine enter_call (codeAny_mono (call w s₀ s₁ mg mb fa o pm cd doc a vs ns G Y ho (fd_plain hd) hcd hmg hobj hints hlen (Fc.mS hlay) hg) λr s' hq=>?_)
 obtain ⟨rfl,h2,h3,h4⟩:=hq
 exact ⟨.inl ⟨.bool true,.bool true,[],rfl,λ_=>rfl,.bool true,pF l _,λ_=>⟨List.Pairwise.nil,λ_ hm=>(nomatch hm)⟩⟩,h2,h3,h4⟩
end Att
namespace L2
open PySem PySem.Spec PyProof.Rows
open PySem.Builtin.Int (intBits)
theorem sE {l:PySem.W.OpenLaw}{n k:Nat}{q:Program}{loose:List Str}{XP:(Str->Option Value)->Heap->Prop}{YP:World->Heap->Prop}{d:DefRec}{K:Params->PySem.W.Frag}{CX:World->gx}{sp:World->Sp}{x:Str}
 (hn:l.most=some n) (hn2:n<=sizeLine) (hdf:d.params.defaults=[]) (hr:bj k callerA)
 (hY:∀(w:World) (h:Heap),YP w h->(K w.params).In h)
 (F:∀(w:World) (mg:Str->Option Value) (fa:Addr) (h:Heap),(K w.params).In h->h.Ns mainGlobals mg->mg d.name=some (.ref fa)->
  ∃fd:FuncData,(∀(s:Shared) (u:Value),BindsTo s fd ⟨[u],[]⟩ [(x,u)])/\
   ∀base:Heap,(K w.params).In base->base.Ns mainGlobals mg->cJ l.prog w (K w.params) mg base (CX w) k fa fd [x] (sp w))
 (hsp:∀(w:World) (H:Hp) (a:Addr) (ns:List Int),ns.length<=n->(∀m∈ns,intBits m<=2 ^ 20)->sy H->bz (K w.params) H a (ns.map V.int)->sp w [.ref a] H (λv _=>v= .bl true) λ_ _ _=>False)
 (hCX:∀(w:World) (H:Hp) (s:Shared) (e:Value) (s':Shared),CX w [] H s (λ_ _ _=>False) e s'->False):
 PySem.W.WalkO q loose XP YP l.row.toRowW d [] (λf vs=>PySem.call f vs):=by
 refine Att.lK hn hdf λw s₀ s₁ mg mb fa o pm cd doc a vs ns G Y ho hd hcd hmg hobj hints hlen hbits hg=>?_
 have KX:=hY w _ Y
 obtain ⟨fd,hb,hF⟩:=F w mg fa _ KX G.T.g hmg
 exact r8 KX G.T.g G.T.b G.T.builtins G.T.nolimit hg hobj hints (Nat.le_trans hlen hn2) hr hF hb (λH hO hS=>hsp w H a ns hlen hbits hO hS) λH e s'=>hCX w H s₁ e s'
end L2
namespace Fc
open PySem PySem.Spec L2
open PyProof.Rows hiding St
section
variable {H:Hp}{h:Heap}{P:Program}{w:World}{h':Heap}
structure pZ (h0 h:Heap) (H:Hp) (e T:Addr) (cls:Value):Prop where
 ex:∃oe vs oT ts a0,h.get? e=some oe/\(oe.cls=cls/\vs[0]?=some a0)/\oe.data= .fields vs/\vs[1]?=some (.ref T)/\T≠e/\h.get? T=some oT/\oT.data= .fields ts/\ts[3]?=some .none
 ne:h0.get? e=none
 nT:h0.get? T=none
 fe:H e=none
 fT:H T=none
def d9 (P:Program)(w:World):gx:=λouter H s E ev s'=>∃e T cls H',ev= .ref e/\s'.os=s.os/\AllBare s'.gens/\Un (bR outer) [] H H' s.heap s'.heap/\bY P w H' s'.heap/\pZ s.heap s'.heap H' e T cls/\E cls none H'
theorem gA {h b0 h0:Heap}{fs:List Addr}:∀{l:List Env},h.FunFrames b0 l->(∀b∈bR l,b∈fs)->h.FunFrames (PySem.W.hideAll h0 fs) l
 | [],_,_=>trivial
 | env::rest,hl,hs=>by
   obtain ⟨hk,⟨L,o,hf,hn,ho,hd⟩,hr⟩:=hl
   refine ⟨hk,⟨L,o,hf,PySem.W.hideAll_none fs (hs L ?_),ho,hd⟩,gA hr λb hb=>hs b ?_⟩
   ·show L∈(env::rest).filterMap (·.frame)
    rw [List.filterMap_cons,hf];exact List.mem_cons_self
   ·show b∈(env::rest).filterMap (·.frame)
    rw [List.filterMap_cons,hf];exact List.mem_cons_of_mem _ hb
theorem Un.shrink {fs fs' ex:List Addr}{H':Hp}(u:Un fs ex H H' h h')(hs:∀b o,h.get? b=some o->b∈fs->b∈fs'):Un fs' ex H H' h h':=
 ⟨λb o q n hb he=>u.keep b o q n (λz=>hb (hs b o q z)) he,λb o q n _ he=>u.any q n he,u.free,u.there,u.tups,u.frzs,u.tbls⟩
theorem bG.there {a:Addr}{o:HO}(x:bG P w H h a o):∃ob,h.get? a=some ob:=by
 cases o with
 | lst xs=>obtain ⟨_,_,_,_,e⟩:=x;exact ⟨_,e⟩
 | tup xs=>obtain ⟨_,_,_,p⟩:=x;obtain ⟨o,e,_⟩:=p;exact ⟨o,e⟩
 | dK kvs=>obtain ⟨_,_,_,_,o,_,_,e,_⟩:=x;exact ⟨_,e⟩
 | dT kvs=>obtain ⟨_,_,_,_,o,_,_,e,_⟩:=x;exact ⟨_,e⟩
 | set S n=>obtain ⟨o,_,_,_,e,_⟩:=x;exact ⟨_,e⟩
 | ins C dx fs=>obtain ⟨_,_,_,e,_⟩:=x;exact ⟨_,e⟩
 | own y=>obtain ⟨_,e⟩:=x;exact ⟨_,e⟩
 | xd fs=>obtain ⟨_,⟨_,_,_,e,_⟩,_⟩:=x;exact ⟨_,e⟩
 | rng lo hi=>obtain ⟨_,_,_,e⟩:=x;exact ⟨_,e⟩
 | frz ob u=>obtain ⟨e,_⟩:=x;exact ⟨_,e⟩
 | tbl ps=>exact ⟨_,show h.get? a=some _ from x⟩
 | met f y=>exact ⟨_,show h.get? a=some _ from x⟩
 | ext φ=>obtain ⟨_,⟨_,e⟩,_⟩:=x;exact ⟨_,e⟩
theorem bY.none_of (x:bY P w H h){a:Addr}(e:h.get? a=none):H a=none:=by
 cases q:H a with
 | none=>rfl
 | some u=>
   obtain ⟨ob,r⟩:=bG.there (x a u q)
   rw [e] at r;cases r
theorem rN {fs:List Addr}(hok:bY P w H h)(hf:∀b∈fs,H b=none)(st:(PySem.W.hideAll h fs).StaysIn h')(up:∀b o,h.get? b=some o->b∈fs->∃sl,h'.get? b=some {o with slots:=sl}):
 Un fs [] H H h h'/\bY P w H h':=by
 have keep:∀b o,h.get? b=some o->b∉fs->h'.get? b=some o:=λb o q hb=>st b o (PySem.W.hideAll_get fs q hb)
 refine ⟨⟨λb o q _ hb _=>keep b o q hb,λb o q _ hb _=>up b o q hb,λ_ _ _ n _=>n,λb o q _=>?_,λ_ _ q=>q,λ_ _ _ q=>q,λ_ ps q=>⟨#[],by rw [q];simp⟩⟩,λb u q=>?_⟩
 ·by_cases hb:b∈fs
  ·obtain ⟨sl,e⟩:=up b o q hb;exact ⟨_,e⟩
  ·exact ⟨o,keep b o q hb⟩
 ·refine (hok b u q).fJ (λc v hc r=>keep c v r λz=>?_) (λ_ r=>r) λ_ _ r=>r
  have n:=hf c z
  rcases hc with rfl | hc
  ·rw [q] at n;cases n
  ·rw [hc] at n;cases n
theorem dH {fs:List Addr}{H':Hp}(u:Un fs [] H H' h h'){b:Addr}(e:h'.get? b=none):h.get? b=none:=by
 cases q:h.get? b with
 | none=>rfl
 | some o=>
   obtain ⟨o',r⟩:=u.there b o q List.not_mem_nil
   rw [e] at r;cases r
theorem lM {K:PySem.W.Frag}{mg:Str->Option Value}{base:Heap}{N:List Str}{qual:Str}{scope:Scope}{f:Addr}{cd:Value}{A:Around}{outer:List Env}{s:Shared}{E:XK}
 {pins:List (Addr×Obj)} {σ:St} {H1:Hp} {s1:Shared} {h2:Heap} {e:Addr} {cls:Value} {args:List Value} (I:Inv (cf (d9 P w) P w K mg base N qual scope f cd A outer s H E) pins σ H1 s1)
 (m:Heap.MadeExcOf s1.heap h2 e cls args) (q:E cls none H1):(cf (d9 P w) P w K mg base N qual scope f cd A outer s H E).xe (.ref e) {s1 with heap:=h2}:=by
 have hst:s1.heap.FunFrames base (envOfC qual scope s.heap.objs.size f cd::outer):=I.stack
 have hfree:∀b∈bR (envOfC qual scope s.heap.objs.size f cd::outer),H1 b=none:=I.ft
 show wpAny (model P w) (A.deeper (envOfC qual scope s.heap.objs.size f cd)) (leaving (envOfC qual scope s.heap.objs.size f cd) (.ref e)) _ _ _
 refine wpAny_leaves_madeW (h:=s1.heap) (base:=PySem.W.hideAll s1.heap (bR (envOfC qual scope s.heap.objs.size f cd::outer))) I.ok.frames rfl (λb o z=>PySem.W.of_hideAll _ z) (gA hst λ_ z=>z) m λh' t fl _ _ up=>?_
 obtain ⟨st,hen,hfr,oe,vs,T,oT,ts,he,hc,hd,h1,hnT,hTe,hT,hdT,h3⟩:=fl
 have up2:∀b o,s1.heap.get? b=some o->b∈bR (envOfC qual scope s.heap.objs.size f cd::outer)->∃sl,h'.get? b=some {o with slots:=sl}:=λb o r z=>by
  obtain ⟨_,o2,r2,nf⟩:=hst.mem z
  rw [r] at r2;cases r2
  exact up b o (m.keeps b o r) nf
 obtain ⟨un,hok⟩:=rN (P:=P) (w:=w) I.hok hfree st up2
 have nT:s1.heap.get? T=none:=by
  cases r:s1.heap.get? T with
  | none=>rfl
  | some o=>
    exfalso
    by_cases z:T∈bR (envOfC qual scope s.heap.objs.size f cd::outer)
    ·obtain ⟨_,o2,r2,nf⟩:=hst.mem z
     rw [r] at r2;cases r2
     obtain ⟨sl,r3⟩:=up2 T o r z
     rw [hT] at r3;cases r3
     exact nf ts hdT
    ·rw [PySem.W.hideAll_get _ r z] at hnT;cases hnT
 have base0:Un (bR outer) [] H H1 s.heap s1.heap:=I.base
 have un2:Un (bR outer) [] H H1 s.heap h':=by
  refine Un.shrink ((base0.mono (fs':=bR (envOfC qual scope s.heap.objs.size f cd::outer)) (λb z=>?_) λ_ z=>z).trans un) λb o r z=>?_
  ·show b∈(envOfC qual scope s.heap.objs.size f cd::outer).filterMap (·.frame)
   rw [List.filterMap_cons]
   exact List.mem_cons_of_mem _ z
  ·have z':b∈(envOfC qual scope s.heap.objs.size f cd::outer).filterMap (·.frame):=z
   rw [List.filterMap_cons] at z'
   rcases List.mem_cons.mp z' with y | y
   ·have:=Heap.lt_size r
    rw [y] at this
    exact absurd this (Nat.lt_irrefl _)
   ·exact y
 exact ⟨e,T,cls,H1,rfl,I.os,I.bare,un2,hok,⟨⟨oe,vs,oT,ts,_,he,hc,hd,h1,hTe,hT,hdT,h3⟩,dH base0 m.new,dH base0 nT,bY.none_of I.hok m.new,bY.none_of I.hok nT⟩,q⟩
abbrev yj:List Value:=[.type "ValueError",.type "Exception",.type "BaseException",.type "object"]
structure lU (K:PySem.W.Frag) (mg:Str->Option Value) (x:Str) (C:Addr):Prop where
 bound:mg x=some (.ref C)
 here:PySem.W.excIn K C yj "ValueError.__new__"=true
theorem lU.own {K:PySem.W.Frag}{mg:Str->Option Value}{x:Str}{C:Addr}(c:lU K mg x C)(X:K.In h):OwnCls x C yj "ValueError.__new__" mg h:=by
 refine ⟨c.bound,?_⟩
 have q:=c.here
 unfold PySem.W.excIn at q
 split at q
 ·rename_i dd cd sl ho
  split at q
  ·rename_i C' bm k0 k1 k2 k3 n k5 hm hs
   simp only [Bool.and_eq_true,beq_iff_eq,Bool.not_eq_true'] at q
   obtain ⟨⟨⟨⟨⟨rfl,rfl⟩,hdel⟩,ht⟩,hok⟩,hni⟩:=q
   obtain ⟨nm,bs,mro,ns,qn,hd,sn,sub,ab,col,del⟩:=cd
   dsimp only at hm hdel hok hni
   subst hm hdel
   have hsl:sl= #[k0,k1,k2,k3,some (.builtin "ValueError.__new__"),k5]:=by
    obtain ⟨l⟩:=sl
    simp only at hs
    rw [hs]
   subst hsl
   exact ⟨bm,ns,nm,qn,bs,hd,sn,sub,ab,col,dd,k0,k1,k2,k3,k5,_,X _ _ ho,.of_isNs (PySem.W.isNs_of_in X hok),PySem.W.nsMap_none_of_in X hok hni,PySem.W.tail_of_in X ht⟩
  ·cases q
 ·cases q
end
section
variable {X:Cx}{Γ Γ1:Ga}
def RS (X:Cx)(H0 R0:Hp)(sts:List Stmt)(Γ:Ga):Prop:=∀(σ:St) (H R:Hp),av X.K σ H0 R0 H R Γ->∀D:Ends,fZ X sts D σ H
theorem jh.cH {st:Stmt}{D:Ends}{σ:St}{H:Hp}(h:jh X.cH st D σ H):jh X st D σ H:=λpins s I=>
 wpAny_mono (h pins s (I.ez _)) (λ_ _ q=>q.dq) λ_ _ z=>False.elim z
theorem fK.cH {e:Expr}{Q:Bool->Hp->Prop}{σ:St}{H:Hp}(h:fK X.cH e σ H Q):fK X e σ H Q:=λpins s I=>
 wpAny_mono (h pins s (I.ez _)) (λ_ _ ⟨H',I',q⟩=>⟨H',I'.dq,q⟩) λ_ _ z=>False.elim z
theorem kd {H0 R0:Hp}{st:Stmt}{rest:List Stmt}{N1:Ga->Prop}(h1:W1 X.cH st Γ N1 (λ_ _ _ _=>False))(h2:∀Γ',N1 Γ'->RS X H0 R0 rest Γ'):RS X H0 R0 (st::rest) Γ:=λσ H R E D=>by
 refine λpins s I=>wpAny_execs_cons (aT (jh.cH (h1 σ H0 R0 H R E {nx:=λσ' H'=>fZ X rest D σ' H',rt:=λ_ _=>False,bk:=λ_ _=>False,ct:=λ_ _=>False} (λσ' H' R' Γ' E' _ n=>h2 Γ' n σ' H' R' E' D) λ_ _ _ _ z=>z) pins s I) λf s1 q=>?_)
 cases f with
 | next=>
   obtain ⟨σ',H',I',q⟩:=q
   exact q pins s1 I'
 | brk=>obtain ⟨_,_,_,q⟩:=q;exact q.elim
 | cont=>obtain ⟨_,_,_,q⟩:=q;exact q.elim
 | ret u=>obtain ⟨_,_,_,_,_,q⟩:=q;exact q.elim
theorem zT {H0 R0:Hp}{c:Expr}{a b rest:List Stmt}{pos:Pos}(hc:TV X.cH c Γ true Γ1)(h:RS X H0 R0 a Γ1):RS X H0 R0 (.If c a b pos::rest) Γ:=λσ H R E D=>by
 refine λpins s I=>wpAny_execs_cons ?_
 have:=fK.cH (hc σ H0 R0 H R E (λb H'=>b=true/\∀D,fZ X a D σ H') λH' R' E' _=>⟨rfl,λD=>h σ H' R' E' D⟩) pins s I
 refine PySem.wpAny_If (aT this λb s1 ⟨H',I',hb,q⟩=>?_)
 subst hb
 rw [if_pos rfl]
 refine aT (q {nx:=λ_ _=>False,rt:=λ_ _=>False} pins s1 I') λf s2 z=>?_
 cases f with
 | next=>obtain ⟨_,_,_,z⟩:=z;exact z.elim
 | brk=>obtain ⟨_,_,_,z⟩:=z;exact z.elim
 | cont=>obtain ⟨_,_,_,z⟩:=z;exact z.elim
 | ret u=>obtain ⟨_,_,_,_,_,z⟩:=z;exact z.elim
end
theorem lL {P:Program}{w:World}{K:PySem.W.Frag}{mg:Str->Option Value}{base:Heap}{N:List Str}{qual:Str}{scope:Scope}{f:Addr}{cd:Value}{A:Around}{outer:List Env}{s:Shared}{H R:Hp}{E:XK}{Γ:Ga}
 {x:Str} {C:Addr} {np cp pos sp:Pos} {txt:Str} {j:Nat} {rest:List Stmt} (hC:lU K mg x C) (q:∀H' R',Ext H R H' R'->E (.ref C) none H')
 (hg:Gl (cf (d9 P w) P w K mg base N qual scope f cd A outer s H E) x:=by rfl) (hdb:(x==("__debug__":Str))=false:=by decide):
 RS (cf (d9 P w) P w K mg base N qual scope f cd A outer s H E) H R (.Raise (some (.Call (.Name x np) [.Constant (.str txt) j sp] [] cp)) none pos::rest) Γ:=λσ H1 R1 EO D pins s1 I=>by
 refine wpAny_execs_cons ?_
 obtain ⟨bm,Nn,nm,qn,bs,hdct,sn,sub,ab,col,dd,k0,k1,k2,k3,k5,mN,hCo,hN,hni,TL⟩:=(hC.own I.cO).obj
 refine wpAny_Raise_call_subT (C:=C) (nm:=nm) (q:=qn) (N:=Nn) (bs:=bs) (bm:=bm) (hdct:=hdct) (sn:=sn) (sub:=sub) (ab:=ab) (col:=col) (dd:=dd) (k0:=k0) (k1:=k1) (k2:=k2) (k3:=k3) (k5:=k5) (mN:=mN) PySem.F.excBase_ValueError (TL.hasType PySem.F.excBase_ValueError.hasBase) (I.ok.hd rfl) rfl hni (eG I hg hC.bound ⟨rfl,?_⟩ hdb)
 refine Calls.evalArgs_plain (Calls.spliced_cons (Calls.Constant_str (k:=j) (pos:=sp) (Calls.spliced_nil ⟨rfl,by show 1<=sizeLine;decide,hCo,hN,TL,λh' e m=>?_⟩)))
 exact lM (I.tok _) m (q H1 R1 EO.ext)
inductive Out
 | ret (T:RT)
 | exc (cls:Value)
abbrev jA:=PySem.W.Frag->List Pk->Out->Prop
def Out.meets (H R:Hp)(Q:VK)(E:XK):Out->Prop
 | .ret T=>∀v H' R',Ext H R H' R'->T H v H' R'->Q v H'
 | .exc c=>∀H' R',Ext H R H' R'->E c none H'
def fY (S:jA)(K:PySem.W.Frag):Sp:=λvs H Q E=>∃R ps o,aw R H/\fH K R vs ps/\S K ps o/\o.meets H R Q E
structure dO (P:Program) (w:World) (K:PySem.W.Frag) (mg:Str->Option Value) (base:Heap) (x:Str) (k:Nat) (sp:Sp):Prop where
 ex:∃f fd ps,cJ P w K mg base (d9 P w) k f fd ps sp/\mg x=some (.ref f)/\PySem.W.keepIn K (.ref f)=true/\Binds K fd ps []
theorem dO.mono {P:Program}{w:World}{K:PySem.W.Frag}{mg:Str->Option Value}{base:Heap}{x:Str}{j k:Nat}{sp:Sp}(c:dO P w K mg base x j sp)(h:j<=k):dO P w K mg base x k sp:=by
 obtain ⟨f,fd,ps,F,a,b,c⟩:=c.ex
 exact ⟨f,fd,ps,F.mono h,a,b,c⟩
section
variable {P:Program}{w:World}{K:PySem.W.Frag}{mg:Str->Option Value}{base:Heap}
theorem xT {S:jA}{x qual:Str}{st:Stmt}{f:Addr}{fd:FuncData}{N ps:List Str}{k:Nat}(F:bX K x qual st f fd)(Sc:aU N ps (aq st))(hm:mg x=some (.ref f))(hb:Binds K fd ps [])(len:∀qs o,S K qs o->qs.length=ps.length)
 (hret:∀(cdv:Value) (A:Around) (outer:List Env) (s:Shared) (H:Hp) (E:XK) (qs:List Pk) (T:RT),bj k (A.deeper (envOfC qual (aq st) s.heap.objs.size f cdv))->S K qs (.ret T)->
  WS (cf dJ P w K mg base N qual (aq st) f cdv A outer s H E).cH (bT st) (dM qs N.length) (λ_=>False) T)
 (hexc:∀(cdv:Value) (A:Around) (outer:List Env) (s:Shared) (H R:Hp) (E:XK) (qs:List Pk) (c:Value),bj k (A.deeper (envOfC qual (aq st) s.heap.objs.size f cdv))->S K qs (.exc c)->(∀H' R',Ext H R H' R'->E c none H')->
  RS (cf (d9 P w) P w K mg base N qual (aq st) f cdv A outer s H E) H R (bT st) (dM qs N.length)):dO P w K mg base x (k + 1) (fY S K):=by
 obtain ⟨oc,od,kV,doc,pm,an,cdv,ct,osl,rfl,lk,hcd⟩:=F.ex
 refine ⟨f,_,ps,?_,hm,F.kp,hb⟩
 refine uk lk hcd Sc (λvs H Q E h=>?_) (λA outer s H vs Q E hr h=>?_)
 ·obtain ⟨R,qs,o,_,p,hS,_⟩:=h
  rw [p.length];exact len qs o hS
 ·obtain ⟨R,qs,o,sR,p,hS,q⟩:=h
  have hl:qs.length<=N.length:=by
   rw [len qs o hS]
   have:=congrArg List.length Sc.pre
   rw [List.length_take] at this
   omega
  cases o with
  | ret T=>
    have hw:=hret cdv A outer s H E qs T hr hS (L2.start N vs) H R H R (ee sR p hl) {nx:=λ_ H'=>Q .non H',rt:=Q} (λ_ _ _ _ _ _ f=>f.elim) λv H' R' xx t=>q v H' R' xx t
    have hp:eZ (cf (d9 P w) P w K mg base N qual (aq st) f cdv A outer s H E).cH (bT st) (fZ (cf (d9 P w) P w K mg base N qual (aq st) f cdv A outer s H E).cH (bT st)):=eM
    exact ⟨_,hp.cH,hw⟩
  | exc c=>exact ⟨_,eM,hexc cdv A outer s H R E qs c hr hS q (L2.start N vs) H R (ee sR p hl) _⟩
end
abbrev fC (X:Cx)(e:Addr)(o:Obj):Cx:={X with pn:=(e,o)::X.pn}
theorem Ok.pin {X:Cx}(ok:X.Ok)(e:Addr)(o:Obj):(fC X e o).Ok:=
 ⟨ok.mod,ok.kind,ok.glob,ok.blt,ok.above,ok.inj,ok.has,ok.cab,ok.hd,ok.frames,ok.stk,ok.exf,ok.bs,ok.bsz,ok.noex,ok.exfs,ok.funs,ok.frf⟩
theorem Ok.lu {X:Cx}{e:Addr}{o:Obj}(ok:(fC X e o).Ok):X.Ok:=
 ⟨ok.mod,ok.kind,ok.glob,ok.blt,ok.above,ok.inj,ok.has,ok.cab,ok.hd,ok.frames,ok.stk,ok.exf,ok.bs,ok.bsz,ok.noex,ok.exfs,ok.funs,ok.frf⟩
section
variable {X:Cx}{pins:List (Addr×Obj)}{σ:St}{H:Hp}{s:Shared}{e:Addr}{o:Obj}
theorem Inv.pinned (I:Inv X pins σ H s)(h:s.heap.get? e=some o/\H e=none/\e≠X.env.locals/\e∉X.fs/\∀v,o.data≠ .cell v):Inv (fC X e o) pins σ H s:=
 ⟨Ok.pin I.ok e o,I.os,I.bare,I.base,I.loc,I.cell,I.free,I.freeC,λp hp=>by
  rcases List.mem_cons.mp hp with rfl | hp
  ·exact h
  ·exact I.pin p hp,I.hok,I.len⟩
theorem Inv.dz (I:Inv (fC X e o) pins σ H s):Inv X pins σ H s:=
 ⟨Ok.lu I.ok,I.os,I.bare,I.base,I.loc,I.cell,I.free,I.freeC,λp hp=>I.pin p (List.mem_cons_of_mem _ hp),I.hok,I.len⟩
theorem SP.lu {D:Ends}{f:Flow}{s':Shared}(h:SP (fC X e o) pins D f s'):SP X pins D f s':=by
 cases f with
 | next=>obtain ⟨σ',H',I,q⟩:=h;exact ⟨σ',H',Inv.dz I,q⟩
 | brk=>obtain ⟨σ',H',I,q⟩:=h;exact ⟨σ',H',Inv.dz I,q⟩
 | cont=>obtain ⟨σ',H',I,q⟩:=h;exact ⟨σ',H',Inv.dz I,q⟩
 | ret u=>obtain ⟨v,σ',H',I,r,q⟩:=h;exact ⟨v,σ',H',Inv.dz I,r,q⟩
abbrev markX (X:Cx)(v:Value):Cx:={X with A:=X.A.mark (some v),calm:=false,xe:=λ_ _=>False}
theorem Inv.marked (I:Inv X pins σ H s)(v:Value):Inv (markX X v) pins σ H s:=
 ⟨⟨I.ok.mod,I.ok.kind,I.ok.glob,I.ok.blt,I.ok.above,I.ok.inj,I.ok.has,I.ok.cab,(λz=>by cases z),I.ok.frames,I.ok.stk,I.ok.exf,I.ok.bs,I.ok.bsz,I.ok.noex,I.ok.exfs,I.ok.funs,I.ok.frf⟩,
   I.os,I.bare,I.base,I.loc,I.cell,I.free,I.freeC,I.pin,I.hok,I.len⟩
theorem Inv.unmarked {v:Value}(c:X.calm=true->X.A.handled=none)(I:Inv (markX X v) pins σ H s):Inv X pins σ H s:=
 ⟨⟨I.ok.mod,I.ok.kind,I.ok.glob,I.ok.blt,I.ok.above,I.ok.inj,I.ok.has,I.ok.cab,c,I.ok.frames,I.ok.stk,I.ok.exf,I.ok.bs,I.ok.bsz,I.ok.noex,I.ok.exfs,I.ok.funs,I.ok.frf⟩,
   I.os,I.bare,I.base,I.loc,I.cell,I.free,I.freeC,I.pin,I.hok,I.len⟩
theorem qR {M:Model}{A:Around}{E:Value->Shared->Prop}{i:Nat}{x:Str}{pos:Pos}{Q:Unit->Shared->Prop}(I:Inv X pins σ H s)(hN:X.N.Nodup)(hi:X.N[i]?=some x)(hk:X.env.scope.names.lookup x=some .local)
 (h:∀s',Inv X pins (σ.set i none) H s'->Q () s'):wpAny M A (do bindName X.env x .none;unbindBehindTheSuite X.env x pos) Q E s:=by
 obtain ⟨m,hn,hl⟩:=id I.loc
 have hcls:(X.env.scope.kind== .class ||(X.env.scope.kind== .module&&X.env.locals != X.env.globals))=false:=by rw [I.ok.kind];rfl
 have cne:=I.cne
 refine wpAny_nameGoes_keeps hk hn hcls λh' v hn' hs=>?_
 obtain ⟨oL,_,_,hoL,_⟩:=id hn
 have tracked:bY X.prog X.w H h':=λb ob e=>by
  refine (I.hok b ob e).fJ (λc w' hc q=>(hs.2 c ?_).trans q) (λ_ q=>q) λ_ _ q=>q
  rintro rfl
  rcases hc with rfl | hc
  ·rw [I.free] at e;cases e
  ·rw [I.free] at hc;cases hc
 refine h _ ⟨I.ok,I.os,I.bare,⟨λb o e n hb hx=>?_,λb o e n hb hx=>?_,I.base.free,λb o e hx=>?_,I.base.tups,I.base.frzs,I.base.tbls⟩,⟨_,hn',λj y v' e1 e2 e3=>?_⟩,λy c e=>?_,I.free,I.freeC,λp hp=>?_,tracked,by simpa using I.len⟩
 ·exact (hs.2 b (Nat.ne_of_lt (Nat.lt_of_lt_of_le (Heap.lt_size e) I.ok.above))).trans (I.base.keep b o e n hb hx)
 ·obtain ⟨sl,e1⟩:=I.base.slot b o e n hb hx
  exact ⟨sl,(hs.2 b (Nat.ne_of_lt (Nat.lt_of_lt_of_le (Heap.lt_size e) I.ok.above))).trans e1⟩
 ·obtain ⟨o',e1⟩:=I.base.there b o e hx
  exact ⟨o',(hs.2 b (Nat.ne_of_lt (Nat.lt_of_lt_of_le (Heap.lt_size e) I.ok.above))).trans e1⟩
 ·by_cases hj:j=i
  ·subst hj
   rw [List.getElem?_set] at e2
   split at e2
   ·split at e2<;>cases e2
   ·rename_i z;exact absurd rfl z
  ·rw [List.getElem?_set_ne (Ne.symm hj)] at e2
   obtain ⟨u',r',q⟩:=hl j y v' e1 e2 e3
   refine ⟨u',r',?_⟩
   rcases q with ⟨k,e⟩ | ⟨k,c,e,z⟩
   ·refine .inl ⟨k,?_⟩
    have:y≠x:=λe=>hj (jg hN e1 (e▸hi))
    simp [this,e]
   ·exact .inr ⟨k,c,e,z.sameBut hs (cne y c e)⟩
 ·obtain ⟨w',z⟩:=I.cell y c e
  exact ⟨w',z.sameBut hs (cne y c e)⟩
 ·obtain ⟨e,n,ne,nf,d⟩:=I.pin p hp
  exact ⟨(hs.2 p.1 ne).trans e,n,ne,nf,d⟩
end
section
variable {X:Cx}{σ:St}{cls:Value}
theorem jt.cH {es:List Expr}{Q:List V->Hp->Prop}{H:Hp}(h:jt X.cH es σ H Q)(E:Value->Shared->Prop):∀(pos:Pos) (pins:List (Addr×Obj)) (s:Shared),Inv X pins σ H s->wpAny (model X.prog X.w) X.A (spliced (backTo pos (starEach es X.env))) (AP X pins σ Q) E s:=λpos pins s I=>
 wpAny_mono (h pos pins s (I.ez _)) (λ_ _ ⟨vs,H',I',r,q⟩=>⟨vs,H',I'.dq,r,q⟩) λ_ _ z=>False.elim z
theorem jc {S:jA}{x:Str}{k:Nat}{e:Expr}{es:List Expr}{p pos:Pos}{ps:List Pk}{H0 R0 H R:Hp}{Γ Γ1:Ga}{pins:List (Addr×Obj)}{s:Shared}{Q:Value->Shared->Prop}{Ex:Value->Shared->Prop}
 (C:dO X.prog X.w X.K X.mg X.base x k (fY S X.K)) (hr:bj k X.A) (ha:HA X.cH (e::es) Γ ps Γ1) (hS:S X.K ps (.exc cls)) (E:av X.K σ H0 R0 H R Γ) (I:Inv X pins σ H s)
 (q:∀s1 H1 ea T H' R' s',Inv X pins σ H1 s1->s'.os=s1.os->AllBare s'.gens->Un (bR X.stack) [] H1 H' s1.heap s'.heap->bY X.prog X.w H' s'.heap->pZ s1.heap s'.heap H' ea T cls->av X.K σ H0 R0 H' R' Γ1->aw R R'->Ex (.ref ea) s')
 (hg:Gl X x) (hdb:(x==("__debug__":Str))=false) (he:starEach (e::es) X.env=(false,eval e X.env)::starEach es X.env) (hpl:(backTo pos (starEach es X.env)).any (·.1)=false):
 wpAny (model X.prog X.w) X.A (eval (.Call (.Name x p) (e::es) [] pos) X.env) Q Ex s:=by
 obtain ⟨f,fd,pn,F,hm,hk,hb⟩:=C.ex
 refine wpAny_Call_Name_kw (eG I hg hm ?_ hdb)
 refine PySem.W.callWith_K (h₀:=X.base) I.ok.mod.kin hk (aT (jt.cH (ha σ H0 R0 H R E (λvs H1=>∃R1,av X.K σ H0 R0 H1 R1 Γ1/\aw R R1/\fH X.K R1 vs ps) λvs H1 R1 E1 s1 p1=>⟨R1,E1,s1,p1⟩) Ex pos pins s I) λus s1 ⟨vs,H1,I1,r,R1,E1,sR,p1⟩=>⟨I1.cO,?_⟩) he hpl
 have r2:Vals (vs++[]) (us++[]):=by rw [List.append_nil,List.append_nil];exact r
 have sp:fY S X.K (vs++[]) H1 (λ_ _=>False) (λc _ H'=>c=cls/\∃R',Ext H1 R1 H' R'):=⟨R1,ps,.exc cls,E1.sub,by rw [List.append_nil];exact p1,hS,λH' R' xx=>⟨rfl,R',xx⟩⟩
 have hl:(us++[]).length=pn.length:=by rw [← r2.length];exact F.len _ _ _ _ sp
 refine wpAny_call (codeAny_mono (F.run X.A X.stack s1 H1 ⟨us,[]⟩ (us++[]) (vs++[]) _ _ hr I1.rE (hb s1 us I1.cO hl) r2 sp) λr s' hq=>?_)
 cases r with
 | error ev=>
   obtain ⟨ea,T,c,H',rfl,ho,bare,un,hok,fly,rfl,R',xx⟩:=hq
   exact q s1 H1 ea T H' R' s' I1 ho bare un hok fly (E1.grow xx) (sR.trans xx.r)
 | ok fl=>
   cases fl with
   | ret u=>obtain ⟨_,_,_,_,_,_,_,z⟩:=hq;exact z.elim
   | next=>exact False.elim hq
   | brk=>exact False.elim hq
   | cont=>exact False.elim hq
theorem mv {P:Program}{w:World}{fs:List Addr}{H1 H':Hp}{h1 h' h2:Heap}{e T:Addr}(u:Un fs [] H1 H' h1 h')(hok:bY P w H' h')(fly:pZ h1 h' H' e T cls)(hf:∀b∈fs,H' b=none)
 (st:(PySem.W.hideAll h' (e::T::fs)).StaysIn h2) (up:∀b o,h'.get? b=some o->b∈fs->∃sl,h2.get? b=some {o with slots:=sl}):Un fs [] H1 H' h1 h2/\bY P w H' h2:=by
 have keep:∀b o,h'.get? b=some o->b∉fs->b≠e->b≠T->h2.get? b=some o:=λb o q hb n1 n2=>st b o (PySem.W.hideAll_get _ q λz=>by
  rcases List.mem_cons.mp z with z | z
  ·exact n1 z
  ·rcases List.mem_cons.mp z with z | z
   ·exact n2 z
   ·exact hb z)
 have n1:∀b o,h1.get? b=some o->b≠e:=λb o q z=>by rw [z,fly.ne] at q;cases q
 have n2:∀b o,h1.get? b=some o->b≠T:=λb o q z=>by rw [z,fly.nT] at q;cases q
 refine ⟨⟨λb o q n hb hx=>keep b o (u.keep b o q n hb hx) hb (n1 b o q) (n2 b o q),λb o q n hb hx=>?_,u.free,λb o q hx=>?_,u.tups,u.frzs,u.tbls⟩,λb x q=>?_⟩
 ·obtain ⟨sl,r⟩:=u.slot b o q n hb hx
  obtain ⟨sl',r'⟩:=up b _ r hb
  exact ⟨sl',r'⟩
 ·obtain ⟨o',r⟩:=u.there b o q hx
  by_cases hb:b∈fs
  ·obtain ⟨sl',r'⟩:=up b _ r hb;exact ⟨_,r'⟩
  ·exact ⟨_,keep b o' r hb (n1 b o q) (n2 b o q)⟩
 ·refine (hok b x q).fJ (λc v hc r=>?_) (λ_ r=>r) λ_ _ r=>r
  have hc':H' c≠none:=by
   rcases hc with rfl | hc
   ·rw [q];exact Option.some_ne_none _
   ·rw [hc];exact Option.some_ne_none _
  exact keep c v r (λz=>hc' (hf c z)) (λz=>hc' (z▸fly.fe)) λz=>hc' (z▸fly.fT)
theorem fN {h h' b0 h0:Heap}{fs:List Addr}:∀{l:List Env},h.FunFrames b0 l->(∀b∈bR l,∀o,h.get? b=some o->∃sl,h'.get? b=some {o with slots:=sl})->(∀b∈bR l,b∈fs)->h'.FunFrames (PySem.W.hideAll h0 fs) l
 | [],_,_,_=>trivial
 | env::rest,hl,hk',hs=>by
   obtain ⟨hk,⟨L,o,hf,hn,ho,hd⟩,hr⟩:=hl
   have hL:L∈bR (env::rest):=by
    show L∈(env::rest).filterMap (·.frame)
    rw [List.filterMap_cons,hf];exact List.mem_cons_self
   have hT:∀b∈bR rest,b∈bR (env::rest):=λb hb=>by
    show b∈(env::rest).filterMap (·.frame)
    rw [List.filterMap_cons,hf];exact List.mem_cons_of_mem _ hb
   obtain ⟨sl,e⟩:=hk' L hL o ho
   exact ⟨hk,⟨L,_,hf,PySem.W.hideAll_none fs (hs L hL),e,hd⟩,fN hr (λb hb=>hk' b (hT b hb)) λb hb=>hs b (hT b hb)⟩
theorem rf {H1 H':Hp}{pins:List (Addr×Obj)}{s1 s':Shared}{e T:Addr}{Q:Flow->Shared->Prop}{ce n y:Str}{CE:Addr}{np p1 p2 p3 hp:Pos}{i j:Nat}
 (I1:Inv X pins σ H1 s1) (ho:s'.os=s1.os) (bare:AllBare s'.gens) (un:Un (bR X.stack) [] H1 H' s1.heap s'.heap) (hok:bY X.prog X.w H' s'.heap) (fly:pZ s1.heap s'.heap H' e T cls)
 (hst:X.stack=X.env::X.outer) (hef:X.env.frame=some X.env.locals) (hm:X.mg ce=some (.ref CE)) (hx:PySem.W.exmOne X.K cls (.ref CE)=some true) (hg:Gl X ce) (hdb:(ce==("__debug__":Str))=false)
 (hN:X.N.Nodup) (hi:X.N[i]?=some n) (hj:X.N[j]?=some y) (hin:X.env.scope.names.lookup n=some .local) (hjy:X.env.scope.names.lookup y=some .local)
 (hs:swapsWith (.Name n p2) (some (.Name y p1)) p3.line X.env=pure false) (hnd:(n==("__debug__":Str))=false) (hnc:(n==("__classdict__":Str))=false)
 (q:∀oe s6,oe.cls=cls->Inv (fC X e oe) pins (((σ.set i (some (.ref e))).set j (some (.ref e))).set i none) H' s6->Q .next s6):
 wpAny (model X.prog X.w) X.A (noteFrame (.ref e) X.env) (λ_ s₂=>wpAny (model X.prog X.w) X.A (setFlight (.ref e) none) (λ_ s₃=>
  wpAny (model X.prog X.w) X.A (handleBy (.ref e) X.env [.ExceptHandler (some (.Name ce np)) (some n) [.Assign [.Name y p1] (.Name n p2) p3] hp]) Q X.xe s₃) X.xe s₂) X.xe s':=by
 have hA:X.A.frames=some (X.env::X.outer):=by rw [← hst];exact I1.ok.frames
 have hfs:∀b∈bR X.stack,H' b=none:=λb hb=>by
  obtain ⟨_,o,r,_⟩:=I1.stack.mem hb
  exact un.free b o r (I1.ft b hb) List.not_mem_nil
 have hsl:∀b∈bR X.stack,∀o,s1.heap.get? b=some o->∃sl,s'.heap.get? b=some {o with slots:=sl}:=λb hb o r=>un.slot b o r (I1.ft b hb) hb List.not_mem_nil
 have hff:s'.heap.FunFrames (PySem.W.hideAll s'.heap (e::T::bR X.stack)) (X.env::X.outer):=by
  have:=fN (h0:=s'.heap) (fs:=e::T::bR X.stack) I1.stack hsl λb hb=>List.mem_cons_of_mem _ (List.mem_cons_of_mem _ hb)
  rw [hst] at this ⊢;exact this
 obtain ⟨oe,vs,oT,ts,a0,he,hc,hd,h1,hTe,hT,hdT,h3⟩:=fly.ex
 have hfl:Heap.FlyingW (PySem.W.hideAll s'.heap (e::T::bR X.stack)) (X.env::X.outer) e cls a0 s'.heap:=
  ⟨λb o z=>PySem.W.of_hideAll _ z,PySem.W.hideAll_none _ List.mem_cons_self,hff,oe,vs,T,oT,ts,he,hc,hd,h1,PySem.W.hideAll_none _ (List.mem_cons_of_mem _ List.mem_cons_self),hTe,hT,hdT,h3⟩
 have upF:∀{h2:Heap},s'.heap.UpToSlots h2->∀b o,s'.heap.get? b=some o->b∈bR X.stack->∃sl,h2.get? b=some {o with slots:=sl}:=λ{h2} up b o r hb=>by
  have hb':b∈(X.env::X.outer).filterMap (·.frame):=by rw [← hst];exact hb
  obtain ⟨_,o2,r2,nf⟩:=hff.mem hb'
  rw [r] at r2;cases r2
  exact up b o r nf
 have nL:e≠X.env.locals:=λz=>by
  obtain ⟨m,⟨o,_,_,r,_⟩,_⟩:=id I1.loc
  rw [← z,fly.ne] at r;cases r
 have nF:e∉X.fs:=λz=>by
  have z':e∈bR X.stack:=by
   rw [hst]
   show e∈(X.env::X.outer).filterMap (·.frame)
   rw [List.filterMap_cons,hef];exact List.mem_cons_of_mem _ z
  obtain ⟨_,o,r,_⟩:=I1.stack.mem z'
  rw [fly.ne] at r;cases r
 refine wpAny_looks_onW hA hef hfl λh4 held4 up4=>?_
 refine wpAny_landsW held4 λh5 fl5 up5=>?_
 obtain ⟨u5,ok5⟩:=mv un hok fly hfs fl5.1 (upF (up4.trans up5))
 have I5:Inv X pins σ H' {s' with heap:=h5}:=Inv.oI (ch:=[]) (s':={s' with heap:=h5}) I1 ho u5 ok5 bare λb z=>absurd z List.not_mem_nil
 refine wpAny_handleBy_cons (codeAny_handlers_test (eG (Inv.marked I5 (.ref e)) hg hm ?_ hdb)) (by intro q;cases q)
 obtain ⟨oe5,vs5,he5,hc5,hd5,_⟩:=fl5.first
 have LT:PySem.W.Looks (model X.prog X.w) h5 (typeOf (.ref e)) cls:=hc5▸(PySem.W.Looks.ld he5).andThen .now
 refine (PySem.W.exm_one (M:=model X.prog X.w) (show X.K.In h5 from I5.cO) LT hx).here ?_
 refine codeAny_handlers_suite_as (lands_againW fl5 λh6 fl6 up6=>?_)
 obtain ⟨u6,ok6⟩:=mv un hok fly hfs fl6.1 (upF ((up4.trans up5).trans up6))
 have I6:Inv X pins σ H' {s' with heap:=h6}:=Inv.oI (ch:=[]) (s':={s' with heap:=h6}) I1 ho u6 ok6 bare λb z=>absurd z List.not_mem_nil
 obtain ⟨oe6,vs6,he6,hc6,hd6,_⟩:=fl6.first
 have I6p:Inv (fC X e oe6) pins σ H' {s' with heap:=h6}:=Inv.pinned I6 ⟨he6,fly.fe,nL,nF,λv z=>by rw [hd6] at z;cases z⟩
 refine ju (X:=fC X e oe6) I6p hN hi (.inl hin) (v:=.ref e) rfl (λs7 I7=>?_) (.inr hin)
 have P7:=(eP (X:=markX (fC X e oe6) (.ref e)) (i:=j) (pos:=p3) hN hj (.inl hjy) (bM (i:=i) (pos:=p2) hi (.inl hin) hnd hnc) hs (.inr hjy)) pins s7 _ H' {nx:=λσ' H2=>σ'=(σ.set i (some (.ref e))).set j (some (.ref e))/\H2=H',rt:=λ_ _=>False} (Inv.marked I7 (.ref e))
  ⟨.ref e,List.getElem?_set_self (by rw [I1.len];exact (List.getElem?_eq_some_iff.mp hi).1),rfl,rfl⟩
 refine wpAny_execs_cons (wpAny_mono P7 (λf s8 z=>?_) λ_ _ z=>False.elim z)
 cases f with
 | next=>
   obtain ⟨σ',H2,I8,rfl,rfl⟩:=z
   refine wpAny_execs_nil ?_
   exact qR (X:=fC X e oe6) (Inv.unmarked (λ_=>I6p.ok.hd (by assumption)) I8) hN hi hin λs9 I9=>q oe6 s9 hc6 I9
 | brk=>obtain ⟨_,_,_,z⟩:=z;exact z.elim
 | cont=>obtain ⟨_,_,_,z⟩:=z;exact z.elim
 | ret u=>obtain ⟨_,_,_,_,_,z⟩:=z;exact z.elim
end
end Fc
namespace Fc
open PySem PySem.Spec PySem.W PySem.Calls PySem.Builtin.ObjectAttr PySem.Builtin.Getset_descriptor L2
open PyProof.Rows hiding St
def iR (x D:Addr)(h:Heap):Prop:=∃ox,h.get? x=some ox/\ox.cls= .ref D
theorem iR.ty {M:Model}{h:Heap}{x D:Addr}(p:iR x D h):Looks M h (typeOf (.ref x)) (.ref D):=by
 obtain ⟨ox,h1,h2⟩:=p
 exact h2▸(Looks.ld h1).andThen .now
def dv (K:Frag)(D:Addr):Bool:=(findIn K (.ref D) "__getattribute__"==some (some (.builtin "BaseException.__getattribute__")))&&(findIn K (.ref D) "__getattr__"==some none)&&(findIn K (.ref D) "__class__"==some (some (.builtin "object.__class__")))&&(specialIn K (.builtin "object.__class__") "__get__"==some (some (.builtin "getset_descriptor.__get__")))
 &&(takesIn K (.builtin "object.__class__")==some true)&&(mroIn K D (.type "object")==some true)&&(subIn K (.ref D) (.type "BaseException")==some true)&&(clsIn K D).isSome
section
variable {K:Frag}{D x:Addr}{prog:Program}{w:World}{A:Around}{E:Value->Shared->Prop}{s:Shared}
theorem pC {Q:Option Value->Shared->Prop}(e:dv K D=true)(X:K.In s.heap)(p:iR x D s.heap)(h:Q (some (.ref D)) {s with toks:=s.toks + 1}):wpAny (model prog w) A (getAttr? (.ref x) "__class__") Q E s:=by
 unfold dv at e
 simp only [Bool.and_eq_true,beq_iff_eq] at e
 obtain ⟨⟨⟨⟨⟨⟨⟨hga,hgk⟩,ha⟩,hn⟩,htk⟩,hm⟩,hsb⟩,hc⟩:=e
 obtain ⟨hh,g,d,t,os⟩:=s
 have X:K.In hh:=X
 have p:iR x D hh:=p
 have L0:=p.ty (M:=model prog w)
 have L1:=looks_findIn (M:=model prog w) X hga
 have L2:=looks_findIn (M:=model prog w) X hgk
 have LB:Looks (model prog w) hh (isSubtype (.ref D) (.type "BaseException")) true:=looks_subIn X hsb
 have F1:Looks (model prog w) hh (find (.ref x) (.ref D) "__class__") (.bind (.builtin "getset_descriptor.__get__") (.builtin "object.__class__")):=by
  refine (looks_findIn X ha).andThen ((show Looks _ hh (getOf (some (.builtin "object.__class__"))) (some (.builtin "getset_descriptor.__get__")) from looks_specialIn X hn).andThen ?_)
  exact (show Looks _ hh (dataDescriptor? (some (.builtin "object.__class__")) (some (.builtin "getset_descriptor.__get__"))) (some (.builtin "getset_descriptor.__get__",.builtin "object.__class__")) from (looks_takesIn X htk).andThen .now).andThen (Looks.tag .now)
 have M1:=looks_mroIn (M:=model prog w) X hm
 have hx2:(Value.builtin "BaseException.__getattribute__"==Value.builtin "object.__getattribute__")=false:=by decide +kernel
 have hx1:(onTheHeap (Value.ref D)&&Value.builtin "BaseException.__getattribute__"==Value.builtin "object.__getattribute__")=false:=by rw [hx2];rfl
 unfold getAttr? getAttrBy? getAttrBy
 refine wpAny_bind (wpAny_mkText (wpAny_bind (wpAny_attempt (wpAny_holding (wpAny_bind (L0.at (wpAny_bind (L1.at ?_))))))))
 dsimp only
 rw [hx1]
 simp only [Bool.false_eq_true,if_false]
 unfold getAttrByItsOwn hookBefore
 have f3:=PySem.F.attr_ValueError.ga.bind (.ref x)
 refine wpAny_bind (L2.at ?_)
 refine wpAny_bind (wpAny_attempt (wpAny_holding ?_))
 show wpAny _ _ (boundAndCalled _ _ _) _ _ _
 unfold boundAndCalled
 refine wpAny_bind (wpAny_of_eq f3 ?_)
 have hkd:builtinKind "BaseException.__getattribute__"=some .slot:=by decide +kernel
 have hsplit:splitId "BaseException.__getattribute__"=some ("BaseException","__getattribute__"):=by decide +kernel
 have hargs:=PySem.F.args_bexc_ga (.ref x) (.str "__class__" t)
 refine wpAny_call (codeAny_call_builtin PySem.F.attr_ValueError.ga.plain PySem.F.entry_bexc_ga ?_)
 show wpAny _ _ (checkBuiltinCall "BaseException.__getattribute__" ⟨[.ref x,.str "__class__" t],[]⟩) _ _ _
 simp only [checkBuiltinCall,hkd,hsplit]
 refine wpAny_bind ?_
 unfold isInstance
 repeat lk
 refine wpAny_run ?_
 refine codeAny_call_builtin KF.slot_gs.plain KF.entry_gs (KF.slot_gs.check _ _ _ _ _ _ _ _ KF.type_class (KF.args_gs _ _ _) ?_)
 unfold Builtin.«getset_descriptor.__get__» descrGet
 rw [dga_obj]
 refine wpAny_bind (wpAny_pure ?_)
 unfold descrGetter descrCheckInstance descrNameAndClass isInstance
 simp only [KF.owner_class]
 repeat lk
 refine ⟨Code.quiet_builtin _ (by decide +kernel),codeAny_builtin KF.entry_class ?_⟩
 unfold Builtin.«object.__class__» shownTypeOf
 repeat lk
 exact h
theorem rO (e:dv K D=true):KitX K (.ref x) (.ref D) (iR x D) where
 ty:=λ_ _ _ p=>p.ty
 it:=λ_ _ X _=>by
  unfold dv at e
  rw [Bool.and_eq_true] at e
  have hc:=e.2
  unfold clsIn at hc
  split at hc
  ·rename_i c' d' cd' sl' ho
   intro A' Q' E' s' k q
   unfold isType loadHead
   exact wpAny_bind (wpAny_loadPart (k _ _ (X _ _ ho)) (wpAny_pure q))
  ·cases hc
 ne:=λh tp dd its n sl X htp=>by
  unfold dv at e
  rw [Bool.and_eq_true] at e
  have hc:=e.2
  refine Bool.eq_false_iff.mpr λq=>?_
  have z:D=tp:=Value.ref.inj (beq_iff_eq.mp q)
  subst z
  unfold clsIn at hc
  split at hc
  ·rename_i c' d' cd' sl' ho
   have z:=(X _ _ ho).symm.trans htp
   cases z
  ·cases hc
 ca:=λX p k=>pC e X p k
end
section
variable {X:Cx}{Γ Γ1:Ga}{ea D:Addr}{oe:Obj}
theorem sY {pins:List (Addr×Obj)}{σ:St}{H:Hp}{s:Shared}(I:Inv X pins σ H s)(hp:(ea,oe)∈X.pn)(hc:oe.cls= .ref D):iR ea D s.heap:=
 ⟨oe,(I.pin _ (List.mem_append_left _ hp)).1,hc⟩
theorem kW (hp:(ea,oe)∈X.pn)(hc:oe.cls= .ref D)(el:dv X.K D=true):dg X (.builtin "isinstance") (λxs H Q=>∃c cv b,xs=[.ref ea,c]/\RelV c cv/\(∀u,RelV c u->u=cv)/\kitOne X.K (.ref D) cv=some b/\Q (.bl b) H):=by
 intro pins s σ H xs us Q I r h
 obtain ⟨c,cv,b,rfl,_,hu,e,q⟩:=h
 obtain ⟨u,u2,rfl,r1,r2⟩:=vals2 r
 cases (show u=Value.ref ea from r1)
 cases hu u2 r2
 exact kia_one (rO el) I.cO (sY I hp hc) e (λz=>nomatch z) λtk=>⟨.bl b,H,I.tok tk,rfl,q⟩
def iE (ea:Addr):Rep Unit:=⟨λ_ _ v _=>v= .ref ea,λ_ h=>h⟩
theorem nQ {i:Nat}{x y:Str}{p p1 p2 pos:Pos}{C:Addr}{b:Bool}(hp:(ea,oe)∈X.pn)(hc:oe.cls= .ref D)(el:dv X.K D=true)(hm:X.mg "isinstance"=none)(hΓ:Γ[i]?=some (.im (iE ea) ()))(hmy:X.mg y=some (.ref C))(ht:kitOne X.K (.ref D) (.ref C)=some b)
 (hN:X.N[i]?=some x:=by rfl) (hv:cL X.env.scope x:=by first | exact Or.inl rfl | exact Or.inr (Or.inl rfl) | exact Or.inr (Or.inr rfl)) (hd:(x==("__debug__":Str))=false:=by decide) (hcd:(x==("__classdict__":Str))=false:=by decide)
 (hs:starEach [.Name x p1,.Name y p2] X.env=(false,eval (.Name x p1) X.env)::starEach [.Name y p2] X.env:=by rfl) (hg:Gl X "isinstance":=by rfl) (hgy:Gl X y:=by rfl) (hdy:(y==("__debug__":Str))=false:=by decide):
 EV X (.Call (.Name "isinstance" p) [.Name x p1,.Name y p2] [] pos) Γ bU b Γ:=by
 intro σ H0 R0 H R E Q q
 refine eS (cG (kW hp hc el) hg hm PyProof.Rows.boot_isinstance (aH aN (aH (fu (v:=.ref C) hgy hmy rfl hdy) br rfl) hs) (by decide) (by decide) hs rfl) (aa i hΓ hN hv hd hcd σ H0 R0 H R E _ λv H1 R1 E1 s1 e1=>?_)
 cases (show v=V.ref ea from e1)
 exact ⟨.ref C,.ref C,b,rfl,rfl,λu h=>h,ht,q _ H1 R1 E1 s1 rfl⟩
theorem uO {i:Nat}{x y:Str}{p p1 p2 pos:Pos}{c:String}{b:Bool}(hp:(ea,oe)∈X.pn)(hc:oe.cls= .ref D)(el:dv X.K D=true)(hm:X.mg "isinstance"=none)(hΓ:Γ[i]?=some (.im (iE ea) ()))(hmy:X.mg y=none)(hvy:bootBuiltins y=some (.type c))(ht:kitOne X.K (.ref D) (.type c)=some b)
 (hN:X.N[i]?=some x:=by rfl) (hv:cL X.env.scope x:=by first | exact Or.inl rfl | exact Or.inr (Or.inl rfl) | exact Or.inr (Or.inr rfl)) (hd:(x==("__debug__":Str))=false:=by decide) (hcd:(x==("__classdict__":Str))=false:=by decide)
 (hs:starEach [.Name x p1,.Name y p2] X.env=(false,eval (.Name x p1) X.env)::starEach [.Name y p2] X.env:=by rfl) (hg:Gl X "isinstance":=by rfl) (hgy:Gl X y:=by rfl) (hny:y≠"__name__":=by decide) (hdy:(y==("__debug__":Str))=false:=by decide):
 EV X (.Call (.Name "isinstance" p) [.Name x p1,.Name y p2] [] pos) Γ bU b Γ:=by
 intro σ H0 R0 H R E Q q
 refine eS (cG (kW hp hc el) hg hm PyProof.Rows.boot_isinstance (aH aN (aH (nK (v:=.ty c) hgy hmy hvy rfl hny hdy) br rfl) hs) (by decide) (by decide) hs rfl) (aa i hΓ hN hv hd hcd σ H0 R0 H R E _ λv H1 R1 E1 s1 e1=>?_)
 cases (show v=V.ref ea from e1)
 exact ⟨.ty c,.type c,b,rfl,rfl,λu h=>h,ht,q _ H1 R1 E1 s1 rfl⟩
end
theorem av.gone {K:PySem.W.Frag}{σ:St}{H0 R0 H R:Hp}{Γ:Ga}(E:av K σ H0 R0 H R Γ)(i:Nat):av K (σ.set i none) H0 R0 H R (Γ.set i .no):=by
 have key:∀(j:Nat) (e:Ent),(Γ.set i Ent.no)[j]?=some e->e= .no∨(Γ[j]?=some e/\(σ.set i none)[j]?=σ[j]?):=λj e q=>by
  by_cases hj:j=i
  ·subst hj
   rw [List.getElem?_set] at q
   split at q
   ·split at q
    ·cases q;exact .inl rfl
    ·cases q
   ·rename_i z;exact absurd rfl z
  ·rw [List.getElem?_set_ne (Ne.symm hj)] at q
   exact .inr ⟨q,List.getElem?_set_ne (Ne.symm hj)⟩
 refine ⟨E.ext,λj e q=>?_,λj e a q z=>?_,λj k e e' a q q' z z'=>?_,by rw [List.length_set,List.length_set];exact E.len⟩
 ·rcases key j e q with rfl | ⟨q,h⟩
  ·trivial
  ·rw [h];exact E.ent j e q
 ·rcases key j e q with rfl | ⟨q,h⟩
  ·cases z
  ·rw [h] at z;exact E.nw j e a q z
 ·rcases key j e q with rfl | ⟨q,h⟩
  ·cases z
  ·rcases key k e' q' with rfl | ⟨q',h'⟩
   ·cases z'
   ·rw [h] at z;rw [h'] at z';exact E.ds j k e e' a q q' z z'
end Fc
namespace Fc
open PySem PySem.Spec L2
open PyProof.Rows hiding St
theorem mU {P:Program}{w:World}{K:PySem.W.Frag}{mg:Str->Option Value}{base:Heap}{N:List Str}{qual:Str}{scope:Scope}{f:Addr}{cd:Value}{A:Around}{outer:List Env}{s:Shared}{H:Hp}{E:XK}
 {pins:List (Addr×Obj)} {σ:St} {H1 H':Hp} {s1 s':Shared} {e T:Addr} {cls:Value} (I1:Inv (cf (d9 P w) P w K mg base N qual scope f cd A outer s H E) pins σ H1 s1)
 (ho:s'.os=s1.os) (bare:AllBare s'.gens) (un:Un (bR (cf (d9 P w) P w K mg base N qual scope f cd A outer s H E).stack) [] H1 H' s1.heap s'.heap) (hok:bY P w H' s'.heap) (fly:pZ s1.heap s'.heap H' e T cls) (q:E cls none H'):
 (cf (d9 P w) P w K mg base N qual scope f cd A outer s H E).xe (.ref e) s':=by
 have hst:s1.heap.FunFrames base (envOfC qual scope s.heap.objs.size f cd::outer):=I1.stack
 have hfree:∀b∈bR (envOfC qual scope s.heap.objs.size f cd::outer),H1 b=none:=I1.ft
 have un:Un (bR (envOfC qual scope s.heap.objs.size f cd::outer)) [] H1 H' s1.heap s'.heap:=un
 have hfs:∀b∈bR (envOfC qual scope s.heap.objs.size f cd::outer),H' b=none:=λb hb=>by
  obtain ⟨_,o,r,_⟩:=hst.mem hb
  exact un.free b o r (hfree b hb) List.not_mem_nil
 have hsl:∀b∈bR (envOfC qual scope s.heap.objs.size f cd::outer),∀o,s1.heap.get? b=some o->∃sl,s'.heap.get? b=some {o with slots:=sl}:=λb hb o r=>un.slot b o r (hfree b hb) hb List.not_mem_nil
 have hff:s'.heap.FunFrames (PySem.W.hideAll s'.heap (e::T::bR (envOfC qual scope s.heap.objs.size f cd::outer))) (envOfC qual scope s.heap.objs.size f cd::outer):=
  fN (h0:=s'.heap) (fs:=e::T::bR (envOfC qual scope s.heap.objs.size f cd::outer)) hst hsl λb hb=>List.mem_cons_of_mem _ (List.mem_cons_of_mem _ hb)
 obtain ⟨oe,vs,oT,ts,a0,he,hc,hd,h1,hTe,hT,hdT,h3⟩:=fly.ex
 have hfl:Heap.FlyingW (PySem.W.hideAll s'.heap (e::T::bR (envOfC qual scope s.heap.objs.size f cd::outer))) (envOfC qual scope s.heap.objs.size f cd::outer) e cls a0 s'.heap:=
  ⟨λb o z=>PySem.W.of_hideAll _ z,PySem.W.hideAll_none _ List.mem_cons_self,hff,oe,vs,T,oT,ts,he,hc,hd,h1,PySem.W.hideAll_none _ (List.mem_cons_of_mem _ List.mem_cons_self),hTe,hT,hdT,h3⟩
 show wpAny (model P w) (A.deeper (envOfC qual scope s.heap.objs.size f cd)) (leaving (envOfC qual scope s.heap.objs.size f cd) (.ref e)) _ _ _
 refine wpAny_leaves_onW I1.ok.frames rfl hfl λh' fl up=>?_
 obtain ⟨st,hen,hfr,oe2,vs2,T2,oT2,ts2,he2,hc2,hd2,h12,hnT2,hTe2,hT2,hdT2,h32⟩:=fl
 have upF:∀b o,s'.heap.get? b=some o->b∈bR (envOfC qual scope s.heap.objs.size f cd::outer)->∃sl,h'.get? b=some {o with slots:=sl}:=λb o r hb=>by
  obtain ⟨_,o2,r2,nf⟩:=hff.mem hb
  rw [r] at r2;cases r2
  exact up b o r nf
 obtain ⟨u2,ok2⟩:=mv un hok fly hfs st upF
 have base0:Un (bR outer) [] H H1 s.heap s1.heap:=I1.base
 have un2:Un (bR outer) [] H H' s.heap h':=by
  refine Un.shrink ((base0.mono (fs':=bR (envOfC qual scope s.heap.objs.size f cd::outer)) (λb z=>?_) λ_ z=>z).trans u2) λb o r z=>?_
  ·show b∈(envOfC qual scope s.heap.objs.size f cd::outer).filterMap (·.frame)
   rw [List.filterMap_cons]
   exact List.mem_cons_of_mem _ z
  ·have z':b∈(envOfC qual scope s.heap.objs.size f cd::outer).filterMap (·.frame):=z
   rw [List.filterMap_cons] at z'
   rcases List.mem_cons.mp z' with y | y
   ·have:=Heap.lt_size r
    rw [y] at this
    exact absurd this (Nat.lt_irrefl _)
   ·exact y
 -- the new trace was not there
 have tc:T2=T∨s'.heap.get? T2=none:=by
  cases r:s'.heap.get? T2 with
  | none=>exact .inr rfl
  | some o=>
    left
    by_cases z:T2∈e::T::bR (envOfC qual scope s.heap.objs.size f cd::outer)
    ·rcases List.mem_cons.mp z with z | z
     ·exact absurd z hTe2
     ·rcases List.mem_cons.mp z with z | z
      ·exact z
      ·exfalso
       obtain ⟨_,o2,r2,nf⟩:=hff.mem z
       rw [r] at r2;cases r2
       obtain ⟨sl,r3⟩:=upF T2 o r z
       rw [hT2] at r3;cases r3
       exact nf ts2 hdT2
    ·rw [PySem.W.hideAll_get _ r z] at hnT2;cases hnT2
 have nT2:s.heap.get? T2=none:=by
  rcases tc with z | z
  ·rw [z];exact dH base0 fly.nT
  ·exact dH base0 (dH un z)
 have fT2:H' T2=none:=by
  rcases tc with z | z
  ·rw [z];exact fly.fT
  ·exact bY.none_of hok z
 exact ⟨e,T2,cls,H',rfl,ho.trans I1.os,bare,un2,ok2,⟨⟨oe2,vs2,oT2,ts2,a0,he2,hc2,hd2,h12,hTe2,hT2,hdT2,h32⟩,dH base0 fly.ne,nT2,fly.fe,fT2⟩,q⟩
section
variable {X:Cx}{Γ Γ1:Ga}{H0 R0:Hp}
def RX (X:Cx)(H0 R0:Hp)(e:Expr)(Γ:Ga):Prop:=∀(σ:St) (H R:Hp),av X.K σ H0 R0 H R Γ->∀Q:VK,cQ X e σ H Q
theorem nM {e:Expr}{pos:Pos}{rest:List Stmt}(h:RX X H0 R0 e Γ)(hsw:swapsWith e none pos.line X.env=pure false:=by rfl):RS X H0 R0 (.Expr e pos::rest) Γ:=λσ H R E D=>
 uj (l9 yn eM) (sS (eC aN hsw) (h σ H R E _))
theorem rh {c:Expr}{a rest:List Stmt}{pos:Pos}{k:Bool}(hc:TV X.cH c Γ k Γ1)(h1:k=true->RS X H0 R0 a Γ1)(h2:k=false->RS X H0 R0 rest Γ1):RS X H0 R0 (.If c a [] pos::rest) Γ:=by
 cases k with
 | true=>exact zT hc (h1 rfl)
 | false=>exact kd (N1:=λΓ'=>Γ'=Γ1) (aD hc (λh=>absurd h (by decide)) (λ_=>aG rfl)) λΓ' e=>by subst e;exact h2 rfl
end
section
variable {P:Program}{w:World}{K:PySem.W.Frag}{mg:Str->Option Value}{base:Heap}{N:List Str}{qual:Str}{scope:Scope}{f:Addr}{cd:Value}{A:Around}{outer:List Env}{s:Shared}{H R:Hp}{E:XK}{Γ Γ1:Ga}
theorem m4 {S:jA}{x:Str}{k:Nat}{e:Expr}{es:List Expr}{p pos:Pos}{ps:List Pk}{cls:Value}(C:dO P w K mg base x k (fY S K))(hr:bj k (A.deeper (envOfC qual scope s.heap.objs.size f cd)))(ha:HA (cf (d9 P w) P w K mg base N qual scope f cd A outer s H E).cH (e::es) Γ ps Γ1)(hS:S K ps (.exc cls))(q:∀H' R',Ext H R H' R'->E cls none H')
 (hg:Gl (cf (d9 P w) P w K mg base N qual scope f cd A outer s H E) x:=by rfl) (hdb:(x==("__debug__":Str))=false:=by decide) (he:starEach (e::es) (cf (d9 P w) P w K mg base N qual scope f cd A outer s H E).env=(false,eval e (cf (d9 P w) P w K mg base N qual scope f cd A outer s H E).env)::starEach es (cf (d9 P w) P w K mg base N qual scope f cd A outer s H E).env:=by rfl)
 (hpl:(backTo pos (starEach es (cf (d9 P w) P w K mg base N qual scope f cd A outer s H E).env)).any (·.1)=false:=by rfl):RX (cf (d9 P w) P w K mg base N qual scope f cd A outer s H E) H R (.Call (.Name x p) (e::es) [] pos) Γ:=λσ H1 R1 EO Q pins s1 I=>by
 exact jc (X:=cf (d9 P w) P w K mg base N qual scope f cd A outer s H E) C hr ha hS EO I (λs2 H2 ea T H' R' s' I2 ho bare un hok fly E' sR=>mU I2 ho bare un hok fly (q H' R' E'.ext)) hg hdb he hpl
theorem lF {S:jA}{x qual:Str}{st:Stmt}{f:Addr}{fd:FuncData}{N ps:List Str}{k:Nat}(F:bX K x qual st f fd)(Sc:aU N ps (aq st))(hm:mg x=some (.ref f))(hb:Binds K fd ps [])(len:∀qs o,S K qs o->qs.length=ps.length)(hno:∀qs T,¬S K qs (.ret T))
 (hexc:∀(cdv:Value) (A:Around) (outer:List Env) (s:Shared) (H R:Hp) (E:XK) (qs:List Pk) (c:Value),bj k (A.deeper (envOfC qual (aq st) s.heap.objs.size f cdv))->S K qs (.exc c)->(∀H' R',Ext H R H' R'->E c none H')->
  RS (cf (d9 P w) P w K mg base N qual (aq st) f cdv A outer s H E) H R (bT st) (dM qs N.length)):dO P w K mg base x (k + 1) (fY S K):=
 xT F Sc hm hb len (λ_ _ _ _ _ _ qs T _ hS=>absurd hS (hno qs T)) hexc
end
end Fc
namespace Fc
open PySem PySem.Spec PySem.W PySem.Calls L2
open PyProof.Rows hiding St
section
variable {X:Cx}{Γ Γ1:Ga}{ea D:Addr}{oe:Obj}{pins:List (Addr×Obj)}{σ:St}{H:Hp}{s:Shared}
end
def cY:Rep Str:=⟨λ_ _ v x=>v= .str x,λ_ h=>h⟩
theorem aJ {X:Cx}{Γ:Ga}{x:Str}{j:Nat}{pos:Pos}:EV X (.Constant (.str x) j pos) Γ cY x Γ:=λ_ _ _ _ _ E _ q=>eS jy (q _ _ _ E (aw.refl _) rfl)
end Fc
namespace Fc
open PySem PySem.Spec L2
open PyProof.Rows hiding St
inductive PV
 | non
 | bl (b:Bool)
 | int (i:Int)
 | str (x:Str)
 | tup (xs:List PV)
 | lst (xs:List PV)
mutual
inductive cb (H:Hp):V->PV->Prop
 | non:cb H .non .non
 | bl (b:Bool):cb H (.bl b) (.bl b)
 | int (i:Int):cb H (.int i) (.int i)
 | str (x:Str):cb H (.str x) (.str x)
 | tup {a:Addr} {vs:List V} {xs:List PV}:H a=some (.tup vs)->bE H vs xs->cb H (.ref a) (.tup xs)
 | lst {a:Addr} {vs:List V} {xs:List PV}:H a=some (.lst vs)->bE H vs xs->xs.length<=sizeLine->cb H (.ref a) (.lst xs)
inductive bE (H:Hp):List V->List PV->Prop
 | nil:bE H [] []
 | cons {v:V} {x:PV} {vs:List V} {xs:List PV}:cb H v x->bE H vs xs->bE H (v::vs) (x::xs)
end
mutual
theorem cb.mono {H H':Hp}(s:aw H H'):∀{v:V} {x:PV},cb H v x->cb H' v x
 | _,_,.non=>.non
 | _,_,.bl b=>.bl b
 | _,_,.int i=>.int i
 | _,_,.str x=>.str x
 | _,_,.tup h t=>.tup (s _ _ h) (bE.mono s t)
 | _,_,.lst h t z=>.lst (s _ _ h) (bE.mono s t) z
theorem bE.mono {H H':Hp}(s:aw H H'):∀{vs:List V} {xs:List PV},bE H vs xs->bE H' vs xs
 | _,_,.nil=>.nil
 | _,_,.cons h t=>.cons (cb.mono s h) (bE.mono s t)
end
theorem bE.pair {H:Hp}:∀{vs:List V} {xs:List PV},bE H vs xs->PySem.Paired (cb H) vs xs
 | _,_,.nil=>.nil
 | _,_,.cons h t=>.cons h (bE.pair t)
theorem bE.of {H:Hp}:∀{vs:List V} {xs:List PV},PySem.Paired (cb H) vs xs->bE H vs xs
 | _,_,.nil=>.nil
 | _,_,.cons h t=>.cons h (bE.of t)
def aj:Rep PV:=⟨λ_ H v x=>cb H v x,λs h=>h.mono s⟩
section
variable {X:Cx}{Γ Γ1 Γ2 Γ3:Ga}{α β γ δ:Type}{N:Ga->Prop}{T:RT}
variable {e:Expr}{pos:Pos}{a:Expr}{x:Str}{K:PySem.W.Frag}
theorem EV.re {r:Rep α}{r':Rep β}{x:α}{y:β}(h:EV X e Γ r x Γ1)(f:∀(K:PySem.W.Frag) (R:Hp) (v:V),r.R K R v x->r'.R K R v y):EV X e Γ r' y Γ1:=λσ H0 R0 H R E Q q=>h σ H0 R0 H R E Q λv H' R' E' s' e'=>q v H' R' E' s' (f _ _ v e')
theorem EV.pI {n:Int}(h:EV X e Γ ag n Γ1):EV X e Γ aj (.int n) Γ1:=h.re λK R v e=>by cases e;exact .int n
theorem EV.pS (h:EV X e Γ cY x Γ1):EV X e Γ aj (.str x) Γ1:=h.re λK R v e=>by cases e;exact .str x
theorem EV.pL {xs:List PV}(h:EV X e Γ (ak aj) xs Γ1):EV X e Γ aj (.lst xs) Γ1:=h.re λK R v ⟨a,vs,e,q,p,z⟩=>by subst e;exact .lst q (.of p) z
theorem nj {K:PySem.W.Frag}{R:Hp}:∀{vs:List V} {xs:List Int},PySem.Paired (ag.R K R) vs xs->bE R vs (xs.map PV.int)
 | _,_,.nil=>.nil
 | _,_,.cons h t=>.cons (by cases h;exact .int _) (nj t)
theorem EV.Bb {xs:List Int}(h:EV X e Γ (ak ag) xs Γ1):EV X e Γ aj (.lst (xs.map PV.int)) Γ1:=h.re λK R v ⟨a,vs,e,q,p,z⟩=>by subst e;exact .lst q (nj p) (by rw [List.length_map];exact z)
theorem EV.iP {n:Int}(h:EV X e Γ aj (.int n) Γ1):EV X e Γ ag n Γ1:=h.re λK R v e=>by cases e;rfl
theorem EV.sP (h:EV X e Γ aj (.str x) Γ1):EV X e Γ cY x Γ1:=h.re λK R v e=>by cases e;rfl
theorem EV.lP {xs:List PV}(h:EV X e Γ aj (.lst xs) Γ1):EV X e Γ (ak aj) xs Γ1:=h.re λK R v e=>by cases e with | lst q p z=>exact ⟨_,_,rfl,q,p.pair,z⟩
theorem kF {R:Hp}:∀{vs:List V} {xs:List Int},bE R vs (xs.map PV.int)->∀K:PySem.W.Frag,PySem.Paired (ag.R K R) vs xs
 | _,[],.nil,_=>.nil
 | _,_::_,.cons h t,K=>.cons (by cases h;rfl) (kF t K)
theorem EV.cD {xs:List Int}(h:EV X e Γ aj (.lst (xs.map PV.int)) Γ1):EV X e Γ (ak ag) xs Γ1:=h.re λK R v e=>by
 cases e with | lst q p z=>exact ⟨_,_,rfl,q,kF p K,by rw [List.length_map] at z;exact z⟩
theorem aR {es:List Expr}{k:Nat}{xs:List PV}(h:EA X es Γ aj xs Γ1)(hz:xs.length<=sizeLine:=by show _<=sizeLine;decide):EV X (.Tuple es k pos) Γ aj (.tup xs) Γ1:=by
 intro σ H0 R0 H R E Q q
 refine eS (fF ie) (h σ H0 R0 H R E _ λvs H1 R1 E1 s1 p1=>⟨by rw [p1.length];exact hz,λp hp=>?_⟩)
 have x:=Ext.fresh E1.sub hp (.tup vs)
 exact q _ _ _ (E1.grow x) (s1.trans x.r) (.tup aF (.of (Paired.map (λ_ _=>aj.mono x.r) p1)))
theorem az {b:Expr}{xs:List PV}{i:Int}{y:PV}(ha:EV X a Γ aj (.tup xs) Γ1)(hb:EV X b Γ1 ag i Γ2)(h:cM xs i=some y)(hs:gy b:=by exact λ_ _=>rfl):EV X (.Subscript a b pos) Γ aj y Γ2:=by
 intro σ H0 R0 H R E Q q
 refine eS (iJ mD aN aN hs) (ha σ H0 R0 H R E _ λv H1 R1 E1 s1 e1=>hb σ H0 R0 H1 R1 E1 _ λu H2 R2 E2 s2 e2=>?_)
 cases aj.mono (K:=X.K) s2 e1 with
 | tup ha pp=>
   obtain ⟨w,e3,e4⟩:=gC pp.pair h
   exact ⟨_,_,i,w,rfl,e2,bL.of (E2.sub _ _ ha),e3,q w H2 R2 E2 (s1.trans s2) e4⟩
theorem kE {p:Pos}{xs:List PV}(hm:X.mg "len"=none)(ha:EV X a Γ aj (.tup xs) Γ1)(hs:starEach [a] X.env=[(false,eval a X.env)]:=by rfl)(hg:Gl X "len":=by rfl):EV X (.Call (.Name "len" p) [a] [] pos) Γ ag (xs.length:Int) Γ1:=by
 intro σ H0 R0 H R E Q q
 refine eS (cG dA hg hm PySem.boot_len (aH aN br hs) (by decide) (by decide) hs) (ha σ H0 R0 H R E _ λv H1 R1 E1 s1 e1=>?_)
 cases e1 with
 | tup hp pp=>
   refine ⟨_,_,rfl,.inr (bL.of (E1.sub _ _ hp)),?_⟩
   rw [pp.pair.length]
   exact q _ H1 R1 E1 s1 rfl
theorem j5 {xs:List PV}(R H:Hp)(v:V)(s:aw R H)(h:aj.R K R v (.tup xs)):dk K H v (.type "tuple"):=by cases h with | tup e _=>exact .tup (s _ _ e)
theorem nP {xs:List PV}(R H:Hp)(v:V)(s:aw R H)(h:aj.R K R v (.lst xs)):dk K H v (.type "list"):=by cases h with | lst e _ _=>exact .lst (s _ _ e)
theorem ty_str (R H:Hp)(v:V)(_:aw R H)(h:cY.R K R v x):dk K H v (.type "str"):=by cases h;exact .str _
theorem qc {H:Hp}{vs:List V}{xs:List PV}(p:PySem.Paired (cb H) vs xs)(l h:Option Int):PySem.Paired (cb H) (gf vs l h) (cut xs l h):=by
 unfold gf cut
 rw [p.length]
 exact eN _ (gg _ p)
theorem eX {lo hi:Option Expr}{p2:Pos}{xs:List PV}{l h:Option Int}(ha:EV X a Γ aj (.tup xs) Γ)(hl:OV X lo Γ l)(hh:OV X hi Γ h)(hw:¬(HT.sIx xs.length 0 l=0/\HT.sIx xs.length xs.length h=xs.length)):EV X (.Subscript a (.Slice lo hi none p2) pos) Γ aj (.tup (cut xs l h)) Γ:=by
 intro σ H0 R0 H R E Q q
 obtain ⟨tl,pl,kl⟩:=hl
 obtain ⟨th,ph,kh⟩:=hh
 refine eS (mr we aN pl ph) (ha σ H0 R0 H R E _ λv H1 R1 E1 s1 e1=>kl σ H0 R0 H1 R1 E1 _ λH2 R2 E2 s2=>kh σ H0 R0 H2 R2 E2 _ λH3 R3 E3 s3=>?_)
 cases aj.mono (K:=X.K) (s2.trans s3) e1 with
 | @tup a' vs' _ hp pp=>
   refine ⟨_,_,rfl,bL.of (E3.sub _ _ hp),by rw [pp.pair.length];exact hw,λd hd=>?_⟩
   have x:=Ext.fresh E3.sub hd (.tup (gf vs' l h))
   exact q _ _ _ (E3.grow x) (s1.trans (s2.trans (s3.trans x.r))) (.tup aF (.of (Paired.map (λ_ _=>aj.mono (K:=X.K) x.r) (qc pp.pair l h))))
theorem eJ {b:Expr}{xs ys:List PV}(ha:EV X a Γ aj (.tup xs) Γ1)(hb:EV X b Γ1 aj (.tup ys) Γ2)(hx:xs≠[]:=by simp)(hy:ys≠[]:=by simp)(hz:xs.length + ys.length<=sizeLine:=by show _<=sizeLine;decide):EV X (.BinOp a .Add b pos) Γ aj (.tup (xs++ys)) Γ2:=by
 intro σ H0 R0 H R E Q q
 refine eS (lz vq aN aN) (ha σ H0 R0 H R E _ λv H1 R1 E1 s1 e1=>hb σ H0 R0 H1 R1 E1 _ λu H2 R2 E2 s2 e2=>?_)
 cases aj.mono (K:=X.K) s2 e1 with
 | @tup a1 v1 _ hp pp=>
   cases e2 with
   | @tup a2 v2 _ hp2 pp2=>
     have l1:=pp.pair.length
     have l2:=pp2.pair.length
     refine ⟨_,_,_,_,rfl,rfl,bL.of (E2.sub _ _ hp),bL.of (E2.sub _ _ hp2),λz=>hx ?_,by rw [l1,l2];exact hz,λz=>absurd ?_ hy,λ_ d hd=>?_⟩
     ·rw [z] at l1;exact List.length_eq_zero_iff.mp l1.symm
     ·rw [z] at l2;exact List.length_eq_zero_iff.mp l2.symm
     ·have x:=Ext.fresh E2.sub hd (.tup (v1++v2))
      exact q _ _ _ (E2.grow x) (s1.trans (s2.trans x.r)) (.tup aF (.of (Paired.map (λ_ _=>aj.mono (K:=X.K) x.r) (bN pp.pair pp2.pair))))
mutual
def PV.deep:PV->Nat
 | .tup xs=>PV.ei xs + 1
 | .lst xs=>PV.ei xs + 1
 | _=>0
def PV.ei:List PV->Nat
 | []=>0
 | x::xs=>max (PV.deep x) (PV.ei xs)
end
theorem fw:∀{xs:List PV} {x:PV},x∈xs->x.deep<=PV.ei xs
 | y::ys,x,h=>by
   rw [PV.ei]
   rcases List.mem_cons.mp h with rfl | h
   ·omega
   ·have:=fw h;omega
theorem all_true {n:Nat}:((List.range n).all λ_=>true)=true:=by simp
section
variable {pins:List (Addr×Obj)}{σ:St}{H R:Hp}{s:Shared}
theorem jz (I:Inv X pins σ H s)(sub:aw R H){xs:List PV}{A:Around}(ih:∀x∈xs,∀{v u:V} {vv uu:Value},RelV v vv->RelV u uu->cb R v x->cb R u x->SeqAt.EqAt A s vv uu true){vs ws:List V}{us us':List Value}(hv:Vals vs us)(hw:Vals ws us')(p1:PySem.Paired (cb R) vs xs)(p2:PySem.Paired (cb R) ws xs):
 ∀(j:Nat) (h1:j < us.toArray.size) (h2:j < us'.toArray.size),SeqAt.EqAt A s us.toArray[j] us'.toArray[j] true:=by
 intro j h1 h2
 have h1':j < us.length:=by simpa using h1
 have h2':j < us'.length:=by simpa using h2
 have hx:j < xs.length:=by rw [← p1.length,hv.length];exact h1'
 obtain ⟨v,e1,r1⟩:=cT p1 (List.getElem?_eq_getElem hx)
 obtain ⟨u,e2,r2⟩:=cT p2 (List.getElem?_eq_getElem hx)
 obtain ⟨vv,e3,r3⟩:=hv.get e1
 obtain ⟨uu,e4,r4⟩:=hw.get e2
 rw [List.getElem?_eq_getElem h1'] at e3
 rw [List.getElem?_eq_getElem h2'] at e4
 simp only [List.getElem_toArray]
 rw [Option.some.inj e3,Option.some.inj e4]
 exact ih _ (List.getElem_mem hx) r3 r4 r1 r2
theorem uF (I:Inv X pins σ H s)(sub:aw R H):∀(n:Nat) {x:PV},x.deep<=n->∀{A:Around},A.units + n < cLine->∀{v u:V} {vv uu:Value},RelV v vv->RelV u uu->cb R v x->cb R u x->SeqAt.EqAt A s vv uu true:=by
 intro n
 induction n using Nat.strongRecOn with
 | _ n ih=>
   intro x hd A hu v u vv uu rv ru h1 h2
   cases h1 with
   | non=>cases h2;cases rv;cases ru;exact SeqAt.EqAt.same _
   | bl b=>cases h2;cases rv;cases ru;have:=SeqAt.EqAt.bool_bool (A:=A) (s:=s) b b;rwa [beq_self_eq_true] at this
   | int i=>cases h2;obtain ⟨t,rfl⟩:=rv;obtain ⟨t',rfl⟩:=ru;exact λprog w E Q q=>wpAny_eqBool_int (by simpa using q)
   | str z=>cases h2;obtain ⟨t,rfl⟩:=rv;obtain ⟨t',rfl⟩:=ru;have:=SeqAt.EqAt.str_str (A:=A) (s:=s) z t z t';rwa [beq_self_eq_true] at this
   | @tup a1 v1 xs e1 p1=>
     cases h2 with
     | @tup a2 v2 _ e2 p2=>
       cases rv;cases ru
       rw [PV.deep] at hd
       by_cases hab:a1=a2
       ·subst hab;exact SeqAt.EqAt.same _
       ·have l12:v1.length=v2.length:=p1.pair.length.trans p2.pair.length.symm
        have key:=(pV (A:=A) (k:=λ_=>true) I sub e1 e2 l12 (by omega) λus us' hv hw=>jz I sub (λx hx v u vv uu rv ru q1 q2=>ih (n - 1) (by omega) (x:=x) (by have:=fw hx;omega) (A:=A.in1) (by rw [in1_units];omega) rv ru q1 q2) hv hw p1.pair p2.pair).1
        rw [all_true] at key
        exact SeqAt.EqAt.of_refs hab key
   | @lst a1 v1 xs e1 p1 z1=>
     cases h2 with
     | @lst a2 v2 _ e2 p2 z2=>
       cases rv;cases ru
       rw [PV.deep] at hd
       by_cases hab:a1=a2
       ·subst hab;exact SeqAt.EqAt.same _
       ·obtain ⟨us,hv,pl,_⟩:=I.list (bz.of (sub _ _ e1))
        obtain ⟨us',hw,pl',_⟩:=I.list (bz.of (sub _ _ e2))
        have lx:us.toArray.size=us'.toArray.size:=by rw [List.size_toArray,List.size_toArray,← hv.length,← hw.length,p1.pair.length,p2.pair.length]
        have key:=SeqAt.RcAt.lists (A:=A) (e:=λ_=>true) pl.isList pl'.isList lx (by omega) (jz I sub (λx hx v u vv uu rv ru q1 q2=>ih (n - 1) (by omega) (x:=x) (by have:=fw hx;omega) (A:=A.in1) (by rw [in1_units];omega) rv ru q1 q2) hv hw p1.pair p2.pair)
        rw [all_true] at key
        exact SeqAt.EqAt.of_refs hab key
theorem tU (I:Inv X pins σ H s)(sub:aw R H){x:PV}(hr:(∃xs,x= .tup xs)∨∃xs,x= .lst xs){A:Around}(hu:A.units + x.deep < cLine){v u:V}{vv uu:Value}(rv:RelV v vv)(ru:RelV u uu)(h1:cb R v x)(h2:cb R u x):SeqAt.RcAt A s vv uu true/\SeqAt.RcNeAt A s vv uu false:=by
 rcases hr with ⟨xs,rfl⟩ | ⟨xs,rfl⟩
 ·cases h1 with
  | @tup a1 v1 _ e1 p1=>
    cases h2 with
    | @tup a2 v2 _ e2 p2=>
      cases rv;cases ru
      rw [PV.deep] at hu
      have l12:v1.length=v2.length:=p1.pair.length.trans p2.pair.length.symm
      have key:=pV (A:=A) (k:=λ_=>true) I sub e1 e2 l12 (by omega) λus us' hv hw=>jz I sub (λx hx v u vv uu rv ru q1 q2=>uF I sub (PV.ei xs) (x:=x) (fw hx) (A:=A.in1) (by rw [in1_units];omega) rv ru q1 q2) hv hw p1.pair p2.pair
      rw [all_true] at key
      exact key
 ·cases h1 with
  | @lst a1 v1 _ e1 p1 z1=>
    cases h2 with
    | @lst a2 v2 _ e2 p2 z2=>
      cases rv;cases ru
      rw [PV.deep] at hu
      obtain ⟨us,hv,pl,_⟩:=I.list (bz.of (sub _ _ e1))
      obtain ⟨us',hw,pl',_⟩:=I.list (bz.of (sub _ _ e2))
      have lx:us.toArray.size=us'.toArray.size:=by rw [List.size_toArray,List.size_toArray,← hv.length,← hw.length,p1.pair.length,p2.pair.length]
      have he:=jz (A:=A.in1) I sub (λx hx v u vv uu rv ru q1 q2=>uF I sub (PV.ei xs) (x:=x) (fw hx) (A:=A.in1) (by rw [in1_units];omega) rv ru q1 q2) hv hw p1.pair p2.pair
      have k1:=SeqAt.RcAt.lists (A:=A) (e:=λ_=>true) pl.isList pl'.isList lx (by omega) he
      have k2:=SeqAt.RcNeAt.lists (A:=A) (e:=λ_=>true) pl.isList pl'.isList lx (by omega) he
      rw [all_true] at k1 k2
      exact ⟨k1,k2⟩
end
theorem mj {x:PV}(hr:(∃xs,x= .tup xs)∨∃xs,x= .lst xs)(hu:X.A.units + x.deep < cLine):eQ X .Eq aj aj x x true:=
 ⟨λv u H Q=>∃R,aw R H/\cb R v x/\cb R u x/\Q (.bl true) H,λpins s σ H a b v u Q I rx ry ⟨R,sub,h1,h2,q⟩=>(tU I sub hr hu rx ry h1 h2).1 _ _ _ _ ⟨.bl _,H,I,rfl,q⟩,λR H v u Q s h1 h2 q=>⟨R,s,h1,h2,q⟩⟩
theorem jJ {x:PV}(hr:(∃xs,x= .tup xs)∨∃xs,x= .lst xs)(hu:X.A.units + x.deep < cLine):eQ X .NotEq aj aj x x false:=
 ⟨λv u H Q=>∃R,aw R H/\cb R v x/\cb R u x/\Q (.bl false) H,λpins s σ H a b v u Q I rx ry ⟨R,sub,h1,h2,q⟩=>(tU I sub hr hu rx ry h1 h2).2 _ _ _ _ ⟨.bl _,H,I,rfl,q⟩,λR H v u Q s h1 h2 q=>⟨R,s,h1,h2,q⟩⟩
end
section
variable {X:Cx}{Γ Γ1 Γ2 Γ3:Ga}{α β γ δ:Type}{N:Ga->Prop}{T:RT}
end
section
variable {X:Cx}{Γ Γ1 Γ2 Γ3:Ga}{α β γ δ:Type}{N:Ga->Prop}{T:RT}
end
end Fc
namespace K1
open PySem L2 Fc
open PySem.Spec hiding Row
open PyProof.Rows hiding St
open PySem.Builtin.Int (intBits)
theorem hX {x y:Int}(h0:0<=x)(h1:x < 4294967296):IntMulOk x y:=.of_left (intBits_le_64 (by omega) (by omega))
theorem kD {n:Nat}{k:Int}:k∈ups 0 n↔0<=k/\k < n:=by
 unfold ups
 rw [List.mem_map]
 constructor
 ·rintro ⟨j,hj,rfl⟩
  have:=List.mem_range.mp hj
  omega
 ·rintro ⟨h0,h1⟩
  exact ⟨k.toNat,List.mem_range.mpr (by omega),by omega⟩
theorem fX {α:Type}{xs:List α}{i:Int}(d:α)(h0:0<=i)(h1:i < xs.length):cM xs i=some (xs.getD i.toNat d):=by
 rw [lO h0 h1,List.getElem?_eq_getElem (by omega),List.getD_eq_getElem?_getD,List.getElem?_eq_getElem (by omega)];rfl
theorem sf {α:Type}{xs:List α}{y:α}(h:xs[xs.length - 1]?=some y):cM xs (-1)=some y:=by
 have hl:0 < xs.length:=by
  have:=(List.getElem?_eq_some_iff.mp h).1
  omega
 unfold cM gT
 rw [if_neg (by omega),if_pos (by omega)]
 show xs[((-1:Int) + (xs.length:Int)).toNat]?=_
 rw [show ((-1:Int) + (xs.length:Int)).toNat=xs.length - 1 by omega];exact h
end K1
namespace Fc
open PySem PySem.Spec L2
open PyProof.Rows hiding St
section
variable {X:Cx}{Γ Γ1 Γ2 Γ3:Ga}{α β γ δ:Type}{N:Ga->Prop}{T:RT}
theorem iV (xs:Array (Int×Tok)):∀n:Nat,preSum (numAt xs) n=((xs.toList.map (·.1)).take n).sum
 | 0=>rfl
 | n + 1=>by
   have e:preSum (numAt xs) (n + 1)=preSum (numAt xs) n + numAt xs n:=rfl
   rw [e,iV xs n,PySem.sum_take_succ,numAt_eq]
theorem qP (hc:X.calm=true):dg X (.builtin "sum") (λxs H Q=>∃(p:Addr) (ns:List Int),xs=[.ref p]/\bz X.K H p (ns.map V.int)/\Q (.int ns.sum) H):=by
 intro pins s σ H xs us Q I r h
 obtain ⟨p,ns,rfl,hq,q⟩:=h
 obtain ⟨u,rfl,rx⟩:=vals1 r
 cases rx
 obtain ⟨its,r',pl,hz⟩:=I.list hq
 have hi:=intsAre_of r'
 have hl:=pl.isList
 obtain ⟨xs,e⟩:=hi.allInts.items
 have hns:ns=xs.toList.map (·.1):=by rw [← hi.numsOf,← nums_intItems,← e]
 rw [e] at hl
 refine call_sum_walkG (iter_intList hl λs₂ e st hfp hlI=>?_)
 subst e
 refine ⟨_,_,_,_,_,_,numAt xs,rfl,Walks.list (A:=X.A.in1) (I.ok.hd hc) _ p hlI (intItems xs),st,hfp,(λ_ _=>intItems_at),λh' tk t' hk=>?_⟩
 have es:preSum (numAt xs) (intItems xs).size=ns.sum:=by
  rw [iV,hns,List.take_of_length_le]
  simp [intItems]
 rw [es]
 exact ⟨.int _,H,I.kept (old_kept hk),⟨t',rfl⟩,q⟩
theorem xQ {a:Expr}{p pos:Pos}{ns:List Int}(hm:X.mg "sum"=none)(ha:EV X a Γ (ak ag) ns Γ1)(hs:starEach [a] X.env=[(false,eval a X.env)]:=by rfl)(hc:X.calm=true:=by rfl)(hg:Gl X "sum":=by rfl):EV X (.Call (.Name "sum" p) [a] [] pos) Γ ag ns.sum Γ1:=
 uw (qP hc) hm PyProof.Rows.boot_sum ha (λR H v Q s ⟨p,vs,e,hp,pp,_⟩ q=>⟨p,ns,by rw [e],by rw [← fo pp];exact bz.of (s _ _ hp),q _ rfl⟩) hs hg
theorem av.BL {K:PySem.W.Frag}{σ:St}{H0 R0 H R H' R':Hp}{Γf:Ga}(E:av K σ H0 R0 H R Γ)(E':av K σ H H H' R' Γf):av K σ H0 R0 H' R Γ:=
 E.grow ⟨E'.ext.h,aw.refl _,E.sub.trans E'.ext.h,λ_ _=>rfl⟩
theorem TV.frz {Γf:Ga}(hF:∀(σ:St) (H0 R0 H R:Hp),av X.K σ H0 R0 H R Γ->av X.K σ H H H H Γf){e:Expr}{b:Bool}(h:TV X e Γf b Γf):TV X e Γ b Γ:=λσ H0 R0 H R E Q q=>
 h σ H H H H (hF σ H0 R0 H R E) Q λH' R' E' s'=>q H' R (E.BL E') (aw.refl _)
def eY:Rep Unit:=⟨λ_ _ v _=>v= .non,λ_ h=>h⟩
theorem fm {S:cI}{x:Str}{k:Nat}{e:Expr}{es:List Expr}{p p2 pos:Pos}{ps:List Pk}{Pd:Unit->Prop}(C:aV X.prog X.w X.K X.mg X.base x k (bg S X.K))(hr:bj k X.A)(ha:HA X (e::es) Γ ps Γ1)(hS:S X.K ps (dc X.K eY Pd))(h:N Γ1)
 (hg:Gl X x:=by rfl) (hdb:(x==("__debug__":Str))=false:=by decide) (he:starEach (e::es) X.env=(false,eval e X.env)::starEach es X.env:=by rfl) (hpl:(backTo p2 (starEach es X.env)).any (·.1)=false:=by rfl)
 (hsw:swapsWith (.Call (.Name x p) (e::es) [] p2) none pos.line X.env=pure false:=by rfl):W1 X (.Expr (.Call (.Name x p) (e::es) [] p2) pos) Γ N T:=λσ H0 R0 H R E D dn dr=>
 sS (eC aN hsw) (fL C hr ha hS E (λH1 R1 v H' R' E1 s1 xx t=>dn σ H' R' _ (E1.grow xx) (s1.trans xx.r) h) hg hdb he hpl)
end
section
variable {P:Program}{w:World}{K:PySem.W.Frag}{mg:Str->Option Value}{base:Heap}{α:Type}
theorem qm {S:cI}{x qual:Str}{st:Stmt}{f:Addr}{fd:FuncData}{N ps:List Str}{k:Nat}(F:bX K x qual st f fd)(Sc:aU N ps (aq st))(hm:mg x=some (.ref f))(hb:Binds K fd ps [])(len:∀qs T,S K qs T->qs.length=ps.length)
 (hbody:∀(cdv:Value) (A:Around) (outer:List Env) (s:Shared) (H:Hp) (E:XK) (qs:List Pk) (T:RT),bj k (A.deeper (envOfC qual (aq st) s.heap.objs.size f cdv))->S K qs T->(∀H0 H' R',T H0 .non H' R')/\
  WS (cf dJ P w K mg base N qual (aq st) f cdv A outer s H E).cH (bT st) (dM qs N.length) (λ_=>True) T):aV P w K mg base x (k + 1) (bg S K):=by
 refine ⟨f,fd,ps,?_,hm,F.kp,hb⟩
 refine F.ok Sc (λvs H Q E h=>?_) (λcdv A outer s H vs Q E hr h=>?_)
 ·obtain ⟨R,qs,T,_,p,hS,_⟩:=h
  rw [p.length];exact len qs T hS
 ·obtain ⟨R,qs,T,sR,p,hS,q⟩:=h
  have hl:qs.length<=N.length:=by
   rw [len qs T hS]
   have:=congrArg List.length Sc.pre
   rw [List.length_take] at this
   omega
  obtain ⟨h1,h2⟩:=hbody cdv A outer s H E qs T hr hS
  exact ⟨_,eM,h2 (L2.start N vs) H R H R (ee sR p hl) {nx:=λ_ H'=>Q .non H',rt:=Q} (λσ' H' R' Γ' E' _ _=>q .non H' R' E'.ext (h1 _ _ _)) λv H' R' xx t=>q v H' R' xx t⟩
end
section
variable {X:Cx}{Γ Γ1 Γ2 Γ3:Ga}{α β γ δ:Type}{N:Ga->Prop}{T:RT}
variable {pos:Pos}
theorem AE (i:Nat){x:Str}{r:Rep α}{xs:List α}(hΓ:Γ[i]?=some (.im (ak r) xs))(hN:X.N[i]?=some x:=by rfl)(hv:cL X.env.scope x:=by first | exact Or.inl rfl | exact Or.inr (Or.inl rfl) | exact Or.inr (Or.inr rfl))
 (hd:(x==("__debug__":Str))=false:=by decide) (hcd:(x==("__classdict__":Str))=false:=by decide)
 (he:∀whole,isTrue (.Name x pos) X.env whole=(do let v ← whole;standAt (Expr.Name x pos).pos;holding [v] (truthy v)):=by intro _;rfl):TV X (.Name x pos) Γ (!xs.isEmpty) Γ:=by
 intro σ H0 R0 H R E Q q
 obtain ⟨v,ea,a,vs,rfl,ha,pp,_⟩:=E.ent i _ hΓ
 refine tS (rQ (bM hN hv hd hcd) he) ⟨.ref a,at_of ea, !xs.isEmpty,.inl ⟨vs,bz.of (E.sub _ _ ha),?_⟩,q H R E (aw.refl _)⟩
 cases pp<;>rfl
theorem vo (i:Nat){x:Str}{p1:Pos}{r:Rep α}{xs:List α}{P:List α->Prop}(hΓ:Γ[i]?=some (.mu r xs))(hz:xs.length<=sizeLine)(h:P xs)(hN:X.N[i]?=some x:=by rfl)(hv:cL X.env.scope x:=by first | exact Or.inl rfl | exact Or.inr (Or.inl rfl) | exact Or.inr (Or.inr rfl))
 (hd:(x==("__debug__":Str))=false:=by decide) (hcd:(x==("__classdict__":Str))=false:=by decide):W1 X (.Return (some (.Name x p1)) pos) Γ N (wU X.K r P):=λσ H0 R0 H R E D dn dr=>by
 obtain ⟨a,vs,ea,ha,hR,pp⟩:=E.ent i _ hΓ
 exact sS (eA (bM hN hv hd hcd)) ⟨.ref a,at_of ea,dr _ H R E.ext ⟨a,vs,xs,rfl,E.new i _ a hΓ rfl ea,ha,hR,pp,hz,h⟩⟩
theorem dC {j:Nat}:EV X (.Constant .none j pos) Γ eY () Γ:=λ_ _ _ _ _ E _ q=>eS yI (q _ _ _ E (aw.refl _) rfl)
end
section
variable {X:Cx}{Γ Γ1 Γ2 Γ3:Ga}{α β γ δ:Type}{N:Ga->Prop}{T:RT}
end
section
variable {X:Cx}{Γ Γ1 Γ2 Γ3:Ga}{α β γ δ:Type}{N:Ga->Prop}{T:RT}
end
section
variable {X:Cx}{Γ Γ1 Γ2 Γ3:Ga}{α β γ δ:Type}{N:Ga->Prop}{T:RT}
def dQ (H:Hp)(l:List Addr):Hp:=λb=>if b∈l then none else H b
theorem iO {H:Hp}{l:List Addr}{b:Addr}(h:b∈l):dQ H l b=none:=if_pos h
theorem dy {H:Hp}{l:List Addr}{b:Addr}(h:b∉l):dQ H l b=H b:=if_neg h
theorem sT {H:Hp}{l:List Addr}:aw (dQ H l) H:=λb o q=>by
 by_cases h:b∈l
 ·rw [iO h] at q;cases q
 ·rwa [dy h] at q
theorem av.uA {K:PySem.W.Frag}{σ:St}{H0 R0 H R H' R':Hp}{i:Nat}{B B':kT}(E:av K σ H0 R0 H R Γ)(hΓ:Γ[i]?=some (.ob B))(x:Ext (dQ H B.fp) R H' R')(ho:(Ent.ob B').ok K H' R' (σ[i]?).join)(hfp:∀b∈B'.fp,b∈B.fp):av K σ H0 R0 H' R' (Γ.set i (.ob B')):=by
 have h0:∀b∈B.fp,H0 b=none:=λb hb=>E.nw i _ b hΓ hb
 have out:∀{b:Addr},H0 b≠none->b∉B.fp:=λh e=>h (h0 _ e)
 have apart:∀(j:Nat) (e:Ent),j≠i->Γ[j]?=some e->∀b∈e.fp (σ[j]?).join,b∉B.fp:=λj e hj qj b hb w=>hj (E.ds j i e _ b qj hΓ hb w)
 refine ⟨⟨λb o q=>?_,E.ext.r.trans x.r,x.s,λb hb=>?_⟩,λj e q=>?_,λj e b q w=>?_,λj k e e' b q q' w w'=>?_,by rw [List.length_set];exact E.len⟩
 ·exact x.h b o (by rw [dy (out (by rw [q];exact Option.some_ne_none _))];exact E.ext.h b o q)
 ·refine (x.old b ?_).trans (E.ext.old b hb)
  rw [dy (out hb)];exact aw.some E.ext.h hb
 ·rcases set_at q with ⟨rfl,rfl,_⟩ | ⟨hj,q1⟩
  ·exact ho
  ·have h1:=E.ent j e q1
   refine h1.loc (λb hb=>?_) x.r λb hb=>?_
   ·cases e2:H b with
    | none=>exact absurd e2 (Ent.dD h1 hb).1
    | some u=>exact x.h b u (by rw [dy (apart j e hj q1 b hb)];exact e2)
   ·exact (x.old b (by rw [dy (apart j e hj q1 b hb)];exact (Ent.dD h1 hb).1)).trans (Ent.dD h1 hb).2
 ·rcases set_at q with ⟨rfl,rfl,_⟩ | ⟨hj,q1⟩
  ·exact h0 b (hfp b w)
  ·exact E.nw j e b q1 w
 ·rcases set_at q with ⟨rfl,rfl,_⟩ | ⟨hj,q1⟩
  ·rcases set_at q' with ⟨rfl,rfl,_⟩ | ⟨hk,q1'⟩
   ·rfl
   ·exact absurd (hfp b w) (apart k e' hk q1' b w')
  ·rcases set_at q' with ⟨rfl,rfl,_⟩ | ⟨hk,q1'⟩
   ·exact absurd (hfp b w') (apart j e hj q1 b w)
   ·exact E.ds _ _ _ _ b q1 q1' w w'
variable {P:Program}{w:World}{K:PySem.W.Frag}{mg:Str->Option Value}{base:Heap}
end
section
variable {X:Cx}{Γ Γ1 Γ2 Γ3:Ga}{α β γ δ:Type}{N:Ga->Prop}{T:RT}
structure LK (P:Type):Type 1 where
 bx:List Addr->P->kT
 fp:∀l s,(bx l s).fp=l
 at_:∀{K H R v l s},(bx l s).R K H R v->∃a t,l=a::t/\v= .ref a
abbrev fV (R:Hp)(l:List Addr):Prop:=∀b∈l,R b=none
abbrev iD (P:Type):=PySem.W.Frag->P->List Pk->(P->RT)->Prop
def dI {P:Type}(B:LK P)(S:iD P)(K:PySem.W.Frag):Sp:=λvs H Q _=>∃R a l s vs' ps T,vs= .ref a::vs'/\aw R H/\fV R (a::l)/\(B.bx (a::l) s).R K H R (.ref a)/\fH K R vs' ps/\S K s ps T/\
 ∀v H' R' s',Ext (dQ H (a::l)) R H' R'->(B.bx (a::l) s').R K H' R' (.ref a)->fV R' (a::l)->T s' (dQ H (a::l)) v H' R'->Q v H'
theorem fR {P:Type}{B:LK P}{K:PySem.W.Frag}{H R:Hp}{a:Addr}{l:List Addr}{s:P}{o:Option V}(h:(Ent.ob (B.bx (a::l) s)).ok K H R o):o=some (.ref a)/\(B.bx (a::l) s).R K H R (.ref a)/\fV R (a::l):=by
 obtain ⟨⟨v,e,hv⟩,hR⟩:=h
 obtain ⟨a',t,el,ev⟩:=B.at_ hv
 cases el
 subst ev
 exact ⟨e,hv,λb hb=>hR b (by rw [B.fp];exact hb)⟩
theorem fD {P:Type}{B:LK P}{K:PySem.W.Frag}{H R:Hp}{a:Addr}{l:List Addr}{s:P}(h:(B.bx (a::l) s).R K H R (.ref a))(hR:fV R (a::l)):(Ent.ob (B.bx (a::l) s)).ok K H R (some (.ref a)):=
 ⟨⟨_,rfl,h⟩,λc hc=>hR c (by rw [B.fp] at hc;exact hc)⟩
theorem hV {P:Type}{B:LK P}{S:iD P}{x y:Str}{k:Nat}{es:List Expr}{p p1 pos:Pos}{ps:List Pk}{a:Addr}{l:List Addr}{s0 s:P}{TM:P->RT}{Q:VK}{σ:St}{H0 R0 H R:Hp}(i:Nat)(C:aV X.prog X.w X.K X.mg X.base x k (dI B S X.K))(hr:bj k X.A)(ha:HA X es Γ ps Γ1)(hΓ:Γ[i]?=some (.ob (B.bx (a::l) s0)))(hΓ1:Γ1[i]?=some (.ob (B.bx (a::l) s)))(hS:S X.K s ps TM)(E:av X.K σ H0 R0 H R Γ)
 (q:∀H1 R1 v H' R' s',av X.K σ H0 R0 H1 R1 Γ1->aw R R1->Ext (dQ H1 (a::l)) R1 H' R'->av X.K σ H0 R0 H' R' (Γ1.set i (.ob (B.bx (a::l) s')))->TM s' (dQ H1 (a::l)) v H' R'->Q v H')
 (hg:Gl X x) (hdb:(x==("__debug__":Str))=false) (he:starEach (.Name y p1::es) X.env=(false,eval (.Name y p1) X.env)::starEach es X.env) (hpl:(backTo pos (starEach es X.env)).any (·.1)=false)
 (hN:X.N[i]?=some y) (hv:cL X.env.scope y) (hd:(y==("__debug__":Str))=false) (hcd:(y==("__classdict__":Str))=false):cQ X (.Call (.Name x p) (.Name y p1::es) [] pos) σ H Q:=by
 obtain ⟨f,fd,pn,F,hm,hk,hb⟩:=C.ex
 obtain ⟨ea,_,_⟩:=fR (E.ent i _ hΓ)
 refine eS (iM F hr hg hm hk hb .nil gP (aH (bM hN hv hd hcd) ie he) hdb he hpl) ⟨.ref a,at_of ea,ha σ H0 R0 H R E _ λus H1 R1 E1 s1 p1=>?_⟩
 obtain ⟨ea1,hB,hR1⟩:=fR (E1.ent i _ hΓ1)
 refine ⟨R1,a,l,s,us,ps,TM,by rw [List.append_nil],E1.sub,hR1,hB,p1,hS,λv H' R' s' xx hB' hR' t=>q H1 R1 v H' R' s' E1 s1 xx ?_ t⟩
 refine E1.uA hΓ1 (by rw [B.fp];exact xx) (by rw [ea1];exact fD hB' hR') λc hc=>?_
 rw [B.fp] at hc ⊢;exact hc
theorem cZ {P:Type}{B:LK P}{S:iD P}{x y:Str}{k:Nat}{es:List Expr}{p p1 pos:Pos}{ps:List Pk}{a:Addr}{l:List Addr}{s0 s st:P}{rr:Rep β}{z:β}(i:Nat)(C:aV X.prog X.w X.K X.mg X.base x k (dI B S X.K))(hr:bj k X.A)(ha:HA X es Γ ps Γ1)(hΓ:Γ[i]?=some (.ob (B.bx (a::l) s0)))(hΓ1:Γ1[i]?=some (.ob (B.bx (a::l) s)))(hS:S X.K s ps (λs'=>dc X.K rr λw=>s'=st/\w=z))
 (hg:Gl X x:=by rfl) (hdb:(x==("__debug__":Str))=false:=by decide) (he:starEach (.Name y p1::es) X.env=(false,eval (.Name y p1) X.env)::starEach es X.env:=by rfl) (hpl:(backTo pos (starEach es X.env)).any (·.1)=false:=by rfl)
 (hN:X.N[i]?=some y:=by rfl) (hv:cL X.env.scope y:=by first | exact Or.inl rfl | exact Or.inr (Or.inl rfl) | exact Or.inr (Or.inr rfl)) (hd:(y==("__debug__":Str))=false:=by decide) (hcd:(y==("__classdict__":Str))=false:=by decide):
 EV X (.Call (.Name x p) (.Name y p1::es) [] pos) Γ rr z (Γ1.set i (.ob (B.bx (a::l) st))):=λσ H0 R0 H R E Q q=>
 hV i C hr ha hΓ hΓ1 hS E (λH1 R1 v H' R' s' _ s1 xx E' t=>by
  obtain ⟨w,e1,rfl,rfl⟩:=t
  exact q v H' R' E' (s1.trans xx.r) e1) hg hdb he hpl hN hv hd hcd
def AR (K:PySem.W.Frag){P:Type}(B:LK P)(l:List Addr)(T:P->RT):RT:=λH0 v H' R'=>∃s' a t,l=a::t/\(B.bx l s').R K H' R' (.ref a)/\fV R' l/\T s' H0 v H' R'
theorem hJ (i:Nat){P:Type}{B:LK P}{e:Expr}{pos:Pos}{a:Addr}{l:List Addr}{s:P}{rr:Rep β}{y:β}{Pd:P->β->Prop}(he:EV X e Γ rr y Γ1)(hΓ1:Γ1[i]?=some (.ob (B.bx (a::l) s)))(h:Pd s y):W1 X (.Return (some e) pos) Γ N (AR X.K B (a::l) λs'=>dc X.K rr (Pd s')):=λσ H0 R0 H R E D dn dr=>
 sS (eA aN) (he σ H0 R0 H R E _ λv H1 R1 E1 s1 e1=>by
  obtain ⟨ea,hB,hR⟩:=fR (E1.ent i _ hΓ1)
  exact dr v H1 R1 E1.ext ⟨s,a,l,rfl,hB,hR,y,e1,h⟩)
theorem jB {P:Type}{B:LK P}{K:PySem.W.Frag}{R H:Hp}{a:Addr}{l:List Addr}{st:P}{vs:List V}{ps:List Pk}{N:List Str}(s:aw R H)(hR:fV R (a::l))(hB:(B.bx (a::l) st).R K H R (.ref a))(p:fH K R vs ps)(hl:ps.length + 1<=N.length):
 av K (L2.start N (.ref a::vs)) (dQ H (a::l)) R H R (.ob (B.bx (a::l) st)::dM ps (N.length - 1)):=by
 obtain ⟨n0,N',rfl⟩:∃n0 N',N=n0::N':=by cases N with
  | nil=>exact absurd hl (by simp)
  | cons n N'=>exact ⟨n,N',rfl⟩
 have hl':ps.length<=N'.length:=by simpa using hl
 have E0:=ee (N:=N') s p hl'
 have es:L2.start (n0::N') (.ref a::vs)=some (.ref a)::L2.start N' vs:=by unfold L2.start;simp
 rw [es]
 have noown:∀(i:Nat) (e:Ent) (o:Option V),(dM ps N'.length)[i]?=some e->e.fp o=[]:=λi e o q=>by
  unfold dM at q
  rcases List.mem_append.mp (List.mem_of_getElem? q) with z | z
  ·obtain ⟨p,_,rfl⟩:=List.mem_map.mp z;rfl
  ·obtain ⟨_,rfl⟩:=List.mem_replicate.mp z;rfl
 refine ⟨⟨sT,aw.refl _,s,λ_ _=>rfl⟩,λi e q=>?_,λi e c q w=>?_,λi j e e' c q q' w w'=>?_,?_⟩
 ·cases i with
  | zero=>simp at q;subst q;exact fD hB hR
  | succ i=>simp at q;simpa using E0.ent i e q
 ·cases i with
  | zero=>
    simp at q;subst q
    have w:c∈(B.bx (a::l) st).fp:=w
    rw [B.fp] at w
    exact iO w
  | succ i=>simp at q;rw [noown i e _ q] at w;cases w
 ·cases i with
  | succ i=>simp at q;rw [noown i e _ q] at w;cases w
  | zero=>
    cases j with
    | zero=>rfl
    | succ j=>simp at q';rw [noown j e' _ q'] at w';cases w'
 ·have:=E0.len
  simp [this]
variable {P:Program}{w:World}{K:PySem.W.Frag}{mg:Str->Option Value}{base:Heap}
theorem fM {Q0:Type}{B:LK Q0}{S:iD Q0}{x qual:Str}{st:Stmt}{f:Addr}{fd:FuncData}{N ps:List Str}{k:Nat}(F:bX K x qual st f fd)(Sc:aU N ps (aq st))(hm:mg x=some (.ref f))(hb:Binds K fd ps [])(len:∀s qs T,S K s qs T->qs.length + 1=ps.length)
 (hbody:∀(cdv:Value) (A:Around) (outer:List Env) (s:Shared) (H:Hp) (E:XK) (a:Addr) (l:List Addr) (u:Q0) (qs:List Pk) (T:Q0->RT),bj k (A.deeper (envOfC qual (aq st) s.heap.objs.size f cdv))->S K u qs T->
  WS (cf dJ P w K mg base N qual (aq st) f cdv A outer s H E).cH (bT st) (.ob (B.bx (a::l) u)::dM qs (N.length - 1)) (λΓ=>∃u',Γ[0]?=some (.ob (B.bx (a::l) u'))/\∀H0 H' R',T u' H0 .non H' R') (AR K B (a::l) T)):aV P w K mg base x (k + 1) (dI B S K):=by
 refine ⟨f,fd,ps,?_,hm,F.kp,hb⟩
 refine F.ok Sc (λvs H Q E h=>?_) (λcdv A outer s H vs Q E hr h=>?_)
 ·obtain ⟨R,a,l,u,vs',qs,T,rfl,_,_,_,p,hS,_⟩:=h
  rw [List.length_cons,p.length];exact len u qs T hS
 ·obtain ⟨R,a,l,u,vs',qs,T,rfl,sR,hR,hB,p,hS,q⟩:=h
  have hl:qs.length + 1<=N.length:=by
   rw [len u qs T hS]
   have:=congrArg List.length Sc.pre
   rw [List.length_take] at this
   omega
  refine ⟨_,eM,hbody cdv A outer s H E a l u qs T hr hS (L2.start N (.ref a::vs')) (dQ H (a::l)) R H R (jB sR hR hB p hl) {nx:=λ_ H'=>Q .non H',rt:=Q} (λσ' H' R' Γ' E' _ ⟨u',hΓ,t⟩=>?_) λv H' R' xx t=>?_⟩
  ·obtain ⟨ea,hB',hR'⟩:=fR (E'.ent 0 _ hΓ)
   exact q .non H' R' u' E'.ext hB' hR' (t _ _ _)
  ·obtain ⟨s',a',t',el,h1,h2,h3⟩:=t
   cases el
   exact q v H' R' s' xx h1 h2 h3
end
section
variable {H R H' R':Hp}
inductive Fl
 | i (n:Int)
 | l (a:Addr) (xs:List PV)
 | d (a:Addr) (D:List (Int×Int))
abbrev Fs:=List (Str×Fl)
def Fl.v:Fl->V
 | .i n=>.int n
 | .l a _=>.ref a
 | .d a _=>.ref a
def Fl.ad:Fl->List Addr
 | .i _=>[]
 | .l a _=>[a]
 | .d a _=>[a]
def df (D:List (Int×Int)):List (Key×V):=D.map λp=>(Sum.inl p.1,V.int p.2)
def Fl.ok (H R:Hp):Fl->Prop
 | .i _=>True
 | .l a xs=>∃vs,H a=some (.lst vs)/\bE R vs xs/\xs.length<=sizeLine
 | .d a D=>H a=some (.dK (df D))
def cV:Fs->List (Str×V)
 | []=>[]
 | (f,x)::r=>(f,x.v)::cV r
def cA:Fs->List Addr
 | []=>[]
 | (_,x)::r=>x.ad++cA r
def bu:Fs->Str->Option Fl
 | [],_=>none
 | (g,x)::r,f=>if g=f then some x else bu r f
def bJ (f:Str)(y:Fl):Fs->Fs
 | []=>[(f,y)]
 | (g,x)::r=>if g=f then (g,y)::r else (g,x)::bJ f y r
theorem bS {f:Str}:∀{fs:Fs} {x:Fl},bu fs f=some x->(cV fs).lookup f=some x.v
 | [],x,h=>by cases h
 | (g,y)::r,x,h=>by
   rw [cV,List.lookup]
   rw [bu] at h
   by_cases e:g=f
   ·rw [if_pos e] at h;cases h;subst e;simp
   ·rw [if_neg e] at h
    rw [show (f==g)=false from beq_eq_false_iff_ne.mpr λz=>e z.symm]
    exact bS h
theorem jn {f:Str}{y:Fl}:∀{fs:Fs},de f y.v (cV fs)=cV (bJ f y fs)
 | []=>rfl
 | (g,x)::r=>by
   rw [cV,de,bJ]
   by_cases e:g=f
   ·rw [if_pos e,if_pos e,cV]
   ·rw [if_neg e,if_neg e,cV,jn]
theorem fg:∀(fs:Fs),(cV fs).length=fs.length
 | []=>rfl
 | (g,x)::r=>by rw [cV,List.length_cons,List.length_cons,fg r]
theorem iQ {f:Str}{x y:Fl}(ha:y.ad=x.ad):∀{fs:Fs},bu fs f=some x->cA (bJ f y fs)=cA fs
 | [],h=>by cases h
 | (g,z)::r,h=>by
   rw [bu] at h
   rw [bJ]
   by_cases e:g=f
   ·rw [if_pos e] at h ⊢;cases h;rw [cA,cA,ha]
   ·rw [if_neg e] at h ⊢;rw [cA,cA,iQ ha h]
theorem gh {f:Str}{x:Fl}:∀{fs:Fs},bu fs f=some x->∀a∈x.ad,a∈cA fs
 | [],h,a,ha=>by cases h
 | (g,z)::r,h,a,ha=>by
   rw [bu] at h
   rw [cA]
   by_cases e:g=f
   ·rw [if_pos e] at h;cases h;exact List.mem_append_left _ ha
   ·rw [if_neg e] at h;exact List.mem_append_right _ (gh h a ha)
def bK (H R:Hp):Fs->Prop
 | []=>True
 | (_,x)::r=>x.ok H R/\bK H R r
theorem bK.get {f:Str}{x:Fl}:∀{fs:Fs},bK H R fs->bu fs f=some x->x.ok H R
 | [],_,h=>by cases h
 | (g,z)::r,⟨h1,h2⟩,h=>by
   rw [bu] at h
   by_cases e:g=f
   ·rw [if_pos e] at h;cases h;exact h1
   ·rw [if_neg e] at h;exact bK.get h2 h
theorem Fl.ok.loc {x:Fl}(h:x.ok H R)(e:∀a∈x.ad,H' a=H a)(s:aw R R'):x.ok H' R':=by
 cases x with
 | i n=>trivial
 | l a xs=>obtain ⟨vs,h1,h2,h3⟩:=h;exact ⟨vs,(e a (by simp [Fl.ad])).trans h1,h2.mono s,h3⟩
 | d a D=>exact (e a (by simp [Fl.ad])).trans h
theorem bK.loc:∀{fs:Fs},bK H R fs->(∀a∈cA fs,H' a=H a)->aw R R'->bK H' R' fs
 | [],_,_,_=>trivial
 | (g,z)::r,⟨h1,h2⟩,e,s=>⟨h1.loc (λa ha=>e a (by rw [cA];exact List.mem_append_left _ ha)) s,bK.loc h2 (λa ha=>e a (by rw [cA];exact List.mem_append_right _ ha)) s⟩
theorem bK.set {f:Str}{x y:Fl}(hy:y.ok H' R')(s:aw R R'):∀{fs:Fs},bK H R fs->bu fs f=some x->(cA fs).Nodup->(∀a∈cA fs,a∉x.ad->H' a=H a)->bK H' R' (bJ f y fs)
 | [],_,h,_,_=>by cases h
 | (g,z)::r,⟨h1,h2⟩,h,nd,e=>by
   rw [bu] at h
   rw [bJ]
   rw [cA] at nd e
   obtain ⟨n1,n2,n3⟩:=List.nodup_append.mp nd
   by_cases q:g=f
   ·rw [if_pos q] at h ⊢
    cases h
    exact ⟨hy,bK.loc h2 (λa ha=>e a (List.mem_append_right _ ha) λw=>n3 a w a ha rfl) s⟩
   ·rw [if_neg q] at h ⊢
    refine ⟨h1.loc (λa ha=>e a (List.mem_append_left _ ha) λw=>n3 a ha a (gh h a w) rfl) s,bK.set hy s h2 h n2 λa ha hn=>e a (List.mem_append_right _ ha) hn⟩
theorem bK.has:∀{fs:Fs},bK H R fs->∀a∈cA fs,H a≠none
 | (g,z)::r,⟨h1,h2⟩,a,ha=>by
   rw [cA] at ha
   rcases List.mem_append.mp ha with q | q
   ·cases z with
    | i n=>cases q
    | l b xs=>
      obtain ⟨vs,e,_⟩:=h1
      rw [List.mem_singleton.mp q,e];exact Option.some_ne_none _
    | d b D=>
      have h1:H b=some (.dK (df D)):=h1
      rw [List.mem_singleton.mp q,h1];exact Option.some_ne_none _
   ·exact bK.has h2 a q
def B5 (C:Addr)(l:List Addr)(fs:Fs)(H R:Hp)(v:V):Prop:=∃x dx,l=x::dx::cA fs/\v= .ref x/\H x=some (.ins C dx (cV fs))/\H dx=some (.own x)/\bK H R fs/\l.Nodup
def aB (C:Addr):LK Fs where
 bx l fs:=⟨l,λ_ H R v=>B5 C l fs H R v,λ{K H R0 H' R' v} e s ⟨x,dx,el,ev,h1,h2,h3,nd⟩=>by
  subst el
  exact ⟨x,dx,rfl,ev,(e x (by simp)).trans h1,(e dx (by simp)).trans h2,h3.loc (λa ha=>e a (by simp [ha])) s,nd⟩,λ{K H R0 v} ⟨x,dx,el,ev,h1,h2,h3,nd⟩ a ha=>by
  subst el
  rcases List.mem_cons.mp ha with rfl | ha
  ·rw [h1];exact Option.some_ne_none _
  ·rcases List.mem_cons.mp ha with rfl | ha
   ·rw [h2];exact Option.some_ne_none _
   ·exact h3.has a ha⟩
 fp _ _:=rfl
 at_:=λ⟨x,dx,el,ev,_⟩=>⟨x,_,el,ev⟩
end
section
variable {X:Cx}{Γ Γ1 Γ2 Γ3:Ga}{α β γ δ:Type}{N:Ga->Prop}{T:RT}
variable {C x:Addr}{l:List Addr}{f m:Str}{p1 pos:Pos}{K:PySem.W.Frag}{H R:Hp}{a:Addr}{n:Int}{ap:Pos}{xs:List PV}{n':Int}{e:Expr}
theorem av.js {σ:St}{H0 R0:Hp}{i:Nat}{B B':kT}{o:HO}(E:av K σ H0 R0 H R Γ)(hΓ:Γ[i]?=some (.ob B))(ha:a∈B.fp)(ho:(Ent.ob B').ok K (L2.upd H a o) R (σ[i]?).join)(hfp:∀b∈B'.fp,b∈B.fp):av K σ H0 R0 (L2.upd H a o) R (Γ.set i (.ob B')):=by
 have hR:∀b∈B.fp,R b=none:=(E.ent i _ hΓ).2
 refine E.uA hΓ ⟨λb u q=>?_,aw.refl _,λb u q=>?_,λ_ _=>rfl⟩ ho hfp
 ·have hb:b∉B.fp:=λw=>by rw [iO w] at q;cases q
  rw [dy hb] at q
  rw [aE λe=>hb (by rw [e];exact ha)];exact q
 ·have hb:b≠a:=λe=>by rw [e,hR a ha] at q;cases q
  rw [aE hb];exact E.sub b u q
structure cq (K:PySem.W.Frag) (C:Addr) (ns:List Str):Prop where
 cl:jU K C
 no:∀f∈ns,eU K C f
theorem fB {fs:Fs}{o:Option V}(h:(Ent.ob ((aB C).bx (x::l) fs)).ok K H R o):o=some (.ref x)/\fV R (x::l)/\∃dx,l=dx::cA fs/\H x=some (.ins C dx (cV fs))/\H dx=some (.own x)/\bK H R fs/\(x::l).Nodup:=by
 obtain ⟨e,hB,hR⟩:=fR (B:=aB C) h
 obtain ⟨x',dx,el,ev,h1,h2,h3,nd⟩:=hB
 cases el
 exact ⟨e,hR,dx,rfl,h1,h2,h3,nd⟩
theorem dw (i:Nat){fs:Fs}{ns:List Str}(hC:cq X.K C ns)(hf:f∈ns)(hΓ:Γ[i]?=some (.ob ((aB C).bx (x::l) fs)))(h:bu fs f=some (.i n))(hN:X.N[i]?=some m:=by rfl)(hv:cL X.env.scope m:=by first | exact Or.inl rfl | exact Or.inr (Or.inl rfl) | exact Or.inr (Or.inr rfl))
 (hd:(m==("__debug__":Str))=false:=by decide) (hcd:(m==("__classdict__":Str))=false:=by decide) (hbase:attributeBase (.Name m p1) f X.env (eval (.Name m p1) X.env)=eval (.Name m p1) X.env:=by rfl):EV X (.Attribute (.Name m p1) f pos) Γ ag n Γ:=λσ H0 R0 H R E Q q=>by
 obtain ⟨ea,hR,dx,el,h1,h2,h3,nd⟩:=fB (E.ent i _ hΓ)
 exact eS (dm (bM hN hv hd hcd) hbase) ⟨.ref x,at_of ea,x,C,dx,_,_,rfl,h1,hC.cl,hC.no f hf,bS h,q _ H R E (aw.refl _) rfl⟩
theorem nh {fs:Fs}{dx:Addr}(el:l=dx::cA fs)(h2:H dx=some (.own x))(h3:bK H R fs)(nd:(x::l).Nodup)(hR:fV R (x::l))(h:bu fs f=some (.i n')):(Ent.ob ((aB C).bx (x::l) (bJ f (.i n) fs))).ok K (upd H x (.ins C dx (de f (.int n) (cV fs)))) R (some (.ref x)):=by
 subst el
 have hx:∀b∈dx::cA fs,b≠x:=λb hb e=>(List.nodup_cons.mp nd).1 (e▸hb)
 refine fD (B:=aB C) ⟨x,dx,by rw [iQ (y:=.i n) (x:=.i n') rfl h],rfl,?_,?_,?_,nd⟩ hR
 ·rw [aF];exact congrArg (λz=>some (HO.ins C dx z)) (jn (y:=.i n))
 ·rw [aE (hx dx (by simp))];exact h2
 ·exact bK.set (y:=.i n) trivial (aw.refl _) h3 h (List.nodup_cons.mp (List.nodup_cons.mp nd).2).2 λa ha _=>aE (hx a (by simp [ha]))
theorem kj (i:Nat){fs:Fs}{ns:List Str}(hC:cq X.K C ns)(hf:f∈ns)(he:EV X e Γ ag n Γ1)(hΓ1:Γ1[i]?=some (.ob ((aB C).bx (x::l) fs)))(h:bu fs f=some (.i n'))(hz:fs.length < 1000)(hn:N (Γ1.set i (.ob ((aB C).bx (x::l) (bJ f (.i n) fs)))))
 (hN:X.N[i]?=some m:=by rfl) (hv:cL X.env.scope m:=by first | exact Or.inl rfl | exact Or.inr (Or.inl rfl) | exact Or.inr (Or.inr rfl)) (hd:(m==("__debug__":Str))=false:=by decide) (hcd:(m==("__classdict__":Str))=false:=by decide)
 (hsw:swapsWith e (some (.Attribute (.Name m p1) f ap)) pos.line X.env=pure false:=by rfl):W1 X (.Assign [.Attribute (.Name m p1) f ap] e pos) Γ N T:=λσ H0 R0 H R E D dn dr=>
 sS (qV (bM hN hv hd hcd) aN hsw) (he σ H0 R0 H R E _ λv H1 R1 E1 s1 e1=>by
  obtain ⟨ea,hR,dx,el,h1,h2,h3,nd⟩:=fB (E1.ent i _ hΓ1)
  cases e1
  refine ⟨.ref x,at_of ea,x,C,dx,_,rfl,h1,hC.cl,hC.no f hf,by rw [fg];exact hz,?_⟩
  exact dn σ _ R1 _ (E1.js (B':=(aB C).bx (x::l) (bJ f (.i n) fs)) hΓ1 (a:=x) (by show x∈x::l;simp) (by rw [ea];exact nh el h2 h3 nd hR h) λb hb=>hb) s1 hn)
theorem lT (i:Nat){fs:Fs}{ns:List Str}(hC:cq X.K C ns)(hf:f∈ns)(hΓ:Γ[i]?=some (.ob ((aB C).bx (x::l) fs)))(he:EV X e Γ ag n Γ)(h:bu fs f=some (.i n'))(hz:fs.length < 1000)(hn:N (Γ.set i (.ob ((aB C).bx (x::l) (bJ f (.i (n' + n)) fs)))))
 (hN:X.N[i]?=some m:=by rfl) (hv:cL X.env.scope m:=by first | exact Or.inl rfl | exact Or.inr (Or.inl rfl) | exact Or.inr (Or.inr rfl)) (hd:(m==("__debug__":Str))=false:=by decide) (hcd:(m==("__classdict__":Str))=false:=by decide):W1 X (.AugAssign (.Attribute (.Name m p1) f ap) .Add e pos) Γ N T:=λσ H0 R0 H R E D dn dr=>by
 obtain ⟨ea,hR,dx,el,h1,h2,h3,nd⟩:=fB (E.ent i _ hΓ)
 refine sS (qQ (bM hN hv hd hcd) aN xv) ⟨.ref x,at_of ea,x,C,dx,_,_,rfl,h1,hC.cl,hC.no f hf,bS h,he σ H0 R0 H R E _ λv H1 R1 E1 s1 e1=>?_⟩
 obtain ⟨ea1,hR1,dx1,el1,g1,g2,g3,nd1⟩:=fB (E1.ent i _ hΓ)
 cases e1
 refine ⟨n',n,rfl,rfl,dx1,_,g1,by rw [fg];exact hz,?_⟩
 exact dn σ _ R1 _ (E1.js (B':=(aB C).bx (x::l) (bJ f (.i (n' + n)) fs)) hΓ (a:=x) (by show x∈x::l;simp) (by rw [ea1];exact nh el1 g2 g3 nd1 hR1 h) λb hb=>hb) s1 hn
theorem sG {fs:Fs}{ys:List PV}{ws:List V}{dx:Addr}(el:l=dx::cA fs)(h1:H x=some (.ins C dx (cV fs)))(h2:H dx=some (.own x))(h3:bK H R fs)(nd:(x::l).Nodup)(hR:fV R (x::l))(h:bu fs f=some (.l a xs))(hp:bE R ws ys)(hz:ys.length<=sizeLine):(Ent.ob ((aB C).bx (x::l) (bJ f (.l a ys) fs))).ok K (upd H a (.lst ws)) R (some (.ref x)):=by
 subst el
 have ha:a∈cA fs:=gh h a (by simp [Fl.ad])
 have n2:=List.nodup_cons.mp nd
 have n3:=List.nodup_cons.mp n2.2
 have ax:x≠a:=λe=>n2.1 (by rw [e];simp [ha])
 have ad:dx≠a:=λe=>n3.1 (e▸ha)
 have ev:cV (bJ f (.l a ys) fs)=cV fs:=by
  have:∀fs:Fs,bu fs f=some (.l a xs)->cV (bJ f (.l a ys) fs)=cV fs:=by
   intro fs
   induction fs with
   | nil=>intro h;cases h
   | cons z r ih=>
     obtain ⟨g,z⟩:=z
     intro h
     rw [bu] at h
     rw [bJ]
     by_cases e:g=f
     ·rw [if_pos e] at h ⊢;cases h;rfl
     ·rw [if_neg e] at h ⊢;rw [cV,cV,ih h]
  exact this fs h
 refine fD (B:=aB C) ⟨x,dx,by rw [iQ (y:=.l a ys) (x:=.l a xs) rfl h],rfl,?_,?_,?_,nd⟩ hR
 ·rw [aE ax,ev];exact h1
 ·rw [aE ad];exact h2
 ·exact bK.set (y:=.l a ys) ⟨ws,aF,hp,hz⟩ (aw.refl _) h3 h n3.2 λb hb hn=>aE λe=>hn (by rw [e];simp [Fl.ad])
theorem cK {fs:Fs}{y:Fl}{o:Option V}(h:(Ent.ob ((aB C).bx (x::l) fs)).ok K H R o)(hf:bu fs f=some y):∃dx,o=some (.ref x)/\fV R (x::l)/\l=dx::cA fs/\H x=some (.ins C dx (cV fs))/\H dx=some (.own x)/\bK H R fs/\(x::l).Nodup/\y.ok H R/\∀a∈y.ad,a∈x::l:=by
 obtain ⟨ea,hR,dx,el,h1,h2,h3,nd⟩:=fB h
 exact ⟨dx,ea,hR,el,h1,h2,h3,nd,h3.get hf,λa ha=>by rw [el];simp [gh hf a ha]⟩
theorem nD (i:Nat){p:Pos}{fs:Fs}{ns:List Str}(hC:cq X.K C ns)(hf:f∈ns)(hm:X.mg "len"=none)(hΓ:Γ[i]?=some (.ob ((aB C).bx (x::l) fs)))(h:bu fs f=some (.l a xs))(hN:X.N[i]?=some m:=by rfl)(hv:cL X.env.scope m:=by first | exact Or.inl rfl | exact Or.inr (Or.inl rfl) | exact Or.inr (Or.inr rfl))
 (hd:(m==("__debug__":Str))=false:=by decide) (hcd:(m==("__classdict__":Str))=false:=by decide) (hbase:attributeBase (.Name m p1) f X.env (eval (.Name m p1) X.env)=eval (.Name m p1) X.env:=by rfl) (hs:starEach [.Attribute (.Name m p1) f ap] X.env=[(false,eval (.Attribute (.Name m p1) f ap) X.env)]:=by rfl) (hg:Gl X "len":=by rfl):
 EV X (.Call (.Name "len" p) [.Attribute (.Name m p1) f ap] [] pos) Γ ag (xs.length:Int) Γ:=λσ H0 R0 H R E Q q=>by
 obtain ⟨dx,ea,hR,el,h1,h2,h3,nd,⟨vs,ha,pp,z⟩,_⟩:=cK (E.ent i _ hΓ) h
 refine eS (cG dA hg hm PySem.boot_len (aH (dm (bM hN hv hd hcd) hbase) br hs) (by decide) (by decide) hs) ⟨.ref x,at_of ea,x,C,dx,_,_,rfl,h1,hC.cl,hC.no f hf,bS h,a,vs,rfl,.inl (bz.of ha),?_⟩
 rw [pp.pair.length]
 exact q _ H R E (aw.refl _) rfl
theorem lB (i:Nat){b:Expr}{fs:Fs}{y:PV}{ns:List Str}(hC:cq X.K C ns)(hf:f∈ns)(hb:EV X b Γ ag n Γ)(hΓ:Γ[i]?=some (.ob ((aB C).bx (x::l) fs)))(h:bu fs f=some (.l a xs))(hy:cM xs n=some y)(hN:X.N[i]?=some m:=by rfl)(hv:cL X.env.scope m:=by first | exact Or.inl rfl | exact Or.inr (Or.inl rfl) | exact Or.inr (Or.inr rfl))
 (hd:(m==("__debug__":Str))=false:=by decide) (hcd:(m==("__classdict__":Str))=false:=by decide) (hbase:attributeBase (.Name m p1) f X.env (eval (.Name m p1) X.env)=eval (.Name m p1) X.env:=by rfl) (hs:gy b:=by exact λ_ _=>rfl):
 EV X (.Subscript (.Attribute (.Name m p1) f ap) b pos) Γ aj y Γ:=λσ H0 R0 H R E Q q=>by
 obtain ⟨dx,ea,hR,el,h1,h2,h3,nd,_,_⟩:=cK (E.ent i _ hΓ) h
 refine eS (iJ kA (dm (bM hN hv hd hcd) hbase) aN hs) ⟨.ref x,at_of ea,x,C,dx,_,_,rfl,h1,hC.cl,hC.no f hf,bS h,hb σ H0 R0 H R E _ λu H1 R1 E1 s1 e1=>?_⟩
 obtain ⟨dx1,ea1,hR1,el1,g1,g2,g3,nd1,⟨vs,ha,pp,z⟩,_⟩:=cK (E1.ent i _ hΓ) h
 obtain ⟨w,e3,e4⟩:=gC pp.pair hy
 exact ⟨a,vs,n,w,rfl,e1,bz.of ha,e3,q w H1 R1 E1 s1 e4⟩
theorem gz (i:Nat){bp cp:Pos}{fs:Fs}{y:PV}{ns:List Str}(hC:cq X.K C ns)(hf:f∈ns)(he:EV X e Γ aj y Γ)(hΓ:Γ[i]?=some (.ob ((aB C).bx (x::l) fs)))(h:bu fs f=some (.l a xs))(hz:xs.length < sizeLine)(hn:N (Γ.set i (.ob ((aB C).bx (x::l) (bJ f (.l a (xs++[y])) fs)))))
 (hN:X.N[i]?=some m:=by rfl) (hv:cL X.env.scope m:=by first | exact Or.inl rfl | exact Or.inr (Or.inl rfl) | exact Or.inr (Or.inr rfl)) (hd:(m==("__debug__":Str))=false:=by decide) (hcd:(m==("__classdict__":Str))=false:=by decide)
 (hbase:attributeBase (.Name m p1) f X.env (eval (.Name m p1) X.env)=eval (.Name m p1) X.env:=by rfl)
 (hsw:swapsWith (.Call (.Attribute (.Attribute (.Name m p1) f ap) "append" bp) [e] [] cp) none pos.line X.env=pure false:=by rfl)
 (hbase2:attributeBase (.Attribute (.Name m p1) f ap) "append" X.env (eval (.Attribute (.Name m p1) f ap) X.env)=eval (.Attribute (.Name m p1) f ap) X.env:=by rfl)
 (hfew:((backTo cp (starEach [e] X.env)).all (λx=> !x.1)&&(backToKw cp (keywordEach [] X.env)).all (λx=>x.1.isSome)
  &&decide ([e].length + ([]:List Keyword).length + (if ([]:List Keyword).isEmpty then 0 else 1) < 30))=true:=by rfl)
 (hline:(bp.endLine==cp.line)=true:=by rfl) (hs:starEach [e] X.env=(false,eval e X.env)::starEach [] X.env:=by rfl):W1 X (.Expr (.Call (.Attribute (.Attribute (.Name m p1) f ap) "append" bp) [e] [] cp) pos) Γ N T:=λσ H0 R0 H R E D dn dr=>by
 obtain ⟨dx,ea,hR,el,h1,h2,h3,nd,⟨vs,ha,pp,_⟩,_⟩:=cK (E.ent i _ hΓ) h
 refine sS (eC (lr PySem.F.plainAttrs_list PySem.F.slot_list_append PySem.F.type_list_append fW (dm (bM hN hv hd hcd) hbase) (aH aN br hs) hbase2 hfew hline hs rfl) hsw) ?_
 refine ⟨.ref x,at_of ea,x,C,dx,_,_,rfl,h1,hC.cl,hC.no f hf,bS h,.inl ⟨rfl,vs,bz.of ha⟩,he σ H0 R0 H R E _ λv H1 R1 E1 s1 e1=>?_⟩
 obtain ⟨dx1,ea1,hR1,el1,g1,g2,g3,nd1,⟨vs1,ha1,pp1,_⟩,hin⟩:=cK (E1.ent i _ hΓ) h
 refine ⟨a,vs1,v,rfl,rfl,ha1,by rw [pp1.pair.length];exact hz,?_⟩
 exact dn σ _ R1 _ (E1.js (B':=(aB C).bx (x::l) (bJ f (.l a (xs++[y])) fs)) hΓ (a:=a) (hin a (by simp [Fl.ad])) (by rw [ea1];exact sG el1 g1 g2 g3 nd1 hR1 h (.of (bN pp1.pair (.cons e1 .nil))) (by rw [List.length_append];exact hz)) λb hb=>hb) s1 hn
end
section
variable {X:Cx}{Γ Γ1 Γ2 Γ3:Ga}{α β γ δ:Type}{N:Ga->Prop}{T:RT}
variable {C x:Addr}{l:List Addr}{f:Str}{a:Addr}{m:Str}{p1 ap:Pos}{D:List (Int×Int)}{e:Expr}{pos:Pos}
theorem nU {f:Str}{x y:Fl}(hv:y.v=x.v):∀{fs:Fs},bu fs f=some x->cV (bJ f y fs)=cV fs
 | [],h=>by cases h
 | (g,z)::r,h=>by
   rw [bu] at h
   rw [bJ]
   by_cases e:g=f
   ·rw [if_pos e] at h ⊢;cases h;rw [cV,cV,hv]
   ·rw [if_neg e] at h ⊢;rw [cV,cV,nU hv h]
theorem ko {fs:Fs}{K:PySem.W.Frag}{H R:Hp}{y z:Fl}{o:HO}{dx:Addr}(el:l=dx::cA fs)(h1:H x=some (.ins C dx (cV fs)))(h2:H dx=some (.own x))(h3:bK H R fs)(nd:(x::l).Nodup)(hR:fV R (x::l))(h:bu fs f=some y)(hy:y.ad=[a])(hzv:z.v=y.v)(hza:z.ad=y.ad)(hz:z.ok (upd H a o) R):(Ent.ob ((aB C).bx (x::l) (bJ f z fs))).ok K (upd H a o) R (some (.ref x)):=by
 subst el
 have ha:a∈cA fs:=gh h a (by simp [hy])
 have n2:=List.nodup_cons.mp nd
 have n3:=List.nodup_cons.mp n2.2
 have ax:x≠a:=λe=>n2.1 (by rw [e];simp [ha])
 have ad:dx≠a:=λe=>n3.1 (e▸ha)
 refine fD (B:=aB C) ⟨x,dx,by rw [iQ (y:=z) (x:=y) hza h],rfl,?_,?_,?_,nd⟩ hR
 ·rw [aE ax,nU hzv h];exact h1
 ·rw [aE ad];exact h2
 ·exact bK.set (y:=z) hz (aw.refl _) h3 h n3.2 λb hb hn=>aE λe=>hn (by rw [e,hy];simp)
theorem vP (i:Nat){bp cp:Pos}{fs:Fs}{xs:List PV}{y:PV}{ns:List Str}(hC:cq X.K C ns)(hf:f∈ns)(hΓ:Γ[i]?=some (.ob ((aB C).bx (x::l) fs)))(h:bu fs f=some (.l a (xs++[y])))
 (hN:X.N[i]?=some m:=by rfl) (hv:cL X.env.scope m:=by first | exact Or.inl rfl | exact Or.inr (Or.inl rfl) | exact Or.inr (Or.inr rfl)) (hd:(m==("__debug__":Str))=false:=by decide) (hcd:(m==("__classdict__":Str))=false:=by decide)
 (hbase:attributeBase (.Name m p1) f X.env (eval (.Name m p1) X.env)=eval (.Name m p1) X.env:=by rfl)
 (hbase2:attributeBase (.Attribute (.Name m p1) f ap) "pop" X.env (eval (.Attribute (.Name m p1) f ap) X.env)=eval (.Attribute (.Name m p1) f ap) X.env:=by rfl)
 (hline:(bp.endLine==cp.line)=true:=by rfl):EV X (.Call (.Attribute (.Attribute (.Name m p1) f ap) "pop" bp) [] [] cp) Γ aj y (Γ.set i (.ob ((aB C).bx (x::l) (bJ f (.l a xs) fs)))):=λσ H0 R0 H R E Q q=>by
 obtain ⟨dx,ea,hR,el,h1,h2,h3,nd,⟨vs,ha,pp,hz⟩,hin⟩:=cK (E.ent i _ hΓ) h
 refine eS (yR PySem.F.plainAttrs_list PySem.F.slot_list_pop PySem.F.type_list_pop wo (dm (bM hN hv hd hcd) hbase) hbase2 hline) ?_
 obtain ⟨v,e3,e4⟩:=cT pp.pair (show (xs++[y])[xs.length]?=some y by simp)
 have hl:vs.length=xs.length + 1:=by rw [pp.pair.length];simp
 refine ⟨.ref x,at_of ea,x,C,dx,_,_,rfl,h1,hC.cl,hC.no f hf,bS h,.inl ⟨rfl,vs,bz.of ha⟩,a,vs,v,rfl,rfl,ha,by rw [hl];exact e3,?_⟩
 refine q v _ R (E.js (B':=(aB C).bx (x::l) (bJ f (.l a xs) fs)) hΓ (a:=a) (hin a (by simp [Fl.ad])) (by
  rw [ea]
  refine ko (y:=.l a (xs++[y])) (z:=.l a xs) el h1 h2 h3 nd hR h rfl rfl rfl ⟨_,aF,.of ?_,by rw [List.length_append] at hz;simp at hz;omega⟩
  have:=eN xs.length pp.pair
  rw [List.take_left' rfl] at this
  rw [List.dropLast_eq_take,hl];exact this) λb hb=>hb) (aw.refl _) e4
theorem rF (i:Nat){b:Expr}{p2:Pos}{fs:Fs}{xs:List PV}{y:PV}{k:Int}{j:Nat}{ns:List Str}(hC:cq X.K C ns)(hf:f∈ns)(he:EV X e Γ aj y Γ)(hb:EV X b Γ ag k Γ)(hΓ:Γ[i]?=some (.ob ((aB C).bx (x::l) fs)))(h:bu fs f=some (.l a xs))(hj:gT xs.length k=some j)(hn:N (Γ.set i (.ob ((aB C).bx (x::l) (bJ f (.l a (xs.set j y)) fs)))))
 (hN:X.N[i]?=some m:=by rfl) (hv:cL X.env.scope m:=by first | exact Or.inl rfl | exact Or.inr (Or.inl rfl) | exact Or.inr (Or.inr rfl)) (hd:(m==("__debug__":Str))=false:=by decide) (hcd:(m==("__classdict__":Str))=false:=by decide)
 (hbase:attributeBase (.Name m p1) f X.env (eval (.Name m p1) X.env)=eval (.Name m p1) X.env:=by rfl)
 (ha:∀v,assign (.Subscript (.Attribute (.Name m p1) f ap) b p2) X.env v=(do
  let ov ← holding [v] (eval (.Attribute (.Name m p1) f ap) X.env)
  let iv ← holding [v,ov] (eval b X.env)
  standAt p2
  holding [v,ov,iv] (setItem ov iv v)
  release [v,ov,iv] []):=by intro _;rfl)
 (hs:swapsWithSole [.Subscript (.Attribute (.Name m p1) f ap) b p2] e pos.line X.env=pure false:=by rfl) (hw:swappedStores [.Subscript (.Attribute (.Name m p1) f ap) b p2] e X.env=pure none:=by rfl) (h1:(assignEach [.Subscript (.Attribute (.Name m p1) f ap) b p2] X.env).map (·.2)=[assign (.Subscript (.Attribute (.Name m p1) f ap) b p2) X.env]:=by rfl):
 W1 X (.Assign [.Subscript (.Attribute (.Name m p1) f ap) b p2] e pos) Γ N T:=λσ H0 R0 H R E D dn dr=>by
 refine sS (j9 aN (yW (dm (bM hN hv hd hcd) hbase) aN set_list ha) hs hw h1) (he σ H0 R0 H R E _ λv H1 R1 E1 s1 e1=>?_)
 obtain ⟨dx,ea,hR,el,g1,g2,g3,nd,_,_⟩:=cK (E1.ent i _ hΓ) h
 refine ⟨.ref x,at_of ea,x,C,dx,_,_,rfl,g1,hC.cl,hC.no f hf,bS h,hb σ H0 R0 H1 R1 E1 _ λu H2 R2 E2 s2 e2=>?_⟩
 obtain ⟨dx2,ea2,hR2,el2,k1,k2,k3,nd2,⟨vs,ha2,pp,hz⟩,hin⟩:=cK (E2.ent i _ hΓ) h
 refine ⟨a,vs,k,j,rfl,e2,ha2,by rw [pp.pair.length];exact hj,?_⟩
 exact dn σ _ R2 _ (E2.js (B':=(aB C).bx (x::l) (bJ f (.l a (xs.set j y)) fs)) hΓ (a:=a) (hin a (by simp [Fl.ad])) (by
  rw [ea2]
  exact ko (y:=.l a xs) (z:=.l a (xs.set j y)) el2 k1 k2 k3 nd2 hR2 h rfl rfl rfl ⟨_,aF,.of (j7 (aj.mono (K:=X.K) s2 e1) j pp.pair),by rw [List.length_set];exact hz⟩) λb hb=>hb) (s1.trans s2) hn
def dG:List (Int×Int)->Int->Option Int
 | [],_=>none
 | (k,n)::r,q=>if k=q then some n else dG r q
def dP (q v:Int)(D:List (Int×Int)):List (Int×Int):=if (D.any λp=>decide (p.1=q))=true then D.map (λp=>if p.1=q then (p.1,v) else p) else D++[(q,v)]
theorem kf:∀{D:List (Int×Int)} {q:Int},eE (df D) (Sum.inl q:Key)=(dG D q).map V.int
 | [],q=>rfl
 | (k,n)::r,q=>by
   have ih:=kf (D:=r) (q:=q)
   unfold df at ih ⊢
   rw [List.map_cons,dG]
   unfold eE at ih ⊢
   rw [List.find?_cons]
   by_cases e:k=q
   ·subst e;simp
   ·rw [if_neg e,← ih]
    simp [e]
theorem uP {q v:Int}:putK (df D) (Sum.inl q:Key) (.int v)=df (dP q v D):=by
 have e:((df D).any λkv=>decide (kv.1=(Sum.inl q:Key)))=D.any λp=>decide (p.1=q):=by
  unfold df
  rw [List.any_map]
  congr 1
  funext p
  show decide ((Sum.inl p.1:Key)=Sum.inl q)=decide (p.1=q)
  by_cases h:p.1=q
  ·rw [h];simp
  ·rw [decide_eq_false h,decide_eq_false λz=>h (Sum.inl.inj z)]
 unfold putK dP
 rw [e]
 by_cases h:(D.any λp=>decide (p.1=q))=true
 ·rw [if_pos h,if_pos h]
  unfold df
  rw [List.map_map,List.map_map]
  refine List.map_congr_left λp _=>?_
  show (if (Sum.inl p.1:Key)=Sum.inl q then ((Sum.inl p.1:Key),V.int v) else (Sum.inl p.1,V.int p.2))=(Sum.inl (if p.1=q then (p.1,v) else p).1,V.int (if p.1=q then (p.1,v) else p).2)
  by_cases h:p.1=q
  ·rw [if_pos (by rw [h]),if_pos h]
  ·rw [if_neg λz=>h (Sum.inl.inj z),if_neg h]
 ·rw [if_neg h,if_neg h]
  unfold df
  rw [List.map_append];rfl
theorem sX (i:Nat){e':Expr}{bp cp:Pos}{fs:Fs}{k n:Int}{ns:List Str}(hu:X.A.units + 1 < cLine)(hC:cq X.K C ns)(hf:f∈ns)(he:EV X e Γ ag k Γ)(he':EV X e' Γ ag n Γ)(hΓ:Γ[i]?=some (.ob ((aB C).bx (x::l) fs)))(h:bu fs f=some (.d a D))
 (hN:X.N[i]?=some m:=by rfl) (hv:cL X.env.scope m:=by first | exact Or.inl rfl | exact Or.inr (Or.inl rfl) | exact Or.inr (Or.inr rfl)) (hd:(m==("__debug__":Str))=false:=by decide) (hcd:(m==("__classdict__":Str))=false:=by decide)
 (hbase:attributeBase (.Name m p1) f X.env (eval (.Name m p1) X.env)=eval (.Name m p1) X.env:=by rfl) (hm:M2 X (.Attribute (.Name m p1) f ap) "get" bp e e' cp:=by exact ⟨rfl,rfl,rfl,rfl⟩):EV X (.Call (.Attribute (.Attribute (.Name m p1) f ap) "get" bp) [e,e'] [] cp) Γ ag ((dG D k).getD n) Γ:=λσ H0 R0 H R E Q q=>by
 obtain ⟨dx,ea,hR,el,h1,h2,h3,nd,ha,hin⟩:=cK (E.ent i _ hΓ) h
 have ha:H a=some (.dK (df D)):=ha
 refine eS (rX hu (dm (bM hN hv hd hcd) hbase) aN aN hm) ⟨.ref x,at_of ea,x,C,dx,_,_,rfl,h1,hC.cl,hC.no f hf,bS h,a,rfl,.inl ⟨_,.inl ha⟩,he σ H0 R0 H R E _ λv H1 R1 E1 s1 e1=>he' σ H0 R0 H1 R1 E1 _ λv2 H2 R2 E2 s2 e2=>?_⟩
 obtain ⟨dx2,_,_,_,_,_,_,_,ha2,_⟩:=cK (E2.ent i _ hΓ) h
 have ha2:H2 a=some (.dK (df D)):=ha2
 cases e1;cases e2
 refine ⟨_,gN.k (k:=Sum.inl k) ha2,?_⟩
 rw [kf]
 have:((dG D k).map V.int).getD (V.int n)=V.int ((dG D k).getD n):=by cases dG D k<;>rfl
 rw [this]
 exact q _ H2 R2 E2 (s1.trans s2) rfl
theorem uJ (i:Nat){e':Expr}{p2:Pos}{fs:Fs}{k n:Int}{ns:List Str}(hu:X.A.units + 1 < cLine)(hC:cq X.K C ns)(hf:f∈ns)(he:EV X e Γ ag k Γ)(he':EV X e' Γ ag n Γ)(hΓ:Γ[i]?=some (.ob ((aB C).bx (x::l) fs)))(h:bu fs f=some (.d a D))(hz:D.length < sizeLine)(hn:N (Γ.set i (.ob ((aB C).bx (x::l) (bJ f (.d a (dP k n D)) fs)))))
 (hN:X.N[i]?=some m:=by rfl) (hv:cL X.env.scope m:=by first | exact Or.inl rfl | exact Or.inr (Or.inl rfl) | exact Or.inr (Or.inr rfl)) (hd:(m==("__debug__":Str))=false:=by decide) (hcd:(m==("__classdict__":Str))=false:=by decide)
 (hbase:attributeBase (.Name m p1) f X.env (eval (.Name m p1) X.env)=eval (.Name m p1) X.env:=by rfl)
 (hs:swapsWith e' (some (.Subscript (.Attribute (.Name m p1) f ap) e p2)) pos.line X.env=pure false:=by rfl):W1 X (.Assign [.Subscript (.Attribute (.Name m p1) f ap) e p2] e' pos) Γ N T:=λσ H0 R0 H R E Dd dn dr=>by
 refine sS (vz hu (dm (bM hN hv hd hcd) hbase) aN aN hs) (he' σ H0 R0 H R E _ λv H1 R1 E1 s1 e1=>?_)
 obtain ⟨dx,ea,hR,el,h1,h2,h3,nd,ha,hin⟩:=cK (E1.ent i _ hΓ) h
 refine ⟨.ref x,at_of ea,x,C,dx,_,_,rfl,h1,hC.cl,hC.no f hf,bS h,he σ H0 R0 H1 R1 E1 _ λv2 H2 R2 E2 s2 e2=>?_⟩
 obtain ⟨dx2,ea2,hR2,el2,k1,k2,k3,nd2,ha2,hin2⟩:=cK (E2.ent i _ hΓ) h
 have ha2:H2 a=some (.dK (df D)):=ha2
 cases e1;cases e2
 refine ⟨a,_,rfl,mi.k (k:=Sum.inl k) ha2 (by unfold df;rw [List.length_map];exact hz),?_⟩
 rw [uP]
 exact dn σ _ R2 _ (E2.js (B':=(aB C).bx (x::l) (bJ f (.d a (dP k n D)) fs)) hΓ (a:=a) (hin2 a (by simp [Fl.ad])) (by
  rw [ea2]
  exact ko (y:=.d a D) (z:=.d a (dP k n D)) el2 k1 k2 k3 nd2 hR2 h rfl rfl rfl (show upd H2 a _ a=_ from aF)) λb hb=>hb) (s1.trans s2) hn
theorem qN {kvs:List (Key×Value)}:∀{D:List (Int×Int)} {vs:List Value},kvs.map (·.1)=(D.map λp=>(Sum.inl p.1:Key))->vs.length=D.length->(∀(j:Nat) (v:Value),vs[j]?=some v->∃k x,kvs[j]?=some (k,x)/\gF k v=true)->IntsAre vs (D.map (·.1)):=by
 intro D
 induction D generalizing kvs with
 | nil=>intro vs e l h;cases vs with
   | nil=>exact .nil
   | cons a b=>simp at l
 | cons p D ih=>
   intro vs e l h
   cases vs with
   | nil=>simp at l
   | cons a b=>
     cases kvs with
     | nil=>simp at e
     | cons q kvs=>
       simp only [List.map_cons,List.cons.injEq] at e
       obtain ⟨k,x,hx,hk⟩:=h 0 a rfl
       simp at hx
       subst hx
       have e1:k=Sum.inl p.1:=e.1
       rw [e1] at hk
       rcases cw hk with ⟨j,t,e2,e3⟩ | ⟨y,t,e2,e3⟩
       ·cases e2
        subst e3
        exact .cons _ t (ih (kvs:=kvs) e.2 (by simpa using l) λj v hv=>by simpa using h (j + 1) v (by simpa using hv))
       ·cases e2
theorem lI (hc:X.calm=true):dg X (.builtin "sorted") (λxs H Q=>∃(p:Addr) (D:List (Int×Int)),xs=[.ref p]/\H p=some (.dK (df D))/\D.length < 64/\∀ms:List Int,ms.Perm (D.map (·.1))->ms.Pairwise (· <=·)->∀d,H d=none->Q (.ref d) (upd H d (.lst (ms.map V.int)))):=by
 intro pins s σ H xs us Q I r h
 obtain ⟨p,D,rfl,hq,h64,q⟩:=h
 obtain ⟨u,rfl,rx⟩:=vals1 r
 cases rx
 obtain ⟨z,lo,kvs,rel,dd⟩:=ur I.hok hq
 obtain ⟨ep,hat⟩:=dd.dictAt
 have hkl:kvs.length=D.length:=by rw [← rel.length];unfold df;rw [List.length_map]
 have hks:kvs.map (·.1)=(D.map λp=>(Sum.inl p.1:Key)):=by
  have:∀{A:List (Key×V)} {B:List (Key×Value)},KV A B->B.map (·.1)=A.map (·.1):=by
   intro A B h
   unfold KV at h
   induction h with
   | nil=>rfl
   | cons h t ih=>rw [List.map_cons,List.map_cons,ih,h.1]
  rw [this rel]
  unfold df
  rw [List.map_map];rfl
 refine Calls.call_function_entry PyProof.Rows.kind_sorted PyProof.Rows.plain_sorted PyProof.Rows.entry_sorted (PyProof.Rows.args_sorted1 _) ?_
 unfold Builtin.«sorted»;refine wpAny_bind (m:=checkCount "sorted" 1 1 _) (wpAny_pure ?_)
 refine wpAny_bind (PySem.W.kdu_collect (A:=X.A.in1) (PySem.W.kdl_dict (knd:=bH X.prog X.w) (kvs:=kvs) (ep:=ep) lo) (I.ok.hd hc) hat (by rw [hkl,sizeLine_eq];omega) λh1 tk acc hk hacc=>?_)
 have hal:acc.toList.length=D.length:=by rw [Array.length_toList,hacc.1,hkl]
 have hI:IntsAre acc.toList (D.map (·.1)):=qN hks hal λj v e=>hacc.2 j v (by rw [← Array.getElem?_toList];exact e)
 refine wpAny_bind (wpAny_newList ?_ (by rw [hal,sizeLine_eq];omega))
 have hoL:(h1.push (seqObj "list" acc.toList.toArray 0)).get? h1.objs.size=some (seqObj "list" acc.toList.toArray 0):=Heap.get?_push_size _ rfl
 refine wpAny_bind (wpAny_holding (wpAny_call_entry slot_list_sort ⟨_,hoL,rfl⟩ entry_list_sort (list_sort_tree (s:={s with heap:=_,toks:=tk}) hoL hI (by rw [hal];exact h64) λout ms a1 a2 a3=>⟨_,rfl,?_⟩) (args_list_sort _)))
 obtain ⟨e,he⟩:=sortedHeap_at (out:=out) hoL
 have hold:∀b u,h1.get? b=some u->(sortedHeap (h1.push (seqObj "list" acc.toList.toArray 0)) h1.objs.size acc.toList out).get? b=some u:=by
  intro b u q
  have hb:b < h1.objs.size:=Heap.lt_size q
  rw [sortedHeap_old (Nat.ne_of_lt hb) (by rw [size_push'];exact Nat.lt_succ_of_lt hb),Heap.get?_push_ne _ _ _ (Nat.ne_of_lt hb)]
  exact q
 have I1:Inv X pins σ H {s with heap:=h1,toks:=tk}:=I.kept hk
 have hn:H h1.objs.size=none:=I1.hok.fresh (Nat.le_refl _)
 have hml:ms.length=D.length:=by rw [a2.length_eq,List.length_map]
 have hle:ms.length<=sizeLine:=by rw [hml];exact Nat.le_trans (Nat.le_of_lt h64) (by decide)
 exact wpAny_pure ⟨_,rfl,⟨.ref h1.objs.size,upd H h1.objs.size (.lst (ms.map V.int)),I1.laid (a:=h1.objs.size) (o:=.lst (ms.map V.int)) (t':=tk) hold (Nat.le_refl _) ⟨by rw [List.length_map];exact hle,out.toList,e,hU a1,by rw [he]⟩,rfl,q ms a2 a3 _ hn⟩⟩
theorem qr (i:Nat){p:Pos}{fs:Fs}{ns:List Str}(hC:cq X.K C ns)(hf:f∈ns)(hm:X.mg "sorted"=none)(hΓ:Γ[i]?=some (.ob ((aB C).bx (x::l) fs)))(h:bu fs f=some (.d a D))(h64:D.length < 64)(hc:X.calm=true:=by rfl)
 (hN:X.N[i]?=some m:=by rfl) (hv:cL X.env.scope m:=by first | exact Or.inl rfl | exact Or.inr (Or.inl rfl) | exact Or.inr (Or.inr rfl)) (hd:(m==("__debug__":Str))=false:=by decide) (hcd:(m==("__classdict__":Str))=false:=by decide)
 (hbase:attributeBase (.Name m p1) f X.env (eval (.Name m p1) X.env)=eval (.Name m p1) X.env:=by rfl) (hs:starEach [.Attribute (.Name m p1) f ap] X.env=[(false,eval (.Attribute (.Name m p1) f ap) X.env)]:=by rfl) (hg:Gl X "sorted":=by rfl):bb X (.Call (.Name "sorted" p) [.Attribute (.Name m p1) f ap] [] pos) Γ ag (sortI (D.map (·.1))) Γ:=λσ H0 R0 H R E Q q=>by
 obtain ⟨dx,ea,hR,el,h1,h2,h3,nd,ha,hin⟩:=cK (E.ent i _ hΓ) h
 refine eS (cG (lI hc) hg hm PyProof.Rows.boot_sorted (aH (dm (bM hN hv hd hcd) hbase) br hs) (by decide) (by decide) hs) ⟨.ref x,at_of ea,x,C,dx,_,_,rfl,h1,hC.cl,hC.no f hf,bS h,a,D,rfl,ha,h64,λms hpm hs d hd=>?_⟩
 have aints:∀ys:List Int,PySem.Paired (ag.R X.K R) (ys.map V.int) ys:=λys=>by
  induction ys with
  | nil=>exact .nil
  | cons y r ih=>exact .cons rfl ih
 rw [jf hpm hs]
 exact q d _ _ R (E.grow (Ext.cS E.sub hd _)) (aw.refl _) aF (E.sub.free hd) (E.ext.h.free hd) (E.off hd) (aints _) (by
  have:(sortI (D.map (·.1))).length=D.length:=by unfold sortI;rw [List.length_mergeSort,List.length_map]
  rw [this];exact Nat.le_trans (Nat.le_of_lt h64) (by decide))
end
section
variable {R:Hp}
abbrev bO (H0 R:Hp):List Addr->List (List Int)->Prop:=PySem.Paired λt ns=>H0 t=none/\R t=some (.tup (ns.map V.int))
theorem bO.mono {H0 R':Hp}(s:aw R R'){ts:List Addr}{fs:List (List Int)}(h:bO H0 R ts fs):bO H0 R' ts fs:=Paired.map (λ_ _ ⟨a,b⟩=>⟨a,s _ _ b⟩) h
abbrev tupI (ns:List Int):PV:=.tup (ns.map PV.int)
theorem gp {R:Hp}:∀ns:List Int,bE R (ns.map V.int) (ns.map PV.int)
 | []=>.nil
 | n::r=>.cons (.int n) (gp r)
theorem bO.pv {H0:Hp}:∀{ts:List Addr} {fs:List (List Int)},bO H0 R ts fs->PySem.Paired (cb R) (ts.map V.ref) (fs.map tupI)
 | _,_,.nil=>.nil
 | _,_,.cons ⟨_,b⟩ t=>.cons (.tup b (gp _)) (bO.pv t)
theorem l0 {H H' R':Hp}(s:aw R H)(sh:aw H H')(sr:aw R' H'){ts:List Addr}{fs:List (List Int)}(h:bO H R' ts fs):∃R2,Ext H R H' R2/\bO H R2 ts fs/\∀b,b∉ts->R2 b=R b:=by
 refine ⟨λb=>if H b=none/\b∈ts then R' b else R b,⟨sh,λb o q=>?_,λb o q=>?_,λb hb=>if_neg λz=>hb z.1⟩,?_,λb hb=>if_neg λz=>hb z.2⟩
 ·show (if H b=none/\b∈ts then R' b else R b)=some o
  rw [if_neg λz=>by rw [s b o q] at z;cases z.1];exact q
 ·have q:(if H b=none/\b∈ts then R' b else R b)=some o:=q
  by_cases hz:H b=none/\b∈ts
  ·rw [if_pos hz] at q;exact sr b o q
  ·rw [if_neg hz] at q;exact sh b o (s b o q)
 ·have key:∀{us:List Addr} {gs:List (List Int)},bO H R' us gs->(∀u∈us,u∈ts)->bO H (λb=>if H b=none/\b∈ts then R' b else R b) us gs:=by
   intro us gs h
   induction h with
   | nil=>intro _;exact .nil
   | @cons u g us gs h t ih=>intro hu;exact .cons ⟨h.1,(if_pos ⟨h.1,hu u List.mem_cons_self⟩).trans h.2⟩ (ih λv hv=>hu v (List.mem_cons_of_mem _ hv))
  exact key h λ_ q=>q
end
section
variable {X:Cx}{Γ Γ1 Γ2 Γ3:Ga}{α β γ δ:Type}{N:Ga->Prop}{T:RT}
variable {pos:Pos}{R:Hp}{xs:List α}{es:List Expr}{H:Hp}{C:Addr}
theorem Src.sub {K:PySem.W.Frag}{J:It}{R1:Hp}{r:Rep α}(h:Src K J R r xs)(s:aw R R1):Src K J R1 r xs:=λH' R' s1 s2 i=>h H' R' (s.trans s1) s2 i
theorem qd {Γf:Ga}(hF:∀(σ:St) (H0 R0 H R:Hp),av X.K σ H0 R0 H R Γ1->av X.K σ H H H H Γf){tg iter:Expr}{k:Nat}{tp:Pos}{scope:Scope}{cl:List (Str×Addr)}{own fr:List Str}{ix:List Nat}{ra:Rep α}{f:α->List Int}{bf:α->Ga->Ga}
 (S:cz X scope cl own fr ix) (hit:IV X tg iter Γ ra xs Γ1)
 (hb:∀(C:Addr) (s:Shared) (H:Hp) (ex:List Addr),BG (aL X scope cl C (own++fr) s H ex) tg ra bf) (hw:∀x,Wk (bf x (bQ own ix Γf)) (bQ own ix Γf))
 (he:∀(C:Addr) (s:Shared) (H:Hp) (ex:List Addr) x,x∈xs->EA (aL X scope cl C (own++fr) s H ex) es (bf x (bQ own ix Γf)) ag (f x) (bf x (bQ own ix Γf))) (hl:∀x∈xs,(f x).length<=sizeLine)
 {σ:St} {H0 R0:Hp} {Q:VK} (E:av X.K σ H0 R0 H R Γ) (q:∀H1 R1 H' R' a ts,av X.K σ H0 R0 H1 R1 Γ1->aw R R1->aw H1 H'->aw R' H'->bO H1 R' ts (xs.map f)->H' a=none->Q (.ref a) (upd H' a (.lst (ts.map V.ref))))
 (hc:X.calm=true) (hs:∀x,foldedSetIterable iter X.env x=pure x):cQ X (.ListComp (.Tuple es k tp) [⟨tg,iter,[],0⟩] scope pos) σ H Q:=by
 obtain ⟨wi,hi,hit⟩:=hit
 refine eS (kG (g:=λv σ H Q=>∀C s Hh ex,gb (aL X scope cl C (own++fr) s Hh ex) tg v σ H Q) (tc:=λσ H Q=>∀C s Hh ex,gD (aL X scope cl C (own++fr) s Hh ex) [] σ H Q) (te:=λσ H Q=>∀C s Hh ex,cQ (aL X scope cl C (own++fr) s Hh ex) (.Tuple es k tp) σ H Q) hc S hi
  (λC s H ex=>⟨λpins s1 σ H v u Q I r h=>h C s _ ex pins s1 u I r,λpins s1 σ H Q I h=>h C s _ ex pins s1 I,λpins s1 σ H Q I h=>h C s _ ex pins s1 I⟩) hs) ?_
 refine hit σ H0 R0 H R E _ λJ H1 R1 E1 s1 hz src=>?_
 have srcF:=src.sub E1.sub
 have E1f:=gR (hF σ H0 R0 H1 R1 E1) own ix
 refine ⟨λi m ys σ' H'=>m=xs.length - i/\i<=xs.length/\∃R' ts,av X.K σ' H1 H1 H' R' (bQ own ix Γf)/\ys=ts.map V.ref/\bO H1 R' ts ((xs.take i).map f),⟨_,rfl,Nat.zero_le _,H1,[],E1f,rfl,.nil⟩,?_⟩
 rintro i m ys σ' H' ⟨rfl,hle,R',ts,E',rfl,pp⟩
 have hys:(ts.map V.ref).length<=sizeLine:=by
  rw [List.length_map,pp.length,List.length_map,List.length_take]
  exact Nat.le_trans (Nat.min_le_right _ _) hz
 obtain ⟨sgo,sstop⟩:=srcF H' R' E'.ext.r E'.sub i
 refine ⟨hys,?_⟩
 by_cases hlt:i < xs.length
 ·obtain ⟨go,yl⟩:=sgo _ (List.getElem?_eq_getElem hlt)
  have hmem:xs[i]∈xs:=List.getElem_mem hlt
  have tk:(xs.take (i + 1))=xs.take i++[xs[i]]:=by rw [List.take_succ,List.getElem?_eq_getElem hlt];rfl
  refine .inr ⟨go,λv H2 hy C s Hh ex=>?_⟩
  obtain ⟨R2,x2,hr⟩:=yl v H2 hy
  refine hb C s Hh ex σ' H1 H1 H2 R2 _ v _ (E'.grow x2) hr _ λσ2 E2=>?_
  intro C s Hh ex
  refine (ej (X:=aL X scope cl C (own++fr) s Hh ex)) σ2 H1 H1 H2 R2 E2 _ λH4 R4 E4 s4=>?_
  rw [if_pos rfl]
  intro C s Hh ex
  refine eS (fF ie) (he C s Hh ex _ hmem σ2 H1 H1 H4 R4 E4 _ λvs H5 R5 E5 s5 p5=>⟨by rw [p5.length];exact hl _ hmem,λp hp=>?_⟩)
  have ev:=fo p5
  subst ev
  have x6:=Ext.fresh E5.sub hp (.tup ((f xs[i]).map V.int))
  have E6:=E5.grow x6
  refine ⟨xs.length - (i + 1),by omega,rfl,hlt,_,ts++[p],E6.weak (hw _),by rw [List.map_append];rfl,?_⟩
  rw [tk,List.map_append]
  exact bN (pp.mono (x2.r.trans (s4.trans (s5.trans x6.r)))) (.cons ⟨E5.ext.h.free hp,aF⟩ .nil)
 ·have e:i=xs.length:=by omega
  subst e
  rw [List.take_length] at pp
  exact .inl ⟨sstop (Nat.le_refl _),λa ha=>q H1 R1 H' R' a ts E1 s1 E'.ext.h E'.sub pp ha⟩
def qF (fs:List (List Int)):RT:=λH0 v H' R'=>∃a ts,v= .ref a/\H0 a=none/\H' a=some (.lst (ts.map V.ref))/\R' a=none/\bO H0 R' ts fs
theorem yf {tg iter:Expr}{k:Nat}{tp:Pos}{scope:Scope}{p2:Pos}{cl:List (Str×Addr)}{own fr:List Str}{ix:List Nat}{ra:Rep α}{f:α->List Int}{bf:α->Ga->Ga}(hF:∀(σ:St) (H0 R0 H R:Hp),av X.K σ H0 R0 H R Γ1->av X.K σ H H H H (Γ1.map fj))
 (S:cz X scope cl own fr ix) (hit:IV X tg iter Γ ra xs Γ1)
 (hb:∀(C:Addr) (s:Shared) (H:Hp) (ex:List Addr),BG (aL X scope cl C (own++fr) s H ex) tg ra bf) (hw:∀x,Wk (bf x (bQ own ix (Γ1.map fj))) (bQ own ix (Γ1.map fj)))
 (he:∀(C:Addr) (s:Shared) (H:Hp) (ex:List Addr) x,x∈xs->EA (aL X scope cl C (own++fr) s H ex) es (bf x (bQ own ix (Γ1.map fj))) ag (f x) (bf x (bQ own ix (Γ1.map fj)))) (hl:∀x∈xs,(f x).length<=sizeLine)
 (hc:X.calm=true:=by rfl) (hs:∀x,foldedSetIterable iter X.env x=pure x:=by intro _;rfl):W1 X (.Return (some (.ListComp (.Tuple es k tp) [⟨tg,iter,[],0⟩] scope pos)) p2) Γ N (qF (xs.map f)):=λσ H0 R0 H R E D dn dr=>
 sS (eA aN) (qd hF S hit hb hw he hl E (λH1 R1 H' R' a ts E1 s1 sh sr nt ha=>by
  obtain ⟨R2,xx,nt2,_⟩:=l0 E1.sub sh sr nt
  have E2:=E1.grow xx
  have xm:=Ext.cS E2.sub ha (.lst (ts.map V.ref))
  refine dr _ _ R2 (E2.ext.trans xm) ⟨a,ts,rfl,E2.ext.h.free ha,aF,E2.sub.free ha,Paired.map (λt ns ⟨h1,h2⟩=>⟨E1.ext.h.free h1,h2⟩) nt2⟩) hc hs)
theorem kI {S:cI}{x:Str}{k:Nat}{e:Expr}{p:Pos}{ps:List Pk}{fs:List (List Int)}(C:aV X.prog X.w X.K X.mg X.base x k (bg S X.K))(hr:bj k X.A)(ha:HA X (e::es) Γ ps Γ1)(hS:S X.K ps (qF fs))(hz:fs.length<=sizeLine)
 (hg:Gl X x:=by rfl) (hdb:(x==("__debug__":Str))=false:=by decide) (he:starEach (e::es) X.env=(false,eval e X.env)::starEach es X.env:=by rfl) (hpl:(backTo pos (starEach es X.env)).any (·.1)=false:=by rfl):
 bb X (.Call (.Name x p) (e::es) [] pos) Γ aj (fs.map tupI) Γ1:=λσ H0 R0 H R E Q q=>
 fL C hr ha hS E (λH1 R1 v H' R' E1 s1 xx t=>by
  obtain ⟨a,ts,rfl,h0,h1,h2,nt⟩:=t
  have E2:=E1.grow xx
  exact q a _ H' R' E2 (s1.trans xx.r) h1 h2 (E1.ext.h.free h0) (E1.off h0) nt.pv (by simpa using hz)) hg hdb he hpl
theorem bK.fr (s:aw R H):∀{fs:Fs},bK H R fs->bK H H fs
 | [],_=>trivial
 | (_,x)::r,⟨h1,h2⟩=>⟨by
   cases x with
   | i n=>trivial
   | l a xs=>obtain ⟨vs,e1,e2,e3⟩:=h1;exact ⟨vs,e1,e2.mono s,e3⟩
   | d a D=>exact h1,bK.fr s h2⟩
theorem bK.up {H':Hp}(s:aw H H'):∀{fs:Fs},bK H H fs->bK H' H' fs
 | [],_=>trivial
 | (_,x)::r,⟨h1,h2⟩=>⟨by
   cases x with
   | i n=>trivial
   | l a xs=>obtain ⟨vs,e1,e2,e3⟩:=h1;exact ⟨vs,s _ _ e1,e2.mono s,e3⟩
   | d a D=>exact s _ _ h1,bK.up s h2⟩
def rObj (C:Addr):Rep Fs:=⟨λ_ R v fs=>∃x dx,v= .ref x/\R x=some (.ins C dx (cV fs))/\bK R R fs,λs ⟨x,dx,e,q,h⟩=>⟨x,dx,e,s _ _ q,h.up s⟩⟩
theorem wx {i:Nat}{x:Addr}{l:List Addr}{fs:Fs}(hΓ:Γ[i]?=some (.ob ((aB C).bx (x::l) fs)))(σ:St)(H0 R0 H R:Hp)(E:av X.K σ H0 R0 H R Γ):av X.K σ H H H H ((Γ.map fj).set i (.im (rObj C) fs)):=by
 obtain ⟨ea,hR,dx,el,h1,h2,h3,nd⟩:=fB (E.ent i _ hΓ)
 exact E.frz.ua (i:=i) (e0:=.no) (by rw [List.getElem?_map,hΓ];rfl) ⟨.ref x,ea,x,dx,rfl,h1,h3.fr E.sub⟩ λb w=>by cases w
theorem vM (i:Nat){m f:Str}{e:Expr}{p1 ap:Pos}{a:Addr}{fs:Fs}{D:List (Int×Int)}{k n:Int}{ns:List Str}(hu:X.A.units + 1 < cLine)(hC:cq X.K C ns)(hf:f∈ns)(he:EV X e Γ ag k Γ)(hΓ:Γ[i]?=some (.im (rObj C) fs))(h:bu fs f=some (.d a D))(hk:dG D k=some n)
 (hN:X.N[i]?=some m:=by rfl) (hv:cL X.env.scope m:=by first | exact Or.inl rfl | exact Or.inr (Or.inl rfl) | exact Or.inr (Or.inr rfl)) (hd:(m==("__debug__":Str))=false:=by decide) (hcd:(m==("__classdict__":Str))=false:=by decide)
 (hbase:attributeBase (.Name m p1) f X.env (eval (.Name m p1) X.env)=eval (.Name m p1) X.env:=by rfl) (hs:oF e:=by exact λ_ _=>rfl):EV X (.Subscript (.Attribute (.Name m p1) f ap) e pos) Γ ag n Γ:=λσ H0 R0 H R E Q q=>by
 obtain ⟨v,ea,x,dx,rfl,h1,h3⟩:=E.ent i _ hΓ
 refine eS (vQ hu (dm (bM hN hv hd hcd) hbase) aN hs) ⟨.ref x,at_of ea,x,C,dx,_,_,rfl,E.sub _ _ h1,hC.cl,hC.no f hf,bS h,he σ H0 R0 H R E _ λv H1 R1 E1 s1 e1=>?_⟩
 have ha:R a=some (.dK (df D)):=h3.get h
 cases e1
 have g:=gN.k (k:=Sum.inl k) (E1.sub _ _ (s1 _ _ ha))
 rw [kf,hk] at g
 exact ⟨a,_,rfl,g,q _ H1 R1 E1 s1 rfl⟩
theorem pP (i:Nat){m f:Str}{p p1 ap:Pos}{x a:Addr}{l:List Addr}{fs:Fs}{xs:List PV}{ns:List Str}(hC:cq X.K C ns)(hf:f∈ns)(hm:X.mg "list"=none)(hΓ:Γ[i]?=some (.ob ((aB C).bx (x::l) fs)))(h:bu fs f=some (.l a xs))
 (hN:X.N[i]?=some m:=by rfl) (hv:cL X.env.scope m:=by first | exact Or.inl rfl | exact Or.inr (Or.inl rfl) | exact Or.inr (Or.inr rfl)) (hd:(m==("__debug__":Str))=false:=by decide) (hcd:(m==("__classdict__":Str))=false:=by decide)
 (hbase:attributeBase (.Name m p1) f X.env (eval (.Name m p1) X.env)=eval (.Name m p1) X.env:=by rfl) (hs:starEach [.Attribute (.Name m p1) f ap] X.env=[(false,eval (.Attribute (.Name m p1) f ap) X.env)]:=by rfl) (hg:Gl X "list":=by rfl):bb X (.Call (.Name "list" p) [.Attribute (.Name m p1) f ap] [] pos) Γ aj xs Γ:=λσ H0 R0 H R E Q q=>by
 obtain ⟨dx,ea,hR,el,h1,h2,h3,nd,⟨vs,ha,pp,hz0⟩,hin⟩:=cK (E.ent i _ hΓ) h
 refine eS (eW iy hg hm PyProof.Rows.boot_list (aH (dm (bM hN hv hd hcd) hbase) br hs) (by decide) (by decide) hs) ⟨.ref x,at_of ea,x,C,dx,_,_,rfl,h1,hC.cl,hC.no f hf,bS h,a,vs,rfl,.inl (bz.of ha),λd hd=>?_⟩
 exact q d _ _ R (E.grow (Ext.cS E.sub hd _)) (aw.refl _) aF (E.sub.free hd) (E.ext.h.free hd) (E.off hd) pp.pair hz0
end
theorem m9 {f:Str}{y:Fl}:∀{fs:Fs},bu fs f=none->cA (bJ f y fs)=cA fs++y.ad
 | [],_=>by simp [bJ,cA]
 | (g,z)::r,h=>by
   rw [bu] at h
   rw [bJ]
   by_cases e:g=f
   ·rw [if_pos e] at h;cases h
   ·rw [if_neg e] at h ⊢;rw [cA,cA,m9 h,List.append_assoc]
theorem bK.new {H R:Hp}{f:Str}{y:Fl}(hy:y.ok H R):∀{fs:Fs},bu fs f=none->bK H R fs->bK H R (bJ f y fs)
 | [],_,_=>⟨hy,trivial⟩
 | (g,z)::r,h,⟨h1,h2⟩=>by
   rw [bu] at h
   rw [bJ]
   by_cases e:g=f
   ·rw [if_pos e] at h;cases h
   ·rw [if_neg e] at h ⊢;exact ⟨h1,bK.new hy h h2⟩
section
variable {X:Cx}{Γ Γ1 Γ2 Γ3:Ga}{α β γ δ:Type}{N:Ga->Prop}{T:RT}
def ow (X:Cx)(e:Expr)(Γ:Ga)(P:Fl->Prop)(Γ1:Ga):Prop:=∀(σ:St) (H0 R0 H R:Hp),av X.K σ H0 R0 H R Γ->∀Q:VK,(∀y H' R',P y->av X.K σ H0 R0 H' R' Γ1->aw R R'->y.ok H' R'->(∀a∈y.ad,R' a=none/\H0 a=none/\Off a σ Γ1)->Q y.v H')->cQ X e σ H Q
theorem jV {e:Expr}{n:Int}(h:EV X e Γ ag n Γ1):ow X e Γ (· = .i n) Γ1:=λσ H0 R0 H R E Q q=>
 h σ H0 R0 H R E _ λv H1 R1 E1 s1 e1=>by
   cases e1
   exact q (.i n) H1 R1 rfl E1 s1 trivial λa ha=>by cases ha
theorem ki {e:Expr}{xs:List PV}(h:bb X e Γ aj xs Γ1):ow X e Γ (λy=>∃a,y= .l a xs) Γ1:=λσ H0 R0 H R E Q q=>
 h σ H0 R0 H R E _ λa vs H1 R1 E1 s1 ha hR h0 off pp z=>q (.l a xs) H1 R1 ⟨a,rfl⟩ E1 s1 ⟨vs,ha,.of pp,z⟩ λb hb=>by
   cases List.mem_singleton.mp hb
   exact ⟨hR,h0,off⟩
theorem eO (i:Nat){m f:Str}{e:Expr}{p1 ap pos:Pos}{C x:Addr}{l:List Addr}{fs:Fs}{ns:List Str}{P:Fl->Prop}(hC:cq X.K C ns)(hf:f∈ns)(he:ow X e Γ P Γ1)(hΓ1:Γ1[i]?=some (.ob ((aB C).bx (x::l) fs)))(h:bu fs f=none)(hz:fs.length < 1000)(hn:∀y,P y->N (Γ1.set i (.ob ((aB C).bx (x::(l++y.ad)) (bJ f y fs)))))
 (hN:X.N[i]?=some m:=by rfl) (hv:cL X.env.scope m:=by first | exact Or.inl rfl | exact Or.inr (Or.inl rfl) | exact Or.inr (Or.inr rfl)) (hd:(m==("__debug__":Str))=false:=by decide) (hcd:(m==("__classdict__":Str))=false:=by decide)
 (hsw:swapsWith e (some (.Attribute (.Name m p1) f ap)) pos.line X.env=pure false:=by rfl):W1 X (.Assign [.Attribute (.Name m p1) f ap] e pos) Γ N T:=λσ H0 R0 H R E D dn dr=>
 sS (qV (bM hN hv hd hcd) aN hsw) (he σ H0 R0 H R E _ λy H1 R1 hP E1 s1 hy hnew=>by
  obtain ⟨ea,hR,dx,el,h1,h2,h3,nd⟩:=fB (E1.ent i _ hΓ1)
  subst el
  have hx:∀b∈dx::cA fs,b≠x:=λb hb e=>(List.nodup_cons.mp nd).1 (e▸hb)
  have hoff:∀a∈y.ad,a∉x::dx::cA fs:=λa ha w=>(hnew a ha).2.2 i _ hΓ1 w
  have hyx:∀a∈y.ad,a≠x:=λa ha e=>hoff a ha (by rw [e];simp)
  have hyn:y.ad.Nodup:=by cases y<;>simp [Fl.ad]
  refine ⟨.ref x,at_of ea,x,C,dx,_,rfl,h1,hC.cl,hC.no f hf,by rw [fg];exact hz,?_⟩
  refine dn σ _ R1 _ (E1.se (en:=.ob ((aB C).bx (x::((dx::cA fs)++y.ad)) (bJ f y fs))) hΓ1 (a:=x) (by show x∈x::dx::cA fs;simp) ?_ λb hb=>?_) s1 (hn y hP)
  ·rw [ea]
   refine fD (B:=aB C) ⟨x,dx,by rw [m9 h];rfl,rfl,?_,?_,?_,?_⟩ λb hb=>?_
   ·rw [aF];exact congrArg (λz=>some (HO.ins C dx z)) (jn (y:=y))
   ·rw [aE (hx dx (by simp))];exact h2
   ·exact bK.new (hy.loc (λa ha=>aE (hyx a ha)) (aw.refl _)) h (h3.loc (λa ha=>aE (hx a (by simp [ha]))) (aw.refl _))
   ·show ((x::dx::cA fs)++y.ad).Nodup
    exact List.nodup_append.mpr ⟨nd,hyn,λa ha b hb e=>hoff b hb (e▸ha)⟩
   ·have hb:b∈(x::dx::cA fs)++y.ad:=hb
    rcases List.mem_append.mp hb with w | w
    ·exact hR b w
    ·exact (hnew b w).1
  ·have hb:b∈(x::dx::cA fs)++y.ad:=hb
   rcases List.mem_append.mp hb with w | w
   ·exact .inl w
   ·exact .inr ⟨(hnew b w).2.1,(hnew b w).2.2⟩)
abbrev ud:=PySem.W.Frag->Addr->List Pk->(Fs->Prop)->Prop
def pQ (S:ud)(K:PySem.W.Frag):Sp:=λvs H Q _=>∃R x dx C vs' ps Pd,vs= .ref x::vs'/\aw R H/\fV R [x,dx]/\((aB C).bx [x,dx] []).R K H R (.ref x)/\fH K R vs' ps/\S K C ps Pd/\
 ∀H' R' l fs,Ext (dQ H [x,dx]) R H' R'->((aB C).bx (x::l) fs).R K H' R' (.ref x)->fV R' (x::l)->(∀b∈x::l,dQ H [x,dx] b=none)->Pd fs->Q .non H'
variable {P:Program}{w:World}{K:PySem.W.Frag}{mg:Str->Option Value}{base:Heap}
theorem yd {S:ud}{x qual:Str}{st:Stmt}{f:Addr}{fd:FuncData}{N ps:List Str}{k:Nat}(F:bX K x qual st f fd)(Sc:aU N ps (aq st))(len:∀C qs Pd,S K C qs Pd->qs.length + 1=ps.length)
 (hbody:∀(cdv:Value) (A:Around) (outer:List Env) (s:Shared) (H:Hp) (E:XK) (C a dx:Addr) (qs:List Pk) (Pd:Fs->Prop),bj k (A.deeper (envOfC qual (aq st) s.heap.objs.size f cdv))->S K C qs Pd->
  WS (cf dJ P w K mg base N qual (aq st) f cdv A outer s H E).cH (bT st) (.ob ((aB C).bx [a,dx] [])::dM qs (N.length - 1)) (λΓ=>∃l fs,Γ[0]?=some (.ob ((aB C).bx (a::l) fs))/\Pd fs) (λ_ _ _ _=>False)):cJ P w K mg base dJ (k + 1) f fd ps (pQ S K):=by
 refine F.ok Sc (λvs H Q E h=>?_) (λcdv A outer s H vs Q E hr h=>?_)
 ·obtain ⟨R,a,dx,C,vs',qs,Pd,rfl,_,_,_,p,hS,_⟩:=h
  rw [List.length_cons,p.length];exact len C qs Pd hS
 ·obtain ⟨R,a,dx,C,vs',qs,Pd,rfl,sR,hR,hB,p,hS,q⟩:=h
  have hl:qs.length + 1<=N.length:=by
   rw [len C qs Pd hS]
   have:=congrArg List.length Sc.pre
   rw [List.length_take] at this
   omega
  refine ⟨_,eM,hbody cdv A outer s H E C a dx qs Pd hr hS (L2.start N (.ref a::vs')) (dQ H [a,dx]) R H R (jB (B:=aB C) sR hR hB p hl) {nx:=λ_ H'=>Q .non H',rt:=Q} (λσ' H' R' Γ' E' _ ⟨l,fs,hΓ,t⟩=>?_) λv H' R' xx t=>t.elim⟩
  obtain ⟨ea,hB',hR'⟩:=fR (B:=aB C) (E'.ent 0 _ hΓ)
  exact q H' R' l fs E'.ext hB' hR' (λb hb=>E'.nw 0 _ b hΓ hb) t
theorem qp (i:Nat){S:ud}{c y:Str}{k:Nat}{e:Expr}{es:List Expr}{p p1 p2 pos:Pos}{ps:List Pk}{Pd:Fs->Prop}{C f:Addr}{fd:FuncData}{pn:List Str}(M:Mk X.K C f)(F:cJ X.prog X.w X.K X.mg X.base dJ k f fd pn (pQ S X.K))(hr:bj (k + 1) X.A)(hm:X.mg c=some (.ref C))(hb:Binds X.K fd pn [])(ha:HA X (e::es) Γ ps Γ1)(hS:S X.K C ps Pd)(h:∀x l fs,Pd fs->N (Γ1.set i (.ob ((aB C).bx (x::l) fs))))
 (hg:Gl X c:=by rfl) (hdb:(c==("__debug__":Str))=false:=by decide) (he:starEach (e::es) X.env=(false,eval e X.env)::starEach es X.env:=by rfl) (hpl:(backTo p2 (starEach es X.env)).any (·.1)=false:=by rfl)
 (hN:X.N.Nodup:=by first | assumption | decide) (hi:X.N[i]?=some y:=by rfl) (hx:Loc X.env.scope y:=by first | exact Or.inl rfl | exact Or.inr rfl)
 (hs:swapsWith (.Call (.Name c p) (e::es) [] p2) (some (.Name y p1)) pos.line X.env=pure false:=by rfl) (hf:X.fn y=true∨X.env.scope.names.lookup y=some .local:=by first | exact .inl rfl | exact .inr rfl):
 W1 X (.Assign [.Name y p1] (.Call (.Name c p) (e::es) [] p2) pos) Γ N T:=λσ H0 R0 H R E D dn dr=>
 sS (eP hN hi hx (uR M F hr hg hm hb .nil gP ie hdb he hpl) hs hf) (ha σ H0 R0 H R E _ λvs H1 R1 E1 s1 p1 x dx hx hdx hne=>by
  have hd1:∀b,dQ (upd (upd H1 dx (.own x)) x (.ins C dx [])) [x,dx] b=H1 b:=λb=>by
   by_cases hb:b∈[x,dx]
   ·rw [iO hb]
    rcases List.mem_cons.mp hb with rfl | hb
    ·exact hx.symm
    ·rw [List.mem_singleton.mp hb];exact hdx.symm
   ·rw [dy hb]
    simp at hb
    rw [aE hb.1,aE hb.2]
  have hR:fV R1 [x,dx]:=λb hb=>by
   rcases List.mem_cons.mp hb with rfl | hb
   ·exact E1.sub.free hx
   ·rw [List.mem_singleton.mp hb];exact E1.sub.free hdx
  refine ⟨R1,x,dx,C,vs,ps,Pd,by rw [List.append_nil],λb o q=>?_,hR,⟨x,dx,rfl,rfl,aF,by rw [aE hne,aF],trivial,by simp [Ne.symm hne]⟩,p1,hS,λH' R' l fs xx hB hR' hl hP=>⟨rfl,?_⟩⟩
  ·have b1:b≠x:=λe=>by rw [e,hR x (by simp)] at q;cases q
   have b2:b≠dx:=λe=>by rw [e,hR dx (by simp)] at q;cases q
   rw [aE b1,aE b2];exact E1.sub b o q
  ·rw [show dQ (upd (upd H1 dx (.own x)) x (.ins C dx [])) [x,dx]=H1 from funext hd1] at xx hl
   refine dn _ H' R' _ ((E1.grow xx).setG (en:=.ob ((aB C).bx (x::l) fs)) i (fD (B:=aB C) hB hR') (λb hb=>E1.ext.h.free (hl b hb)) λb hb j e _ qj w=>?_) (s1.trans xx.r) (h x l fs hP)
   exact (Ent.dD (E1.ent j e qj) w).1 (hl b hb))
end
end Fc
namespace Fc.DP
open PySem PySem.Spec
theorem uM:typeLookup (.type "list") "keys"=pure none:=by rw [typeLookup_type,builtinLookup_eq_fast];kernel_rfl
theorem AF:typeLookup (.type "list") "__getattr__"=pure none:=by rw [typeLookup_type,builtinLookup_eq_fast];kernel_rfl
section
variable {prog:Program}{w:World}{A:Around}{E:Value->Shared->Prop}{h:Heap}{g:Array GenState}{d:Drawn}{t:Nat}{os:OsState}{a:Addr}{o:Obj}
variable {its:Array Value}{n:Nat}{u:Tok}
theorem vR {Q:Fin->Shared->Prop}(hx:h.get? a=some {cls:=.type "list",data:=.seq its n})(hh:A.handled=none)
 (hq:∀h' tk e,Heap.NewAttrErr h h' e (.ref a) "keys"->E (.ref e) ⟨h',g,d,tk,os⟩):wpAny (model prog w) A (Builtin.«object.__getattribute__» ⟨[.ref a,.str "keys" u],[]⟩) Q E ⟨h,g,d,t,os⟩:=by
 have hT:(⟨h,g,d,t,os⟩:Shared).TypeIs (.ref a) "list":=⟨_,hx,rfl⟩
 have f4:=uM
 unfold Builtin.«object.__getattribute__»
 repeat (any_goals (first | assumption | wp_step))
 exact wpAny_raiseAttrError hh hq (attrMsg_fits (by decide +kernel) (by size_fits))
theorem qX {R:Result->Shared->Prop}(hx:h.get? a=some {cls:=.type "list",data:=.seq its n})(hh:A.handled=none)
 (hq:∀h' tk e,Heap.NewAttrErr h h' e (.ref a) "keys"->R (.error (.ref e)) ⟨h',g,d,tk,os⟩):codeAny (model prog w) A (.call (.builtin "list.__getattribute__") ⟨[.ref a,.str "keys" u],[]⟩) R ⟨h,g,d,t,os⟩:=
 codeAny_call_builtin F.slot_list_getattribute.plain F.entry_list_ga (F.slot_list_getattribute.check _ _ _ _ _ _ _ _ (show (⟨h,g,d,t,os⟩:Shared).TypeIs (.ref a) "list" from ⟨_,hx,rfl⟩) (F.args_list_getattribute_2 _ _) (vR hx (by simpa using hh) hq))
theorem uQ {Q:Value->Shared->Prop}(hx:h.get? a=some {cls:=.type "list",data:=.seq its n})(hh:A.handled=none)
 (hq:∀h' tk e,Heap.NewAttrErr h h' e (.ref a) "keys"->E (.ref e) ⟨h',g,d,tk,os⟩):wpAny (model prog w) A (getAttrBy (.ref a) (.str "keys" u) false) Q E ⟨h,g,d,t,os⟩:=by
 have hT:(⟨h,g,d,t,os⟩:Shared).TypeIs (.ref a) "list":=⟨_,hx,rfl⟩
 have f1:=sub_AttributeError
 have f2:=F.slot_list_getattribute.lookup
 have f3:=F.slot_list_getattribute.bind (.ref a)
 have f5:=AF
 unfold getAttrBy
 repeat (any_goals (first | assumption | wp_step))
 refine qX hx hh λh' tk e hx'=>?_
 obtain ⟨t',u',he⟩:=hx'.there
 show wpAny _ _ (getattributeRaised _ _ _ _ _ _ _) _ _ _
 unfold getattributeRaised
 repeat (any_goals (first | assumption | wp_step))
 exact hq _ _ _ hx'
theorem vW {Q:Option Value->Shared->Prop}(hx:h.get? a=some {cls:=.type "list",data:=.seq its n})(hh:A.handled=none)
 (hq:∀h' tk,(∀b ob,h.get? b=some ob->h'.get? b=some ob)->Q none ⟨h',g,d,tk,os⟩):wpAny (model prog w) A (getAttr? (.ref a) "keys") Q E ⟨h,g,d,t,os⟩:=by
 have f1:=sub_AttributeError
 unfold getAttr? getAttrBy?
 refine wpAny_bind (wpAny_mkText ?_)
 refine wpAny_bind (wpAny_attempt (uQ hx hh λh' tk e hx'=>?_))
 obtain ⟨t',u',he⟩:=hx'.there
 dsimp only
 repeat (any_goals (first | assumption | wp_step))
 exact hq _ _ hx'.keeps
end
theorem j6:entryFor table "dict.update.loop"=some Builtin.«dict.update.loop»:=entryFor_of_tree (by kernel_rfl)
theorem e9:plainId "dict.update.loop"=true:=by decide +kernel
section
variable {prog:Program}{w:World}{K:Type} [DecidableEq K]{knd:KeyKind prog w K}{A:Around}{R:Result->Shared->Prop}{I:Addr}{fp wr:List Addr}{G:Array GenState->Array GenState->Prop}{n:Nat}{P:Nat->Value->Prop}{St:Nat->Shared->Prop}
def cE (knd:KeyKind prog w K)(h:Heap)(v:Value)(p:K×Value):Prop:=∃a k,v= .ref a/\knd.is p.1 k=true/\∃o,h.get? a=some o/\o.cls= .type "tuple"/\∃c,o.data= .seq #[k,p.2] c
theorem oY (kvs:List (K×Value))(k:K)(v:Value):(stored kvs k v).length<=kvs.length + 1:=by
 unfold stored
 split<;>simp
theorem loop (W:WalksS prog w A.in1 I fp wr G n P St)(S:Addr)(hSf:S∉fp)(ps:List (K×Value))(hn:ps.length=n)(base:Heap)
 (hval:∀i v,P i v->∃p,ps[i]?=some p/\cE knd base v p) (hbw:∀b∈S::wr,base.get? b=none) (hb:n < sizeLine):
 ∀(k i:Nat) (j:Int) (tj:Tok) (s:Shared) (kvs:List (K×Value)),n - i=k->i<=n->St i s->kvs.length<=i->s.heap.DictOf knd S kvs->(∀b o,base.get? b=some o->s.heap.get? b=some o)->
  (∀s',Moved (S::wr) G s s'->s'.heap.DictOf knd S (merged kvs (ps.drop i))->R (.ok (.ret .none)) s')->
  codeAny (model prog w) A (.builtin "dict.update.loop" ⟨[.ref S,.ref I,.int j tj,.none],[]⟩) R s:=by
 have hSw:S∉wr:=λh=>hSf (W.sub _ h)
 have hsub:∀b∈wr,b∈S::wr:=λb hb=>List.mem_cons_of_mem _ hb
 intro k
 induction k with
 | zero=>
   intro i j tj s kvs hk hi hst hl hS hbase hR
   have hin:i=n:=by omega
   subst hin
   refine codeAny_builtin j6 ?_
   rw [Around.under_plainId e9 _]
   show wpAny _ A.in1 (pyNext (.ref I) >>=_) _ _ s
   refine wpAny_bind (W.done s _ _ hst λs' hm=>?_)
   show wpAny _ A.in1 (Builtin.Dict.addKeywords S [] >>=_) _ _ s'
   refine wpAny_bind (wpAny_pure (wpAny_pure (hR s' (hm.mono hsub) ?_)))
   rw [List.drop_of_length_le (by omega)]
   obtain ⟨o,es,ep,ho,rest⟩:=hS
   exact ⟨o,es,ep,hm.heap S _ hSw ho,rest⟩
 | succ k ih=>
   intro i j tj s kvs hk hi hst hl hS hbase hR
   have hlt:i < n:=by omega
   refine codeAny_builtin j6 ?_
   rw [Around.under_plainId e9 _]
   show wpAny _ A.in1 (pyNext (.ref I) >>=_) _ _ s
   refine wpAny_bind (W.item i s _ _ hlt hst λv s' hP hst' hm=>?_)
   obtain ⟨p,hp,a,key,rfl,hkey,o,ho,hc,c,hd⟩:=hval i v hP
   have hS':s'.heap.DictOf knd S kvs:=by
    obtain ⟨o,es,ep,ho,rest⟩:=hS
    exact ⟨o,es,ep,hm.heap S _ hSw ho,rest⟩
   have hbase':∀b u,base.get? b=some u->s'.heap.get? b=some u:=λb u e=>hm.heap b u (λw=>by rw [hbw b (hsub b w)] at e;cases e) (hbase b u e)
   have ho':=hbase' _ _ ho
   have hT:s'.TypeIs (.ref a) "tuple":=⟨_,ho',hc⟩
   refine wpAny_bind (wpAny_holding ?_)
   refine wpAny_bind (wpAny_tryCatch ?_)
   unfold Builtin.Dict.pairItems
   refine wpAny_bind (wpAny_typeOf hT ?_)
   rw [if_pos (by decide)]
   refine wpAny_bind (wpAny_seqItems ho' hd (wpAny_pure ?_))
   show wpAny _ _ (holding [key,p.2] (dictSet S key p.2)) _ _ _
   refine wpAny_holding (wpAny_dictSet_pairs (hsz:=by omega) hkey hS' λh' hD hs=>?_)
   refine wpAny_pure ⟨plainId_quiet e9 _,ih (i + 1) _ _ _ (stored kvs p.1 p.2) (by omega) hlt (W.frame _ s' _ _ hst' (Nat.le_succ _) λb hb o e=>?_) (Nat.le_trans (oY _ _ _) (by omega)) hD (λb u e=>?_) λs'' hm'' hD''=>?_⟩
   ·rw [hs.2 b (λh:b=S=>hSf (by rw [← h];exact hb))];exact e
   ·rw [hs.2 b (λh:b=S=>by rw [h,hbw S List.mem_cons_self] at e;cases e)];exact hbase' b u e
   ·refine hR s'' (Moved.trans W.gtrans ((hm.mono hsub).then_heap (Nat.le_succ _) λb o hb e=>?_) hm'') ?_
    ·rw [hs.2 b (λh:b=S=>hb (by rw [h];exact List.mem_cons_self))];exact e
    ·have ed:ps.drop i=p::ps.drop (i + 1):=by
      rw [List.drop_eq_getElem_cons (by omega:i < ps.length)]
      rw [List.getElem?_eq_getElem (by omega:i < ps.length)] at hp
      rw [Option.some.inj hp]
     rw [ed]
     exact hD''
end
section
variable {prog:Program}{w:World}{K:Type} [DecidableEq K]{knd:KeyKind prog w K}{A:Around}{E:Value->Shared->Prop}{s:Shared}
theorem qW {l:Addr}{its:Array Value}{c:Nat}{ps:List (K×Value)}{Q:Value->Shared->Prop}(hh:A.handled=none)(hl:s.heap.get? l=some {cls:=.type "list",data:=.seq its c})(hn:ps.length=its.size)(hval:∀(i:Nat) (v:Value),its[i]?=some v->∃p,ps[i]?=some p/\cE knd s.heap v p)(hnd:(ps.map (·.1)).Nodup)(hb:ps.length < sizeLine)
 (h:∀h' tk,h'.DictOf knd s.heap.objs.size ps->(∀b o,s.heap.get? b=some o->h'.get? b=some o)->Q (.ref s.heap.objs.size) {s with heap:=h',toks:=tk}):
 wpAny (model prog w) A (call (.type "dict") [.ref l]) Q E s:=by
 obtain ⟨hp,g,d,tk,os⟩:=s
 have hlt:l < hp.objs.size:=Heap.lt_size hl
 refine callType_codes (Q₁:=λobj s₁=>obj= .ref hp.objs.size/\s₁=⟨hp.push {cls:=.type "dict",data:=.dict #[]},g,d,tk,os⟩) F.kt_called_dict (F.kt_typeCall_dict_1 _) F.entry_dict_init (kt_code_dict_new _ ⟨rfl,rfl⟩) ?_
 rintro obj s₁ ⟨rfl,rfl⟩
 have hnew:(hp.push {cls:=.type "dict",data:=.dict #[]}).DictOf knd hp.objs.size []:=Heap.DictOf.new hp
 have hl':(hp.push {cls:=.type "dict",data:=.dict #[]}).get? l=some {cls:=.type "list",data:=.seq its c}:=Heap.get?_push_of_some _ hl
 refine ⟨hnew.typeIs,F.args_dict_init_2 _ _,?_⟩
 unfold Builtin.«dict.__init__»
 refine wpAny_bind ?_
 unfold Builtin.Dict.selfAndRest
 refine wpAny_bind (wpAny_notOrdered_dict hnew.typeIs ?_)
 show wpAny _ _ (pure (hp.objs.size,[Value.ref l])) _ _ _
 refine wpAny_pure ?_
 show wpAny _ _ (Builtin.Dict.updateFrom "dict.__init__" hp.objs.size (.ref l) [] .none) _ _ _
 unfold Builtin.Dict.updateFrom
 refine wpAny_bind (wpAny_typeOf (T:="list") ⟨_,hl',rfl⟩ ?_)
 rw [if_pos (by decide)]
 refine wpAny_bind (vW hl' (by simpa using hh) λh1 tk1 hk1=>?_)
 rw [if_pos (show (none:Option Value).isNone=true from rfl)]
 have hl1:h1.IsList l its:=⟨_,hk1 _ _ hl',rfl,c,rfl⟩
 refine wpAny_bind (wpAny_rule ?_)
 refine wpAny_bind (wpAny_pyIter_list hl1 ?_)
 have hS1:hp.objs.size < h1.objs.size:=by
  obtain ⟨o,_,_,ho,_⟩:=hnew
  exact Heap.lt_size (hk1 _ _ ho)
 have hsz:hp.objs.size∉[h1.objs.size,l]:=by
  simp only [List.mem_cons,List.mem_singleton,List.not_mem_nil,or_false,not_or]
  exact ⟨Nat.ne_of_lt hS1,Nat.ne_of_gt hlt⟩
 refine wpAny_pure ⟨plainId_quiet e9 _,?_⟩
 refine loop (knd:=knd) ((Walks.list (A:=A.in1.in1) (by simpa using hh) _ l (Nat.ne_of_lt (Nat.lt_trans hlt hS1)) its).toS) hp.objs.size hsz ps hn hp (λi v hv=>hval i v hv) ?_ (by omega) (its.size - 0) 0 _ _ _ [] rfl (Nat.zero_le _) ⟨⟨_,Heap.get?_push_size _ rfl,rfl,rfl⟩,hl1.push _⟩ (Nat.zero_le _) ?_ ?_ ?_
 ·intro b hb
  rcases List.mem_cons.mp hb with rfl | hb
  ·exact Heap.get?_none_of_le (Nat.le_refl _)
  ·simp at hb
   subst hb
   exact Heap.get?_none_of_le (Nat.le_of_lt hS1)
 ·obtain ⟨o,es,ep,ho,r⟩:=hnew
  exact ⟨o,es,ep,Heap.get?_push_of_some _ (hk1 _ _ ho),r⟩
 ·intro b o e
  exact Heap.get?_push_of_some _ (hk1 _ _ (Heap.get?_push_of_some _ e))
 ·intro s' hm hD
  obtain ⟨h',g',d',tk',os'⟩:=s'
  have eg:g'=g:=hm.gens
  have ed:d'=d:=hm.drawn
  have eo:os'=os:=hm.os
  subst eg;subst ed;subst eo
  rw [List.drop_zero,merged_nil_of_nodup ps hnd] at hD
  refine ⟨rfl,h h' tk' hD λb o e=>?_⟩
  have hb:=Heap.lt_size e
  refine hm.heap b o (λw=>?_) (Heap.get?_push_of_some _ (hk1 _ _ (Heap.get?_push_of_some _ e)))
  rcases List.mem_cons.mp w with rfl | w
  ·exact Nat.lt_irrefl _ hb
  ·simp at w
   subst w
   exact Nat.lt_irrefl _ (Nat.lt_trans hb hS1)
end
end Fc.DP
namespace Fc
open PySem PySem.Spec L2
open PyProof.Rows hiding St
section
variable {X:Cx}{Γ Γ1 Γ2 Γ3:Ga}{α β γ δ:Type}{N:Ga->Prop}{T:RT}
abbrev aZ (D:List (Int×Int)):List PV:=D.map λp=>tupI [p.1,p.2]
theorem pairs_at {R:Hp}:∀{vs:List V} {D:List (Int×Int)},bE R vs (aZ D)->∀(i:Nat) (v:V),vs[i]?=some v->∃a p,v= .ref a/\D[i]?=some p/\R a=some (.tup [.int p.1,.int p.2])
 | _,[],.nil,i,v,h=>by simp at h
 | _,(p::D),.cons h t,i,v,e=>by
   cases i with
   | zero=>
     simp at e
     subst e
     cases h with
     | @tup a us _ ha hu=>
       cases hu with
       | cons h1 t1=>cases t1 with
         | cons h2 t2=>cases t2;cases h1;cases h2;exact ⟨a,p,rfl,rfl,ha⟩
   | succ i=>simpa using pairs_at t i v (by simpa using e)
theorem oG (hc:X.calm=true):dg X (.type "dict") (λxs H Q=>∃(p:Addr) (vs:List V) (D:List (Int×Int)) (R:Hp),xs=[.ref p]/\H p=some (.lst vs)/\aw R H/\bE R vs (aZ D)/\(D.map (·.1)).Nodup/\D.length < sizeLine/\∀d,H d=none->Q (.ref d) (upd H d (.dK (df D)))):=by
 intro pins s σ H xs us Q I r h
 obtain ⟨p,vs,D,R,rfl,hq,sR,pp,nd,hz,q⟩:=h
 obtain ⟨u,rfl,rx⟩:=vals1 r
 cases rx
 obtain ⟨z,its,n,rv,ho⟩:=(show bG X.prog X.w H s.heap p (.lst vs) from I.hok p _ hq)
 have hl:vs.length=D.length:=by rw [pp.pair.length,List.length_map]
 have hli:its.length=D.length:=by rw [← rv.length];exact hl
 have key:∀(m:Nat),m<=D.length->∃ps:List (Key×Value),KV (df (D.take m)) ps/\∀(i:Nat) (v:Value),i < m->its[i]?=some v->∃p,ps[i]?=some p/\DP.cE (bH X.prog X.w) s.heap v p:=by
  intro m
  induction m with
  | zero=>intro _;exact ⟨[],.nil,λi v h=>absurd h (Nat.not_lt_zero _)⟩
  | succ m ih=>
    intro hm
    obtain ⟨ps,kv,hps⟩:=ih (by omega)
    have hml:m < vs.length:=by omega
    obtain ⟨a,pr,ea,ed,hR⟩:=pairs_at pp m vs[m] (List.getElem?_eq_getElem hml)
    obtain ⟨uv,e1,r1⟩:=rv.get (List.getElem?_eq_getElem hml)
    rw [ea] at r1
    obtain rfl:uv=Value.ref a:=r1
    obtain ⟨_,ts,rt,o,h1,h2,c,h3⟩:=(show bG X.prog X.w H s.heap a (.tup [.int pr.1,.int pr.2]) from I.hok a _ (sR _ _ hR))
    have hpl:ps.length=m:=by
     have:=kv.length
     unfold df at this
     rw [List.length_map,List.length_take] at this
     omega
    cases rt with
    | @cons _ k1 _ _ g1 t1=>cases t1 with
      | @cons _ k2 _ _ g2 t2=>
        cases t2
        refine ⟨ps++[(Sum.inl pr.1,k2)],?_,λi v hi e=>?_⟩
        ·rw [List.take_succ,ed]
         unfold df
         rw [List.map_append]
         exact bN kv (.cons ⟨rfl,g2⟩ .nil)
        ·by_cases hi2:i < m
         ·obtain ⟨p2,e2,e3⟩:=hps i v hi2 e
          exact ⟨p2,by rw [List.getElem?_append_left (by omega)];exact e2,e3⟩
         ·have:i=m:=by omega
          subst this
          rw [e1] at e
          cases e
          refine ⟨(Sum.inl pr.1,k2),by rw [List.getElem?_append_right (by omega),hpl];simp,a,k1,rfl,gI (k:=Sum.inl pr.1) g1,o,h1,h2,c,h3⟩
 obtain ⟨ps,kv,hps⟩:=key D.length (Nat.le_refl _)
 rw [List.take_length] at kv
 have hpl:ps.length=D.length:=by
  have:=kv.length
  unfold df at this
  rw [List.length_map] at this
  exact this.symm
 have hks:ps.map (·.1)=D.map λp=>(Sum.inl p.1:Key):=by
  have:∀{A:List (Key×V)} {B:List (Key×Value)},KV A B->B.map (·.1)=A.map (·.1):=by
   intro A B h
   unfold KV at h
   induction h with
   | nil=>rfl
   | cons h t ih=>rw [List.map_cons,List.map_cons,ih,h.1]
  rw [this kv]
  unfold df
  rw [List.map_map];rfl
 have hkn:(ps.map (·.1)).Nodup:=by
  rw [hks]
  have e:(D.map λp=>(Sum.inl p.1:Key))=(D.map (·.1)).map Sum.inl:=by rw [List.map_map];rfl
  rw [e]
  exact List.Pairwise.map _ (λa b h z=>h (Sum.inl.inj z)) nd
 refine DP.qW (knd:=bH X.prog X.w) (ps:=ps) (I.ok.hd hc) ho (by rw [hpl,List.size_toArray,hli]) (λi v hv=>?_) hkn (by rw [hpl];exact hz) λh' tk dd hk=>?_
 ·have hv:its[i]?=some v:=by simpa using hv
  have hi:i < D.length:=by rw [← hli];exact (List.getElem?_eq_some_iff.mp hv).1
  exact hps i v hi hv
 ·have hn:H s.heap.objs.size=none:=I.hok.fresh (Nat.le_refl _)
  exact ⟨.ref s.heap.objs.size,_,I.laid (a:=s.heap.objs.size) (o:=.dK (df D)) (t':=tk) hk (Nat.le_refl _) (qu (by unfold df;rw [List.length_map];exact Nat.le_of_lt hz) (beq_eq_false_iff_ne.mpr (Ne.symm (Nat.ne_of_lt I.big))) kv dd),rfl,q _ hn⟩
theorem vi {a:Expr}{p pos:Pos}{D:List (Int×Int)}(hm:X.mg "dict"=none)(ha:EV X a Γ aj (.lst (aZ D)) Γ1)(nd:(D.map (·.1)).Nodup)(hz:D.length < sizeLine)(hc:X.calm=true:=by rfl)(hs:starEach [a] X.env=[(false,eval a X.env)]:=by rfl)(hg:Gl X "dict":=by rfl):ow X (.Call (.Name "dict" p) [a] [] pos) Γ (λy=>∃b,y= .d b D) Γ1:=λσ H0 R0 H R E Q q=>by
 refine eS (eW (oG hc) hg hm PyProof.Rows.boot_dict (aH aN br hs) (by decide) (by decide) hs) (ha σ H0 R0 H R E _ λv H1 R1 E1 s1 e1=>?_)
 cases e1 with
 | @lst b vs _ hb pp _=>
   refine ⟨b,vs,D,R1,rfl,E1.sub _ _ hb,E1.sub,pp,nd,hz,λd hd=>?_⟩
   exact q (.d d D) _ R1 ⟨d,rfl⟩ (E1.grow (Ext.cS E1.sub hd _)) s1 aF λc hc=>by
    cases List.mem_singleton.mp hc
    exact ⟨E1.sub.free hd,E1.ext.h.free hd,E1.off hd⟩
end
section
variable {X:Cx}{Γ Γ1 Γ2 Γ3:Ga}{α β γ δ:Type}{N:Ga->Prop}{T:RT}
variable {x y:Str}
theorem gq:decide (V.str x=V.str y)=decide (x=y):=by
 by_cases h:x=y
 ·subst h;simp
 ·rw [decide_eq_false h,decide_eq_false λz=>h (by injection z)]
theorem aI:eQ X .Eq cY cY x y (decide (x=y)):=⟨_,tK,λR H v u Q _ e1 e2 q=>by
 cases e1;cases e2
 exact ⟨rfl,by rw [gq];exact q⟩⟩
theorem Al:eQ X .NotEq cY cY x y (!decide (x=y)):=⟨_,tR,λR H v u Q _ e1 e2 q=>by
 cases e1;cases e2
 exact ⟨rfl,by rw [gq];exact q⟩⟩
theorem aM {pos:Pos}{n:Str}{t:Tok}(hm:X.mg x=some (.str n t))(hg:Gl X x:=by rfl)(hd:(x==("__debug__":Str))=false:=by decide):EV X (.Name x pos) Γ cY n Γ:=
 λ_ _ _ _ _ E _ q=>eS (fu (v:=.str n) hg hm ⟨t,rfl⟩ hd) (q (.str n) _ _ E (aw.refl _) rfl)
def mm:Rep (List Str):=⟨λK R v xs=>∃a,v= .ref a/\bL K R a (xs.map V.str),λs ⟨a,e,h⟩=>⟨a,e,by
 rcases h with h | h
 ·exact .inl (h.imp (λq=>s _ _ q) λ⟨o,q⟩=>⟨o,s _ _ q⟩)
 ·exact .inr h⟩⟩
theorem me (x:Str):∀xs:List Str,tW (.str x) (xs.map V.str)=decide (x∈xs)
 | []=>rfl
 | y::r=>by
   have h:=me x r
   unfold tW at h ⊢
   rw [List.map_cons,List.any_cons,h]
   have e:jS (V.str y) (V.str x)=decide (x=y):=by
    show (y==x)=_
    by_cases h:x=y
    ·subst h;simp
    ·rw [decide_eq_false h];exact beq_eq_false_iff_ne.mpr (Ne.symm h)
   rw [e]
   by_cases h1:x=y<;>simp [h1]
theorem kY:∀xs:List Str,(xs.map V.str).all fc=true
 | []=>rfl
 | _::r=>by rw [List.map_cons,List.all_cons,kY r];rfl
theorem oU {xs:List Str}:eQ X .In cY mm x xs (decide (x∈xs)):=⟨_,px,λR H v u Q s e1 e2 q=>by
 cases e1
 obtain ⟨a,rfl,h⟩:=e2
 exact ⟨a,_,rfl,.inr (h.imp (λh=>h.imp (λq=>s _ _ q) λ⟨o,q⟩=>⟨o,s _ _ q⟩) id),rfl,kY xs,by rw [if_neg Bool.false_ne_true,me];exact q⟩⟩
def xP (K:PySem.W.Frag)(mg:Str->Option Value)(x:Str)(xs:List Str):Prop:=∃a o its n,mg x=some (.ref a)/\K.lookup a=some o/\o.cls= .type "tuple"/\o.data= .seq its n/\its.size<=sizeLine/\Vals (xs.map V.str) its.toList
theorem lY {pos:Pos}{xs:List Str}(hm:xP X.K X.mg x xs)(hg:Gl X x:=by rfl)(hd:(x==("__debug__":Str))=false:=by decide):EV X (.Name x pos) Γ mm xs Γ:=by
 obtain ⟨a,o,its,n,h1,h2⟩:=hm
 exact λ_ _ _ _ _ E _ q=>eS (fu (v:=.ref a) hg h1 rfl hd) (q (.ref a) _ _ E (aw.refl _) ⟨a,rfl,.inr ⟨o,its,n,h2⟩⟩)
end
end Fc
namespace K1
open PySem L2 Fc
structure ba where
 at_:Int
 frames:List (Int×Int×Int)
 boxes:List (Int×Int)
 told:List (Int×Int×Int)
 chain:Int
 rows:List Int
 used:Int
 idle:Int
abbrev t3 (x:Int×Int×Int):List Int:=[x.1,x.2.1,x.2.2]
abbrev gW (x:Int×Int×Int):PV:=tupI (t3 x)
abbrev l3 (xs:List (Int×Int×Int)):List PV:=xs.map gW
abbrev cD (xs:List Int):List PV:=xs.map PV.int
structure gU where
 f:Addr
 b:Addr
 t:Addr
 r:Addr
def aW (a:gU)(m:ba):Fs:=[("at",.i m.at_),("frames",.l a.f (l3 m.frames)),("boxes",.d a.b m.boxes),("told",.l a.t (l3 m.told)),("chain",.i m.chain),("rows",.l a.r (cD m.rows)),("used",.i m.used),("idle",.i m.idle)]
def aX (m:ba):List PV:=[.int m.at_,.lst (l3 m.frames),.lst (aZ m.boxes),.lst (l3 m.told),.int m.chain,.lst (cD m.rows),.int m.used,.int m.idle]
abbrev fns:List Str:=["at","frames","boxes","told","chain","rows","used","idle"]
section
variable {a:gU}{m:ba}
theorem gc:bu (aW a m) "at"=some (.i m.at_):=rfl
theorem ik:bu (aW a m) "frames"=some (.l a.f (l3 m.frames)):=rfl
theorem oA:bu (aW a m) "boxes"=some (.d a.b m.boxes):=rfl
theorem yq:bu (aW a m) "told"=some (.l a.t (l3 m.told)):=rfl
theorem ml:bu (aW a m) "chain"=some (.i m.chain):=rfl
theorem ky:bu (aW a m) "rows"=some (.l a.r (cD m.rows)):=rfl
theorem ou:bu (aW a m) "used"=some (.i m.used):=rfl
theorem om:bu (aW a m) "idle"=some (.i m.idle):=rfl
theorem BQ {n:Int}:bJ "at" (.i n) (aW a m)=aW a {m with at_:=n}:=rfl
theorem sq {xs:List (Int×Int×Int)}:bJ "frames" (.l a.f (l3 xs)) (aW a m)=aW a {m with frames:=xs}:=rfl
theorem BU {xs:List (Int×Int×Int)}:bJ "told" (.l a.t (l3 xs)) (aW a m)=aW a {m with told:=xs}:=rfl
theorem nX {xs:List Int}:bJ "rows" (.l a.r (cD xs)) (aW a m)=aW a {m with rows:=xs}:=rfl
theorem BB {D:List (Int×Int)}:bJ "boxes" (.d a.b D) (aW a m)=aW a {m with boxes:=D}:=rfl
end
end K1
namespace K1
open PySem
abbrev top (i:Nat):Stmt:=PySem.Challenge.pw_fewcounters_k77_whole_machine.main.body.getD i (.Pass ⟨0,0,0,0⟩)
abbrev mV:Nat:=5
abbrev mC:Nat:=6
abbrev jK:Nat:=12
abbrev nY:Nat:=27
abbrev oj:Nat:=28
abbrev mL:Nat:=29
abbrev gX:Nat:=30
abbrev jQ:Nat:=31
abbrev rY:Nat:=32
abbrev vp:Nat:=33
abbrev mQ:Nat:=34
abbrev mX:Nat:=35
abbrev mZ:Nat:=36
abbrev pd:Nat:=37
abbrev wu:Nat:=38
abbrev vZ:Nat:=39
abbrev oE:Nat:=40
abbrev nW:Nat:=41
abbrev lp:Nat:=43
abbrev lh:Nat:=44
abbrev ma:Nat:=45
abbrev la:Nat:=46
abbrev mR:Nat:=47
abbrev mK:Nat:=48
abbrev mf:Nat:=49
abbrev jO:Nat:=50
abbrev gY:Nat:=51
abbrev mJ:Nat:=52
abbrev yw:Nat:=53
end K1
namespace K1
open PySem L2 Fc
open PySem.Spec hiding Row
open PyProof.Rows hiding St
structure bZ (K:PySem.W.Frag) (mg:Str->Option Value):Prop where
 yes:∃t,mg "YES"=some (.int 1 t)
 nowhere:∃t,mg "NOWHERE"=some (.int (-1) t)
 most:∃t,mg "MOST_IDLE"=some (.int 1000 t)
 ended:∃t,mg "ENDED"=some (.str "ended" t)
 bound:∃t,mg "BOUND"=some (.str "bound" t)
 wanting:∃t,mg "WANTING"=some (.str "wanting" t)
 astray:∃t,mg "ASTRAY"=some (.str "astray" t)
 row:∃t,mg "ROW"=some (.str "row" t)
 ask:∃t,mg "ASK"=some (.str "ask" t)
 jump:∃t,mg "JUMP"=some (.str "jump" t)
 call:∃t,mg "CALL"=some (.str "call" t)
 back:∃t,mg "BACK"=some (.str "back" t)
 count:∃t,mg "COUNT"=some (.str "count" t)
 add:∃t,mg "ADD"=some (.str "add" t)
 tell:∃t,mg "TELL"=some (.str "tell" t)
 going:xP K mg "GOING" ["row","ask","call"]
 len:mg "len"=none
 all:mg "all"=none
 range:mg "range"=none
 enumerate:mg "enumerate"=none
 isinstance:mg "isinstance"=none
 int:mg "int"=none
 bool:mg "bool"=none
 str:mg "str"=none
 list:mg "list"=none
 dict:mg "dict"=none
 tuple:mg "tuple"=none
 min:mg "min"=none
 sorted:mg "sorted"=none
 sum:mg "sum"=none
 zip:mg "zip"=none
inductive Ln
 | row (p:Int)
 | ask (p q j:Int)
 | jump (j:Int)
 | call (p j n:Int)
 | back
 | count (b:Int)
 | add (n:Int)
 | tell (p n:Int)
def Ln.k:Ln->Str
 | .row _=>"row"
 | .ask _ _ _=>"ask"
 | .jump _=>"jump"
 | .call _ _ _=>"call"
 | .back=>"back"
 | .count _=>"count"
 | .add _=>"add"
 | .tell _ _=>"tell"
def Ln.ns:Ln->List Int
 | .row p=>[p]
 | .ask p q j=>[p,q,j]
 | .jump j=>[j]
 | .call p j n=>[p,j,n]
 | .back=>[]
 | .count b=>[b]
 | .add n=>[n]
 | .tell p n=>[p,n]
abbrev da (l:Ln):PV:=.tup (.str l.k::l.ns.map PV.int)
section
variable {P:Program}{w:World}{K:PySem.W.Frag}{mg:Str->Option Value}{base:Heap}{f:Addr}{fd:FuncData}{C:Addr}
theorem aQ {x:Str}(h:decide (x∈fns)=true):x∈fns:=of_decide_eq_true h
abbrev tM:Stmt:=top wu
abbrev wy:List Str:=["machine","told","answer"]
theorem xp:aU wy wy (aq tM):=⟨rfl,rfl,rfl,by decide +kernel,rfl,by decide +kernel,by decide +kernel⟩
def jm (m:ba)(p q j ans:Int):ba:=if ans=1 then {m with used:=m.used + 1,rows:=m.rows++[p]} else {m with used:=m.used + 1,rows:=m.rows++[q],at_:=j}
def A2:iD Fs:=λK s ps T=>∃(a:gU) (m:ba) (p q j ans:Int),s=aW a m/\ps=[⟨aj,da (.ask p q j)⟩,⟨ag,ans⟩]/\m.rows.length < sizeLine/\T=λs'=>dc K eY λw=>s'=aW a (jm m p q j ans)/\w=()
theorem fO {xs:List Int}{p:Int}:cD xs++[PV.int p]=cD (xs++[p]):=(List.map_append (f:=PV.int) (l₁:=xs) (l₂:=[p])).symm
theorem dB {xs:List (Int×Int×Int)}{p:Int×Int×Int}:l3 xs++[gW p]=l3 (xs++[p]):=(List.map_append (f:=gW) (l₁:=xs) (l₂:=[p])).symm
theorem fk {a:gU}{m:ba}:(aW a m).length < 1000:=by show 8 < 1000;decide
theorem cm:3<=sizeLine:=by decide
theorem zF (M:bZ K mg)(HC:cq K C fns)(F:bX K "ask" "ask" tM f fd)(hm:mg "ask"=some (.ref f))(hb:Binds K fd wy []):aV P w K mg base "ask" 1 (dI (aB C) A2 K):=by
 have nd:=xp.nd
 obtain ⟨t1,hY⟩:=M.yes
 refine fM F xp hm hb (λs qs T ⟨a,m,p,q,j,ans,_,e,_⟩=>by rw [e];rfl) (λcdv A outer s H E x l u qs T hr hS=>?_)
 obtain ⟨a,m,p,q,j,ans,rfl,rfl,hz,rfl⟩:=hS
 change WS _ _ [.ob ((aB C).bx (x::l) (aW a m)),.im aj (da (.ask p q j)),.im ag ans] _ _
 refine ai (lT 0 HC (aQ (by decide)) rfl ae ou fk ?_)
 change WS _ _ [.ob ((aB C).bx (x::l) (aW a {m with used:=m.used + 1})),.im aj (da (.ask p q j)),.im ag ans] _ _
 refine ay (aD (ao eu (aa 2 rfl) (ku hY)) (λh=>?_) (λh=>?_))
 ·refine ay (gz 0 HC (aQ (by decide)) (az (aa 1 rfl) ae rfl) rfl ky (by simpa using hz) ?_)
  rw [fO,nX]
  refine ⟨_,rfl,λ_ _ _=>⟨(),rfl,?_,rfl⟩⟩
  rw [jm,if_pos (of_decide_eq_true h)]
 ·refine ai (gz 0 HC (aQ (by decide)) (az (aa 1 rfl) ae rfl) rfl ky (by simpa using hz) ?_)
  rw [fO,nX]
  change WS _ _ [.ob ((aB C).bx (x::l) (aW a {m with used:=m.used + 1,rows:=m.rows++[q]})),.im aj (da (.ask p q j)),.im ag ans] _ _
  refine ay (kj 0 HC (aQ (by decide)) (EV.iP (n:=j) (az (aa 1 rfl) ae rfl)) rfl gc fk ?_)
  rw [BQ]
  refine ⟨_,rfl,λ_ _ _=>⟨(),rfl,?_,rfl⟩⟩
  rw [jm,if_neg (of_decide_eq_false h)]
abbrev tT:Stmt:=top vZ
abbrev xW:List Str:=["machine","told"]
theorem ya:aU xW xW (aq tT):=⟨rfl,rfl,rfl,by decide +kernel,rfl,by decide +kernel,by decide +kernel⟩
def oR (m:ba)(p j n:Int):ba:={m with rows:=m.rows++[p],frames:=m.frames++[(m.at_,0,m.chain)],chain:=m.chain + n,at_:=j}
def SCL:iD Fs:=λK s ps T=>∃(a:gU) (m:ba) (p j n:Int),s=aW a m/\ps=[⟨aj,da (.call p j n)⟩]/\m.rows.length < sizeLine/\m.frames.length < sizeLine/\T=λs'=>dc K eY λw=>s'=aW a (oR m p j n)/\w=()
theorem zK (M:bZ K mg)(HC:cq K C fns)(F:bX K "call" "call" tT f fd)(hm:mg "call"=some (.ref f))(hb:Binds K fd xW []):aV P w K mg base "call" 1 (dI (aB C) SCL K):=by
 have nd:=ya.nd
 refine fM F ya hm hb (λs qs T ⟨a,m,p,j,n,_,e,_⟩=>by rw [e];rfl) (λcdv A outer s H E x l u qs T hr hS=>?_)
 obtain ⟨a,m,p,j,n,rfl,rfl,hz,hz2,rfl⟩:=hS
 change WS _ _ [.ob ((aB C).bx (x::l) (aW a m)),.im aj (da (.call p j n))] _ _
 refine ai (gz 0 HC (aQ (by decide)) (az (aa 1 rfl) ae rfl) rfl ky (by simpa using hz) ?_)
 rw [fO,nX]
 change WS _ _ [.ob ((aB C).bx (x::l) (aW a {m with rows:=m.rows++[p]})),.im aj (da (.call p j n))] _ _
 refine ai (gz 0 HC (aQ (by decide)) (y:=gW (m.at_,0,m.chain)) (aR (ah (EV.pI (dw 0 HC (aQ (by decide)) rfl gc)) (ah (EV.pI ae) (ah (EV.pI (dw 0 HC (aQ (by decide)) rfl ml)) aA))) cm) rfl ik (by simpa using hz2) ?_)
 rw [dB,sq]
 change WS _ _ [.ob ((aB C).bx (x::l) (aW a {m with rows:=m.rows++[p],frames:=m.frames++[(m.at_,0,m.chain)]})),.im aj (da (.call p j n))] _ _
 refine ai (lT 0 HC (aQ (by decide)) rfl (EV.iP (n:=n) (az (aa 1 rfl) ae rfl)) ml fk ?_)
 change WS _ _ [.ob ((aB C).bx (x::l) (aW a {m with rows:=m.rows++[p],frames:=m.frames++[(m.at_,0,m.chain)],chain:=m.chain + n})),.im aj (da (.call p j n))] _ _
 refine ay (kj 0 HC (aQ (by decide)) (EV.iP (n:=j) (az (aa 1 rfl) ae rfl)) rfl gc fk ?_)
 exact ⟨_,rfl,λ_ _ _=>⟨(),rfl,rfl,rfl⟩⟩
abbrev uf:Stmt:=top oE
abbrev nSS:List Str:=["machine","number","frame"]
theorem yK:aU nSS ["machine","number"] (aq uf):=⟨rfl,rfl,rfl,by decide +kernel,rfl,by decide +kernel,by decide +kernel⟩
def A5:iD Fs:=λK s ps T=>∃(a:gU) (m:ba) (n:Int) (fr:List (Int×Int×Int)) (g:Int×Int×Int),s=aW a m/\ps=[⟨ag,n⟩]/\m.frames=fr++[g]/\T=λs'=>dc K eY λw=>s'=aW a {m with frames:=fr++[(g.1,n,g.2.2)]}/\w=()
theorem uV {α:Type}{xs:List α}{y:α}:cM (xs++[y]) (-1)=some y:=sf (by simp)
theorem iI {fr:List (Int×Int×Int)}{g:Int×Int×Int}:cM (l3 (fr++[g])) (-1)=some (gW g):=by rw [← dB];exact uV
theorem zR (M:bZ K mg)(HC:cq K C fns)(F:bX K "set_sum" "set_sum" uf f fd)(hm:mg "set_sum"=some (.ref f))(hb:Binds K fd ["machine","number"] []):aV P w K mg base "set_sum" 1 (dI (aB C) A5 K):=by
 have nd:=yK.nd
 refine fM F yK hm hb (λs qs T ⟨a,m,n,fr,g,_,e,_⟩=>by rw [e];rfl) (λcdv A outer s H E x l u qs T hr hS=>?_)
 obtain ⟨a,m,n,fr,g,rfl,rfl,hf,rfl⟩:=hS
 change WS _ _ [.ob ((aB C).bx (x::l) (aW a m)),.im ag n,.no] _ _
 refine ai (bw 2 (lB 0 HC (aQ (by decide)) (cX ae) rfl ik (by rw [hf];exact iI)) ?_)
 change WS _ _ [.ob ((aB C).bx (x::l) (aW a m)),.im ag n,.im aj (gW g)] _ _
 refine ay (rF 0 HC (aQ (by decide)) (y:=gW (g.1,n,g.2.2)) (j:=fr.length) (aR (ah (az (aa 2 rfl) ae rfl) (ah (EV.pI (aa 1 rfl)) (ah (az (aa 2 rfl) ae rfl) aA))) cm) (cX ae) rfl ik ?_ ?_)
 ·rw [hf,List.length_map]
  unfold gT
  rw [if_neg (by decide),if_pos (by simp;omega)]
  congr 1
  simp
  omega
 ·have e:(l3 m.frames).set fr.length (gW (g.1,n,g.2.2))=l3 (fr++[(g.1,n,g.2.2)]):=by
   rw [hf,← dB,← dB]
   rw [List.set_append_right _ _ (by simp)]
   simp
  rw [e,sq]
  exact ⟨_,rfl,λ_ _ _=>⟨(),rfl,rfl,rfl⟩⟩
abbrev uh:Stmt:=top nW
abbrev nGB:List Str:=["machine","frame"]
theorem wz:aU nGB ["machine"] (aq uh):=⟨rfl,rfl,rfl,by decide +kernel,rfl,by decide +kernel,by decide +kernel⟩
def Bc:iD Fs:=λK s ps T=>∃(a:gU) (m:ba) (fr:List (Int×Int×Int)) (g:Int×Int×Int),s=aW a m/\ps=[]/\m.frames=fr++[g]/\T=λs'=>dc K eY λw=>s'=aW a {m with frames:=fr,at_:=g.1,chain:=g.2.2}/\w=()
theorem Ak (M:bZ K mg)(HC:cq K C fns)(F:bX K "go_back" "go_back" uh f fd)(hm:mg "go_back"=some (.ref f))(hb:Binds K fd ["machine"] []):aV P w K mg base "go_back" 1 (dI (aB C) Bc K):=by
 have nd:=wz.nd
 refine fM F wz hm hb (λs qs T ⟨a,m,fr,g,_,e,_⟩=>by rw [e];rfl) (λcdv A outer s H E x l u qs T hr hS=>?_)
 obtain ⟨a,m,fr,g,rfl,rfl,hf,rfl⟩:=hS
 change WS _ _ [.ob ((aB C).bx (x::l) (aW a m)),.no] _ _
 refine ai (bw 1 (vP 0 (xs:=l3 fr) (y:=gW g) HC (aQ (by decide)) rfl (by rw [dB,← hf];exact ik)) ?_)
 rw [sq]
 change WS _ _ [.ob ((aB C).bx (x::l) (aW a {m with frames:=fr})),.im aj (gW g)] _ _
 refine ai (kj 0 HC (aQ (by decide)) (EV.iP (n:=g.1) (az (aa 1 rfl) ae rfl)) rfl gc fk ?_)
 change WS _ _ [.ob ((aB C).bx (x::l) (aW a {m with frames:=fr,at_:=g.1})),.im aj (gW g)] _ _
 refine ay (kj 0 HC (aQ (by decide)) (EV.iP (n:=g.2.2) (az (aa 1 rfl) ae rfl)) rfl ml fk ?_)
 exact ⟨_,rfl,λ_ _ _=>⟨(),rfl,rfl,rfl⟩⟩
end
section
variable {P:Program}{w:World}{K:PySem.W.Frag}{mg:Str->Option Value}{base:Heap}{f:Addr}{fd:FuncData}{C:Addr}
def dN (l:Ln):Bool:=decide (l.k∈(["row","ask","call"]:List Str))
def eB (l:Ln)(ans:List Int)(bound:Int)(m:ba):Option Str:=
 if dN l=true/\(m.rows.length:Int)≥bound then some "bound" else
 if l.k="ask"/\m.used≥(ans.length:Int) then some "wanting" else
 if l.k="back"/\m.frames.length=1 then some "ended" else none
def aO (code:List Ln)(ans:List Int)(bound:Int)(m:ba):Option Str:=
 if m.at_=code.length∨m.idle≥1000 then some "astray" else eB (code.getD m.at_.toNat .back) ans bound m
def oP:Option Str->PV
 | none=>.non
 | some x=>.str x
theorem EV.pN {X:Cx}{Γ Γ1:Ga}{e:Expr}(h:EV X e Γ eY () Γ1):EV X e Γ aj .non Γ1:=h.re λK R v e=>by cases e;exact .non
abbrev aK (code:List Ln):List PV:=code.map da
abbrev uE:Stmt:=top mZ
abbrev nST:List Str:=["machine","code","answers","bound","kind"]
theorem wj:aU nST ["machine","code","answers","bound"] (aq uE):=⟨rfl,rfl,rfl,by decide +kernel,rfl,by decide +kernel,by decide +kernel⟩
def nI:iD Fs:=λK s ps T=>∃(a:gU) (m:ba) (code:List Ln) (ans:List Int) (bound:Int),s=aW a m/\ps=[⟨ak aj,aK code⟩,⟨ak ag,ans⟩,⟨ag,bound⟩]/\0<=m.at_/\m.at_<=code.length/\T=λs'=>dc K aj λy=>s'=aW a m/\y=oP (aO code ans bound m)
theorem nB {α:Type}{y:α}{ys:List α}:cM (y::ys) 0=some y:=by rw [lO (by decide) (by simp)];rfl
theorem jr {X:Cx}{Γ Γ1:Ga}{α:Type}{N:Ga->Prop}{T:RT}{e:Expr}{pos:Pos}{r:Rep α}{y:α}(he:EV X e Γ r y Γ1)(h:N Γ1)(hsw:swapsWith e none pos.line X.env=pure false:=by rfl):W1 X (.Expr e pos) Γ N T:=λσ H0 R0 H R E D dn dr=>
 sS (eC aN hsw) (he σ H0 R0 H R E _ λv H1 R1 E1 s1 e1=>dn σ H1 R1 _ E1 s1 h)
theorem code_at {code:List Ln}{i:Int}(h0:0<=i)(h1:i < code.length):cM (aK code) i=some (da (code.getD i.toNat .back)):=by
 rw [lO h0 (by rw [List.length_map];exact h1),List.getElem?_map,List.getD_eq_getElem?_getD,List.getElem?_eq_getElem (by omega)];rfl
theorem zD (M:bZ K mg)(HC:cq K C fns)(F:bX K "still_at" "still_at" uE f fd)(hm:mg "still_at"=some (.ref f))(hb:Binds K fd ["machine","code","answers","bound"] []):aV P w K mg base "still_at" 1 (dI (aB C) nI K):=by
 have nd:=wj.nd
 obtain ⟨t1,h1⟩:=M.most
 obtain ⟨t2,h2⟩:=M.astray
 obtain ⟨t3,h3⟩:=M.bound
 obtain ⟨t4,h4⟩:=M.ask
 obtain ⟨t5,h5⟩:=M.wanting
 obtain ⟨t6,h6⟩:=M.back
 obtain ⟨t7,h7⟩:=M.ended
 refine fM F wj hm hb (λs qs T ⟨a,m,code,ans,bound,_,e,_⟩=>by rw [e];rfl) (λcdv A outer s H E x l u qs T hr hS=>?_)
 obtain ⟨a,m,code,ans,bound,rfl,rfl,p0,p1,rfl⟩:=hS
 change WS _ _ [.ob ((aB C).bx (x::l) (aW a m)),.im (ak aj) (aK code),.im (ak ag) ans,.im ag bound,.no] _ _
 refine ai (aD (TW.tv (c7 (ao eu (dw 0 HC (aQ (by decide)) rfl gc) (fA M.len (aa 1 rfl))) (λ_=>cU (ao jo (dw 0 HC (aQ (by decide)) rfl om) (ku h1))))) (λh=>?_) (λh=>aG ?_))
 ·refine ay (hJ 0 (EV.pS (aM h2)) rfl ⟨rfl,?_⟩)
  rw [List.length_map] at h
  simp only [Bool.or_eq_true,decide_eq_true_eq] at h
  rw [aO,if_pos h];rfl
 rw [List.length_map] at h
 simp only [Bool.or_eq_false_iff,decide_eq_false_iff_not] at h
 have hn:¬(m.at_=code.length∨m.idle≥1000):=λz=>z.elim h.1 h.2
 have hlt:m.at_ < code.length:=by omega
 rw [aO,if_neg hn]
 have hat:=code_at p0 hlt
 generalize (code.getD m.at_.toNat .back)=ln at hat ⊢
 refine ai (bw 4 (EV.sP (x:=ln.k) (az (cn (aa 1 rfl) (dw 0 HC (aQ (by decide)) rfl gc) hat) ae nB)) ?_)
 change WS _ _ [.ob ((aB C).bx (x::l) (aW a m)),.im (ak aj) (aK code),.im (ak ag) ans,.im ag bound,.im cY ln.k] _ _
 refine ai (aD (TW.tv (fz (ao oU (aa 4 rfl) (lY M.going)) (λ_=>eK (ao jo (nD 0 HC (aQ (by decide)) M.len rfl ky) (aa 3 rfl))))) (λh=>?_) (λh=>aG ?_))
 ·refine ay (hJ 0 (EV.pS (aM h3)) rfl ⟨rfl,?_⟩)
  rw [List.length_map] at h
  simp only [Bool.and_eq_true,decide_eq_true_eq] at h
  rw [eB,if_pos ⟨decide_eq_true h.1,h.2⟩];rfl
 rw [List.length_map] at h
 have hn1:¬(dN ln=true/\(m.rows.length:Int)≥bound):=λz=>by
  simp only [Bool.and_eq_false_iff,decide_eq_false_iff_not] at h
  exact h.elim (λq=>q (of_decide_eq_true z.1)) λq=>q z.2
 rw [eB,if_neg hn1]
 refine ai (aD (TW.tv (fz (ao aI (aa 4 rfl) (aM h4)) (λ_=>eK (ao jo (dw 0 HC (aQ (by decide)) rfl ou) (fA M.len (aa 2 rfl)))))) (λh=>?_) (λh=>aG ?_))
 ·refine ay (hJ 0 (EV.pS (aM h5)) rfl ⟨rfl,?_⟩)
  simp only [Bool.and_eq_true,decide_eq_true_eq] at h
  rw [if_pos h];rfl
 have hn2:¬(ln.k="ask"/\m.used≥(ans.length:Int)):=λz=>by
  simp only [Bool.and_eq_false_iff,decide_eq_false_iff_not] at h
  exact h.elim (λq=>q z.1) λq=>q z.2
 rw [if_neg hn2]
 refine ai (aD (TW.tv (fz (ao aI (aa 4 rfl) (aM h6)) (λ_=>eK (ao eu (nD 0 HC (aQ (by decide)) M.len rfl ik) ae)))) (λh=>?_) (λh=>aG ?_))
 ·refine ay (hJ 0 (EV.pS (aM h7)) rfl ⟨rfl,?_⟩)
  rw [List.length_map] at h
  simp only [Bool.and_eq_true,decide_eq_true_eq] at h
  rw [if_pos ⟨h.1,by omega⟩];rfl
 rw [List.length_map] at h
 have hn3:¬(ln.k="back"/\m.frames.length=1):=λz=>by
  simp only [Bool.and_eq_false_iff,decide_eq_false_iff_not] at h
  exact h.elim (λq=>q z.1) λq=>q (by omega)
 rw [if_neg hn3]
 exact ay (hJ 0 (EV.pN dC) rfl ⟨rfl,rfl⟩)
def eh (m0:ba)(l:Ln)(a:Int):ba:=
 let m:ba:={m0 with idle:=if dN l then 0 else m0.idle + 1,at_:=m0.at_ + 1}
 let g:=m0.frames.getLastD (0,0,0)
 match l with
 | .row p=>{m with rows:=m.rows++[p]}
 | .ask p q j=>jm m p q j a
 | .jump j=>{m with at_:=j}
 | .call p j n=>oR m p j n
 | .back=>{m with frames:=m.frames.dropLast,at_:=g.1,chain:=g.2.2}
 | .count b=>{m with boxes:=dP b ((dG m.boxes b).getD 0 + 1) m.boxes}
 | .add n=>{m with frames:=m.frames.dropLast++[(g.1,g.2.1 + n,g.2.2)]}
 | .tell p n=>{m with told:=m.told++[(p,m.chain,g.2.1)],frames:=m.frames.dropLast++[(g.1,n,g.2.2)]}
abbrev rk:Stmt:=top pd
abbrev A6:List Str:=["machine","code","answers","told","kind"]
theorem xb:aU A6 ["machine","code","answers"] (aq rk):=⟨rfl,rfl,rfl,by decide +kernel,rfl,by decide +kernel,by decide +kernel⟩
structure zl (m:ba):Prop where
 r:m.rows.length < 100000
 f:m.frames.length < 100000
 t:m.told.length < 100000
 b:m.boxes.length < 100000
 ne:m.frames≠[]
def qO:iD Fs:=λK s ps T=>∃(a:gU) (m:ba) (code:List Ln) (ans:List Int),s=aW a m/\ps=[⟨ak aj,aK code⟩,⟨ak ag,ans⟩]/\0<=m.at_/\m.at_ < code.length/\zl m/\((code.getD m.at_.toNat .back).k="ask"->0<=m.used/\m.used < ans.length)/\T=λs'=>dc K eY λw=>s'=aW a (eh m (code.getD m.at_.toNat .back) (ans.getD m.used.toNat 0))/\w=()
theorem Ai (M:bZ K mg)(HC:cq K C fns)(CA:aV P w K mg base "ask" 1 (dI (aB C) A2 K))(CC:aV P w K mg base "call" 1 (dI (aB C) SCL K))(CS:aV P w K mg base "set_sum" 1 (dI (aB C) A5 K))(CG:aV P w K mg base "go_back" 1 (dI (aB C) Bc K))
 (F:bX K "do_next" "do_next" rk f fd) (hm:mg "do_next"=some (.ref f)) (hb:Binds K fd ["machine","code","answers"] []):aV P w K mg base "do_next" 2 (dI (aB C) qO K):=by
 have nd:=xb.nd
 obtain ⟨t1,h1⟩:=M.row
 obtain ⟨t2,h2⟩:=M.ask
 obtain ⟨t3,h3⟩:=M.jump
 obtain ⟨t4,h4⟩:=M.call
 obtain ⟨t5,h5⟩:=M.count
 obtain ⟨t6,h6⟩:=M.add
 obtain ⟨t7,h7⟩:=M.tell
 refine fM F xb hm hb (λs qs T ⟨a,m,code,ans,_,e,_⟩=>by rw [e];rfl) (λcdv A outer s H E x l u qs T hr hS=>?_)
 obtain ⟨a,m,code,ans,rfl,rfl,p0,p1,ok,hu,rfl⟩:=hS
 have hu0:(cf dJ P w K mg base A6 "do_next" (aq rk) f cdv A outer s H E).cH.A.units + 1 < cLine:=Nat.lt_of_le_of_lt (Nat.add_le_add_left (by decide:1<=64) _) hr.units
 change WS _ _ [.ob ((aB C).bx (x::l) (aW a m)),.im (ak aj) (aK code),.im (ak ag) ans,.no,.no] _ _
 have hat:=code_at p0 p1
 generalize (code.getD m.at_.toNat .back)=ln at hat hu ⊢
 obtain ⟨fr,g,hg⟩:∃fr g,m.frames=fr++[g]:=⟨m.frames.dropLast,m.frames.getLast ok.ne,(List.dropLast_concat_getLast ok.ne).symm⟩
 have hgl:m.frames.getLastD (0,0,0)=g:=by rw [hg];simp
 have hgd:m.frames.dropLast=fr:=by rw [hg];simp
 have big:(100000:Nat)<=sizeLine:=by decide
 have okr:=ok.r
 have okf:=ok.f
 have okt:=ok.t
 have okb:=ok.b
 refine ai (bw 3 (cn (aa 1 rfl) (dw 0 HC (aQ (by decide)) rfl gc) hat) ?_)
 change WS _ _ [.ob ((aB C).bx (x::l) (aW a m)),.im (ak aj) (aK code),.im (ak ag) ans,.im aj (da ln),.no] _ _
 refine ai (bw 4 (EV.sP (x:=ln.k) (az (aa 3 rfl) ae nB)) ?_)
 change WS _ _ [.ob ((aB C).bx (x::l) (aW a m)),.im (ak aj) (aK code),.im (ak ag) ans,.im aj (da ln),.im cY ln.k] _ _
 refine ai (kj 0 HC (aQ (by decide)) (z0 (ao oU (aa 4 rfl) (lY M.going)) (λ_=>ae) (λ_=>bW (dw 0 HC (aQ (by decide)) rfl om) ae)) rfl om fk ?_)
 change WS _ _ [.ob ((aB C).bx (x::l) (aW a {m with idle:=if dN ln then 0 else m.idle + 1})),.im (ak aj) (aK code),.im (ak ag) ans,.im aj (da ln),.im cY ln.k] _ _
 refine ai (lT 0 HC (aQ (by decide)) rfl ae gc fk ?_)
 change WS _ _ [.ob ((aB C).bx (x::l) (aW a {m with idle:=if dN ln then 0 else m.idle + 1,at_:=m.at_ + 1})),.im (ak aj) (aK code),.im (ak ag) ans,.im aj (da ln),.im cY ln.k] _ _
 cases ln with
 | row p=>
   refine ay (aD (ao aI (aa 4 rfl) (aM h1)) (λ_=>?_) (λh=>absurd (show ("row":Str)="row" from rfl) (of_decide_eq_false h)))
   refine ay (gz 0 HC (aQ (by decide)) (az (aa 3 rfl) ae rfl) rfl ky (by simpa using Nat.lt_of_lt_of_le okr big) ?_)
   rw [fO,nX]
   exact ⟨_,rfl,λ_ _ _=>⟨(),rfl,rfl,rfl⟩⟩
 | ask p q j=>
   have hu1:=hu rfl
   refine ay (aD (ao aI (aa 4 rfl) (aM h1)) (λh=>absurd (show ("ask":Str)="row" from of_decide_eq_true h) (by decide)) (λ_=>?_))
   refine ay (aD (ao aI (aa 4 rfl) (aM h2)) (λ_=>?_) (λh=>absurd (show ("ask":Str)="ask" from rfl) (of_decide_eq_false h)))
   refine ay (jr (cZ 0 CA hr (au (aa 3 rfl) (au (cn (aa 2 rfl) (dw 0 HC (aQ (by decide)) rfl ou) (fX 0 hu1.1 hu1.2)) aP)) rfl rfl ⟨a,_,p,q,j,_,rfl,rfl,Nat.lt_of_lt_of_le okr big,rfl⟩) ?_)
   exact ⟨_,rfl,λ_ _ _=>⟨(),rfl,rfl,rfl⟩⟩
 | jump j=>
   refine ay (aD (ao aI (aa 4 rfl) (aM h1)) (λh=>absurd (show ("jump":Str)="row" from of_decide_eq_true h) (by decide)) (λ_=>?_))
   refine ay (aD (ao aI (aa 4 rfl) (aM h2)) (λh=>absurd (show ("jump":Str)="ask" from of_decide_eq_true h) (by decide)) (λ_=>?_))
   refine ay (aD (ao aI (aa 4 rfl) (aM h3)) (λ_=>?_) (λh=>absurd (show ("jump":Str)="jump" from rfl) (of_decide_eq_false h)))
   refine ay (kj 0 HC (aQ (by decide)) (EV.iP (n:=j) (az (aa 3 rfl) ae rfl)) rfl gc fk ?_)
   exact ⟨_,rfl,λ_ _ _=>⟨(),rfl,rfl,rfl⟩⟩
 | call p j n=>
   refine ay (aD (ao aI (aa 4 rfl) (aM h1)) (λh=>absurd (show ("call":Str)="row" from of_decide_eq_true h) (by decide)) (λ_=>?_))
   refine ay (aD (ao aI (aa 4 rfl) (aM h2)) (λh=>absurd (show ("call":Str)="ask" from of_decide_eq_true h) (by decide)) (λ_=>?_))
   refine ay (aD (ao aI (aa 4 rfl) (aM h3)) (λh=>absurd (show ("call":Str)="jump" from of_decide_eq_true h) (by decide)) (λ_=>?_))
   refine ay (aD (ao aI (aa 4 rfl) (aM h4)) (λ_=>?_) (λh=>absurd (show ("call":Str)="call" from rfl) (of_decide_eq_false h)))
   refine ay (jr (cZ 0 CC hr (au (aa 3 rfl) aP) rfl rfl ⟨a,_,p,j,n,rfl,rfl,Nat.lt_of_lt_of_le okr big,Nat.lt_of_lt_of_le okf big,rfl⟩) ?_)
   exact ⟨_,rfl,λ_ _ _=>⟨(),rfl,rfl,rfl⟩⟩
 | count b=>
   refine ay (aD (ao aI (aa 4 rfl) (aM h1)) (λh=>absurd (show ("count":Str)="row" from of_decide_eq_true h) (by decide)) (λ_=>?_))
   refine ay (aD (ao aI (aa 4 rfl) (aM h2)) (λh=>absurd (show ("count":Str)="ask" from of_decide_eq_true h) (by decide)) (λ_=>?_))
   refine ay (aD (ao aI (aa 4 rfl) (aM h3)) (λh=>absurd (show ("count":Str)="jump" from of_decide_eq_true h) (by decide)) (λ_=>?_))
   refine ay (aD (ao aI (aa 4 rfl) (aM h4)) (λh=>absurd (show ("count":Str)="call" from of_decide_eq_true h) (by decide)) (λ_=>?_))
   refine ay (aD (ao aI (aa 4 rfl) (aM h5)) (λ_=>?_) (λh=>absurd (show ("count":Str)="count" from rfl) (of_decide_eq_false h)))
   refine ay (uJ 0 hu0 HC (aQ (by decide)) (EV.iP (n:=b) (az (aa 3 rfl) ae rfl)) (bW (sX 0 hu0 HC (aQ (by decide)) (EV.iP (n:=b) (az (aa 3 rfl) ae rfl)) ae rfl oA) ae) rfl oA (Nat.lt_of_lt_of_le okb big) ?_)
   rw [BB]
   exact ⟨_,rfl,λ_ _ _=>⟨(),rfl,rfl,rfl⟩⟩
 | add n=>
   refine ay (aD (ao aI (aa 4 rfl) (aM h1)) (λh=>absurd (show ("add":Str)="row" from of_decide_eq_true h) (by decide)) (λ_=>?_))
   refine ay (aD (ao aI (aa 4 rfl) (aM h2)) (λh=>absurd (show ("add":Str)="ask" from of_decide_eq_true h) (by decide)) (λ_=>?_))
   refine ay (aD (ao aI (aa 4 rfl) (aM h3)) (λh=>absurd (show ("add":Str)="jump" from of_decide_eq_true h) (by decide)) (λ_=>?_))
   refine ay (aD (ao aI (aa 4 rfl) (aM h4)) (λh=>absurd (show ("add":Str)="call" from of_decide_eq_true h) (by decide)) (λ_=>?_))
   refine ay (aD (ao aI (aa 4 rfl) (aM h5)) (λh=>absurd (show ("add":Str)="count" from of_decide_eq_true h) (by decide)) (λ_=>?_))
   refine ay (aD (ao aI (aa 4 rfl) (aM h6)) (λ_=>?_) (λh=>absurd (show ("add":Str)="add" from rfl) (of_decide_eq_false h)))
   refine ay (jr (cZ 0 CS hr (au (bW (EV.iP (n:=g.2.1) (az (lB 0 HC (aQ (by decide)) (cX ae) rfl ik (by show cM (l3 m.frames) (-1)=_;rw [hg];exact iI)) ae rfl)) (EV.iP (n:=n) (az (aa 3 rfl) ae rfl))) aP) rfl rfl ⟨a,_,_,fr,g,rfl,rfl,hg,rfl⟩) ?_)
   refine ⟨_,rfl,λ_ _ _=>⟨(),rfl,?_,rfl⟩⟩
   rw [eh,hgl,hgd]
 | tell p n=>
   refine ay (aD (ao aI (aa 4 rfl) (aM h1)) (λh=>absurd (show ("tell":Str)="row" from of_decide_eq_true h) (by decide)) (λ_=>?_))
   refine ay (aD (ao aI (aa 4 rfl) (aM h2)) (λh=>absurd (show ("tell":Str)="ask" from of_decide_eq_true h) (by decide)) (λ_=>?_))
   refine ay (aD (ao aI (aa 4 rfl) (aM h3)) (λh=>absurd (show ("tell":Str)="jump" from of_decide_eq_true h) (by decide)) (λ_=>?_))
   refine ay (aD (ao aI (aa 4 rfl) (aM h4)) (λh=>absurd (show ("tell":Str)="call" from of_decide_eq_true h) (by decide)) (λ_=>?_))
   refine ay (aD (ao aI (aa 4 rfl) (aM h5)) (λh=>absurd (show ("tell":Str)="count" from of_decide_eq_true h) (by decide)) (λ_=>?_))
   refine ay (aD (ao aI (aa 4 rfl) (aM h6)) (λh=>absurd (show ("tell":Str)="add" from of_decide_eq_true h) (by decide)) (λ_=>?_))
   refine ay (aD (ao aI (aa 4 rfl) (aM h7)) (λ_=>?_) (λh=>absurd (show ("tell":Str)="tell" from rfl) (of_decide_eq_false h)))
   refine ai (gz 0 HC (aQ (by decide)) (y:=gW (p,m.chain,g.2.1)) (aR (ah (az (aa 3 rfl) ae rfl) (ah (EV.pI (dw 0 HC (aQ (by decide)) rfl ml)) (ah (EV.pI (EV.iP (n:=g.2.1) (az (lB 0 HC (aQ (by decide)) (cX ae) rfl ik (by show cM (l3 m.frames) (-1)=_;rw [hg];exact iI)) ae rfl))) aA))) cm) rfl yq (by simpa using Nat.lt_of_lt_of_le okt big) ?_)
   rw [dB,BU]
   refine ay (jr (cZ 0 CS hr (au (EV.iP (n:=n) (az (aa 3 rfl) ae rfl)) aP) rfl rfl ⟨a,_,_,fr,g,rfl,rfl,hg,rfl⟩) ?_)
   refine ⟨_,rfl,λ_ _ _=>⟨(),rfl,?_,rfl⟩⟩
   rw [eh,hgl,hgd]
 | back=>
   refine ay (aD (ao aI (aa 4 rfl) (aM h1)) (λh=>absurd (show ("back":Str)="row" from of_decide_eq_true h) (by decide)) (λ_=>?_))
   refine ay (aD (ao aI (aa 4 rfl) (aM h2)) (λh=>absurd (show ("back":Str)="ask" from of_decide_eq_true h) (by decide)) (λ_=>?_))
   refine ay (aD (ao aI (aa 4 rfl) (aM h3)) (λh=>absurd (show ("back":Str)="jump" from of_decide_eq_true h) (by decide)) (λ_=>?_))
   refine ay (aD (ao aI (aa 4 rfl) (aM h4)) (λh=>absurd (show ("back":Str)="call" from of_decide_eq_true h) (by decide)) (λ_=>?_))
   refine ay (aD (ao aI (aa 4 rfl) (aM h5)) (λh=>absurd (show ("back":Str)="count" from of_decide_eq_true h) (by decide)) (λ_=>?_))
   refine ay (aD (ao aI (aa 4 rfl) (aM h6)) (λh=>absurd (show ("back":Str)="add" from of_decide_eq_true h) (by decide)) (λ_=>?_))
   refine ay (aD (ao aI (aa 4 rfl) (aM h7)) (λh=>absurd (show ("back":Str)="tell" from of_decide_eq_true h) (by decide)) (λ_=>?_))
   refine ay (jr (cZ 0 CG hr aP rfl rfl ⟨a,_,fr,g,rfl,rfl,hg,rfl⟩) ?_)
   refine ⟨_,rfl,λ_ _ _=>⟨(),rfl,?_,rfl⟩⟩
   rw [eh,hgl,hgd]
end
end K1
namespace Fc
open PySem PySem.Spec L2
open PyProof.Rows hiding St
section
variable {X:Cx}{Γ Γ1 Γ2 Γ3:Ga}{α β γ δ:Type}{N:Ga->Prop}{T:RT}
def qL (X:Cx)(e:Expr)(Γ:Ga)(fs:List (List Int))(Γ1:Ga):Prop:=
 ∀(σ:St) (H0 R0 H R:Hp),av X.K σ H0 R0 H R Γ->∀Q:VK,(∀a ts H' R',av X.K σ H0 R0 H' R' Γ1->aw R R'->H' a=some (.lst (ts.map V.ref))->R' a=none->H a=none->bO H0 R' ts fs->Q (.ref a) H')->cQ X e σ H Q
theorem bO.not {H0 R:Hp}{b:Addr}(hb:R b=none):∀{us:List Addr} {gs:List (List Int)},bO H0 R us gs->b∉us
 | _,_,.nil,z=>by cases z
 | _,_,.cons h t,z=>by
   rcases List.mem_cons.mp z with rfl | z
   ·rw [h.2] at hb;cases hb
   ·exact bO.not hb t z
theorem bO.low {H0 H R:Hp}(s:aw H0 H){us:List Addr}{gs:List (List Int)}(h:bO H R us gs):bO H0 R us gs:=Paired.map (λ_ _ ⟨a,b⟩=>⟨s.free a,b⟩) h
theorem jN (i:Nat){S:cI}{g m f:Str}{k:Nat}{p p1 ap pos:Pos}{C x a:Addr}{l:List Addr}{fs:Fs}{xs:List PV}{ns:List Str}{us:List (List Int)}(Cc:aV X.prog X.w X.K X.mg X.base g k (bg S X.K))(hr:bj k X.A)(hC:cq X.K C ns)(hf:f∈ns)(hΓ:Γ[i]?=some (.ob ((aB C).bx (x::l) fs)))(h:bu fs f=some (.l a xs))(hS:S X.K [⟨ak aj,xs⟩] (qF us))
 (hN:X.N[i]?=some m:=by rfl) (hv:cL X.env.scope m:=by first | exact Or.inl rfl | exact Or.inr (Or.inl rfl) | exact Or.inr (Or.inr rfl)) (hd:(m==("__debug__":Str))=false:=by decide) (hcd:(m==("__classdict__":Str))=false:=by decide)
 (hbase:attributeBase (.Name m p1) f X.env (eval (.Name m p1) X.env)=eval (.Name m p1) X.env:=by rfl)
 (hg:Gl X g:=by rfl) (hdb:(g==("__debug__":Str))=false:=by decide) (he:starEach [.Attribute (.Name m p1) f ap] X.env=(false,eval (.Attribute (.Name m p1) f ap) X.env)::starEach [] X.env:=by rfl):qL X (.Call (.Name g p) [.Attribute (.Name m p1) f ap] [] pos) Γ us Γ:=λσ H0 R0 H R E Q q=>by
 obtain ⟨dx,ea,hR,el,h1,h2,h3,nd,⟨vs,ha,pp,hz0⟩,hin⟩:=cK (E.ent i _ hΓ) h
 obtain ⟨fa,fd,pn,F,hm,hk,hb⟩:=Cc.ex
 refine eS (iM F hr hg hm hk hb .nil gP (aH (dm (bM hN hv hd hcd) hbase) br he) hdb he rfl) ⟨.ref x,at_of ea,x,C,dx,_,_,rfl,h1,hC.cl,hC.no f hf,bS h,?_⟩
 refine ⟨H,[⟨ak aj,xs⟩],qF us,aw.refl _,.cons ⟨a,vs,rfl,ha,Paired.map (λ_ _ e=>aj.mono (K:=X.K) E.sub e) pp.pair,hz0⟩ .nil,hS,λv H' R' xx t=>?_⟩
 obtain ⟨b,ts,rfl,q0,q1,q2,nt⟩:=t
 obtain ⟨R2,x2,nt2,old⟩:=l0 E.sub xx.h xx.s nt
 exact q b ts H' R2 (E.grow x2) x2.r q1 ((old b (nt.not q2)).trans (E.sub.free q0)) q0 (nt2.low E.ext.h)
end
end Fc
namespace K1
open PySem L2 Fc
open PySem.Spec hiding Row
open PyProof.Rows hiding St
section
variable {P:Program}{w:World}{K:PySem.W.Frag}{mg:Str->Option Value}{base:Heap}{f:Addr}{fd:FuncData}{C:Addr}
abbrev pU:Stmt:=top oj
theorem xY:aU ["tuples"] ["tuples"] (aq pU):=⟨rfl,rfl,rfl,by decide +kernel,rfl,by decide +kernel,by decide +kernel⟩
def pT:PV->Int
 | .int n=>n
 | _=>0
def AY:PV->List Int
 | .tup xs=>xs.map pT
 | _=>[]
def yz:cI:=λK ps T=>∃xs:List (Int×Int×Int),ps=[⟨ak aj,l3 xs⟩]/\T=qF (xs.map t3)
theorem z9 {xs:List (Int×Int×Int)}:(l3 xs).map AY=xs.map t3:=by rw [List.map_map];rfl
theorem z7 (M:bZ K mg)(F:bX K "triples" "triples" pU f fd)(hm:mg "triples"=some (.ref f))(hb:Binds K fd ["tuples"] []):aV P w K mg base "triples" 1 (bg yz K):=by
 have nd:=xY.nd
 have ndc:List.Nodup [("known":Str)]:=by decide
 refine cN F xY hm hb (λqs T ⟨xs,e,_⟩=>by rw [e];rfl) (λcdv A outer s H E qs T hr hS=>?_)
 obtain ⟨xs,rfl,rfl⟩:=hS
 change WS _ _ [.im (ak aj) (l3 xs)] _ _
 rw [← z9]
 refine ay (yf (own:=["known"]) (fr:=[]) (ix:=[]) (f:=AY) (λσ H0 R0 H R E=>E.frz) (cR (so:=aq pU) (N0:=["tuples"]) rfl rfl (λx h=>cx h) (by decide +kernel)) (dE (aa 0 rfl))
  (λC s H ex=>cF 0) (λx=>⟨.inr rfl,trivial⟩) (λC s H ex x hx=>?_) (λx hx=>?_))
 ·obtain ⟨y,_,rfl⟩:=List.mem_map.mp hx
  exact ah (EV.iP (n:=y.1) (az (aa 0 rfl) ae rfl)) (ah (EV.iP (n:=y.2.1) (az (aa 0 rfl) ae rfl)) (ah (EV.iP (n:=y.2.2) (az (aa 0 rfl) ae rfl)) aA))
 ·obtain ⟨y,_,rfl⟩:=List.mem_map.mp hx
  exact cm
abbrev kX:Stmt:=match top nY with
 | .ClassDef _ _ _ b _ _ _ _ _ _ _=>b.getD 0 (.Pass ⟨0,0,0,0⟩)
 | s=>s
theorem wA:aU ["self","state"] ["self","state"] (aq kX):=⟨rfl,rfl,rfl,by decide +kernel,rfl,by decide +kernel,by decide +kernel⟩
theorem yX {X:Cx}{Γ Γ1:Ga}{e:Expr}{xs:List (Int×Int×Int)}(h:bb X e Γ aj ((xs.map t3).map tupI) Γ1):bb X e Γ aj (l3 xs) Γ1:=by rwa [List.map_map] at h
structure MZ (m:ba):Prop where
 f:m.frames.length<=sizeLine
 b:m.boxes.length < sizeLine
 t:m.told.length<=sizeLine
 nd:(m.boxes.map (·.1)).Nodup
def xX (C0:Addr):ud:=λK C ps Pd=>C=C0/\∃m:ba,ps=[⟨aj,.tup (aX m)⟩]/\MZ m/\Pd=λfs=>∃a,fs=aW a m
theorem Ae {C0:Addr}(M:bZ K mg)(HC0:cq K C0 fns)(CT:aV P w K mg base "triples" 1 (bg yz K))(F:bX K "__init__" "Machine.__init__" kX f fd):cJ P w K mg base dJ 2 f fd ["self","state"] (pQ (xX C0) K):=by
 have nd:=wA.nd
 refine yd F wA (λC qs Pd ⟨_,m,e,_⟩=>by rw [e];rfl) (λcdv A outer s H E C x dx qs Pd hr hS=>?_)
 obtain ⟨rfl,m,rfl,⟨h1,h2,h3,nd3⟩,rfl⟩:=hS
 have HC:=HC0
 change WS _ _ [.ob ((aB C).bx [x,dx] []),.im aj (.tup (aX m))] _ _
 refine ai (eO 0 HC (aQ (by decide)) (jV (EV.iP (n:=m.at_) (az (aa 1 rfl) ae rfl))) rfl rfl (by show 0 < 1000;decide) ?_)
 rintro _ rfl
 change WS _ _ [.ob ((aB C).bx (x::_) [("at",.i m.at_)]),.im aj (.tup (aX m))] _ _
 refine ai (eO 0 HC (aQ (by decide)) (ki (yX (kI CT hr (au (EV.lP (xs:=l3 m.frames) (az (aa 1 rfl) ae rfl)) aP) ⟨_,rfl,rfl⟩ (by simpa using h1)))) rfl rfl (by show 1 < 1000;decide) ?_)
 rintro _ ⟨a1,rfl⟩
 change WS _ _ [.ob ((aB C).bx (x::_) [("at",.i m.at_),("frames",.l a1 (l3 m.frames))]),.im aj (.tup (aX m))] _ _
 refine ai (eO 0 HC (aQ (by decide)) (vi M.dict (D:=m.boxes) (az (aa 1 rfl) ae rfl) nd3 h2) rfl rfl (by show 2 < 1000;decide) ?_)
 rintro _ ⟨a2,rfl⟩
 change WS _ _ [.ob ((aB C).bx (x::_) [("at",.i m.at_),("frames",.l a1 (l3 m.frames)),("boxes",.d a2 m.boxes)]),.im aj (.tup (aX m))] _ _
 refine ai (eO 0 HC (aQ (by decide)) (ki (yX (kI CT hr (au (EV.lP (xs:=l3 m.told) (az (aa 1 rfl) ae rfl)) aP) ⟨_,rfl,rfl⟩ (by simpa using h3)))) rfl rfl (by show 3 < 1000;decide) ?_)
 rintro _ ⟨a3,rfl⟩
 change WS _ _ [.ob ((aB C).bx (x::_) [("at",.i m.at_),("frames",.l a1 (l3 m.frames)),("boxes",.d a2 m.boxes),("told",.l a3 (l3 m.told))]),.im aj (.tup (aX m))] _ _
 refine ai (eO 0 HC (aQ (by decide)) (jV (EV.iP (n:=m.chain) (az (aa 1 rfl) ae rfl))) rfl rfl (by show 4 < 1000;decide) ?_)
 rintro _ rfl
 change WS _ _ [.ob ((aB C).bx (x::_) [("at",.i m.at_),("frames",.l a1 (l3 m.frames)),("boxes",.d a2 m.boxes),("told",.l a3 (l3 m.told)),("chain",.i m.chain)]),.im aj (.tup (aX m))] _ _
 refine ai (eO 0 HC (aQ (by decide)) (ki (gM M.list (EV.lP (xs:=cD m.rows) (az (aa 1 rfl) ae rfl)))) rfl rfl (by show 5 < 1000;decide) ?_)
 rintro _ ⟨a4,rfl⟩
 change WS _ _ [.ob ((aB C).bx (x::_) [("at",.i m.at_),("frames",.l a1 (l3 m.frames)),("boxes",.d a2 m.boxes),("told",.l a3 (l3 m.told)),("chain",.i m.chain),("rows",.l a4 (cD m.rows))]),.im aj (.tup (aX m))] _ _
 refine ai (eO 0 HC (aQ (by decide)) (jV (EV.iP (n:=m.used) (az (aa 1 rfl) ae rfl))) rfl rfl (by show 6 < 1000;decide) ?_)
 rintro _ rfl
 change WS _ _ [.ob ((aB C).bx (x::_) [("at",.i m.at_),("frames",.l a1 (l3 m.frames)),("boxes",.d a2 m.boxes),("told",.l a3 (l3 m.told)),("chain",.i m.chain),("rows",.l a4 (cD m.rows)),("used",.i m.used)]),.im aj (.tup (aX m))] _ _
 refine ay (eO 0 HC (aQ (by decide)) (jV (EV.iP (n:=m.idle) (az (aa 1 rfl) ae rfl))) rfl rfl (by show 7 < 1000;decide) ?_)
 rintro _ rfl
 exact ⟨_,_,rfl,⟨a1,a2,a3,a4⟩,rfl⟩
end
end K1
namespace Fc
open PySem PySem.Spec L2
open PyProof.Rows hiding St
section
variable {X:Cx}{Γ Γ1 Γ2 Γ3:Ga}{α β γ δ:Type}{N:Ga->Prop}{T:RT}
variable {H:Hp}
theorem av.Bt {K:PySem.W.Frag}{σ:St}{H0 R0 R:Hp}{i:Nat}{B:kT}(E:av K σ H0 R0 H R Γ)(hΓ:Γ[i]?=some (.ob B)):av K σ H0 R0 H (λb=>if b∈B.fp then H b else R b) (Γ.set i .no)/\aw R (λb=>if b∈B.fp then H b else R b):=by
 have h0:∀b∈B.fp,H0 b=none:=λb hb=>E.nw i _ b hΓ hb
 have hR:∀b∈B.fp,R b=none:=(E.ent i _ hΓ).2
 have sR:aw R (λb=>if b∈B.fp then H b else R b):=λb o q=>by
  show (if b∈B.fp then H b else R b)=some o
  rw [if_neg λw=>by rw [hR b w] at q;cases q];exact q
 refine ⟨⟨⟨E.ext.h,E.ext.r.trans sR,λb o q=>?_,λb hb=>?_⟩,λj e q=>?_,λj e b q w=>?_,λj k e e' b q q' w w'=>?_,by rw [List.length_set];exact E.len⟩,sR⟩
 ·have q:(if b∈B.fp then H b else R b)=some o:=q
  by_cases hb:b∈B.fp
  ·rw [if_pos hb] at q;exact q
  ·rw [if_neg hb] at q;exact E.sub b o q
 ·show (if b∈B.fp then H b else R b)=_
  rw [if_neg λw=>hb (h0 b w)];exact E.ext.old b hb
 ·rcases set_at q with ⟨rfl,rfl,_⟩ | ⟨hj,q1⟩
  ·trivial
  ·have h1:=E.ent j e q1
   refine h1.loc (λb hb=>rfl) sR λb hb=>?_
   show (if b∈B.fp then H b else R b)=none
   rw [if_neg (show¬b∈B.fp from λw=>hj (E.ds j i e _ b q1 hΓ hb w))];exact (Ent.dD h1 hb).2
 ·rcases set_at q with ⟨rfl,rfl,_⟩ | ⟨hj,q1⟩
  ·cases w
  ·exact E.nw j e b q1 w
 ·rcases set_at q with ⟨rfl,rfl,_⟩ | ⟨hj,q1⟩
  ·cases w
  ·rcases set_at q' with ⟨rfl,rfl,_⟩ | ⟨hk,q1'⟩
   ·cases w'
   ·exact E.ds _ _ _ _ b q1 q1' w w'
abbrev TupAt (H:Hp):List Addr->List (List Int)->Prop:=PySem.Paired λt ns=>H t=some (.tup (ns.map V.int))
theorem TupAt.loc {H':Hp}:∀{ts:List Addr} {fs:List (List Int)},TupAt H ts fs->(∀t∈ts,H' t=H t)->TupAt H' ts fs
 | _,_,.nil,_=>.nil
 | _,_,.cons h t,e=>.cons ((e _ List.mem_cons_self).trans h) (TupAt.loc t λb hb=>e b (List.mem_cons_of_mem _ hb))
theorem TupAt.has:∀{ts:List Addr} {fs:List (List Int)},TupAt H ts fs->∀t∈ts,H t≠none
 | _,_,.cons h t,b,hb=>by
   rcases List.mem_cons.mp hb with rfl | hb
   ·rw [h];exact Option.some_ne_none _
   ·exact TupAt.has t b hb
def m3 (a:Addr)(ts:List Addr)(fs:List (List Int)):kT where
 fp:=a::ts
 R:=λ_ H _ v=>v= .ref a/\H a=some (.lst (ts.map V.ref))/\TupAt H ts fs
 loc:=λhH _ ⟨e,h,p⟩=>⟨e,(hH a List.mem_cons_self).trans h,p.loc λb hb=>hH b (List.mem_cons_of_mem _ hb)⟩
 has:=λ⟨e,h,p⟩ b hb=>by
  rcases List.mem_cons.mp hb with rfl | hb
  ·rw [h];exact Option.some_ne_none _
  ·exact p.has b hb
theorem oq {Γf:Ga}{tg:Expr}{es:List Expr}{k:Nat}{tp:Pos}{scope:Scope}{cl:List (Str×Addr)}{own fr:List Str}{ix:List Nat}{ra:Rep α}{xs:List α}{f:α->List Int}{bf:α->Ga->Ga}{J:It}{σ:St}{H1:Hp}{Q:VK}
 (E1f:av X.K σ H1 H1 H1 H1 Γf) (srcF:Src X.K J H1 ra xs) (hz:xs.length<=sizeLine)
 (hb:∀(C:Addr) (s:Shared) (H:Hp) (ex:List Addr),BG (aL X scope cl C (own++fr) s H ex) tg ra bf) (hw:∀x,Wk (bf x (bQ own ix Γf)) (bQ own ix Γf))
 (he:∀(C:Addr) (s:Shared) (H:Hp) (ex:List Addr) x,x∈xs->EA (aL X scope cl C (own++fr) s H ex) es (bf x (bQ own ix Γf)) ag (f x) (bf x (bQ own ix Γf))) (hl:∀x∈xs,(f x).length<=sizeLine)
 (q:∀H' R' a ts,aw H1 H'->aw R' H'->bO H1 R' ts (xs.map f)->H' a=none->Q (.ref a) (upd H' a (.lst (ts.map V.ref)))):
 ∃W:Nat->Nat->List V->St->Hp->Prop,(∃m,W 0 m [] (dS own ix σ) H1)/\∀i m ys σ' H',W i m ys σ' H'->
  ys.length<=sizeLine/\((J.stop i H'/\∀p,H' p=none->Q (.ref p) (upd H' p (.lst ys)))∨
  (J.go i H'/\∀x H2,J.yld i H' x H2->(λv σ H Q=>∀C s Hh ex,gb (aL X scope cl C (own++fr) s Hh ex) tg v σ H Q:TG) x σ' H2 λσ2 H3=>(λσ H Q=>∀C s Hh ex,gD (aL X scope cl C (own++fr) s Hh ex) [] σ H Q:TT) σ2 H3 λb H4=>
    if b=true then (λσ H Q=>∀C s Hh ex,cQ (aL X scope cl C (own++fr) s Hh ex) (.Tuple es k tp) σ H Q:TE) σ2 H4 λv H5=>∃m',m' < m/\W (i + 1) m' (ys++[v]) σ2 H5 else∃m',m' < m/\W (i + 1) m' ys σ2 H4)):=by
 refine ⟨λi m ys σ' H'=>m=xs.length - i/\i<=xs.length/\∃R' ts,av X.K σ' H1 H1 H' R' (bQ own ix Γf)/\ys=ts.map V.ref/\bO H1 R' ts ((xs.take i).map f),⟨_,rfl,Nat.zero_le _,H1,[],gR E1f own ix,rfl,.nil⟩,?_⟩
 rintro i m ys σ' H' ⟨rfl,hle,R',ts,E',rfl,pp⟩
 have hys:(ts.map V.ref).length<=sizeLine:=by
  rw [List.length_map,pp.length,List.length_map,List.length_take]
  exact Nat.le_trans (Nat.min_le_right _ _) hz
 obtain ⟨sgo,sstop⟩:=srcF H' R' E'.ext.r E'.sub i
 refine ⟨hys,?_⟩
 by_cases hlt:i < xs.length
 ·obtain ⟨go,yl⟩:=sgo _ (List.getElem?_eq_getElem hlt)
  have hmem:xs[i]∈xs:=List.getElem_mem hlt
  have tk:(xs.take (i + 1))=xs.take i++[xs[i]]:=by rw [List.take_succ,List.getElem?_eq_getElem hlt];rfl
  refine .inr ⟨go,λv H2 hy C s Hh ex=>?_⟩
  obtain ⟨R2,x2,hr⟩:=yl v H2 hy
  refine hb C s Hh ex σ' H1 H1 H2 R2 _ v _ (E'.grow x2) hr _ λσ2 E2=>?_
  intro C s Hh ex
  refine (ej (X:=aL X scope cl C (own++fr) s Hh ex)) σ2 H1 H1 H2 R2 E2 _ λH4 R4 E4 s4=>?_
  rw [if_pos rfl]
  intro C s Hh ex
  refine eS (fF ie) (he C s Hh ex _ hmem σ2 H1 H1 H4 R4 E4 _ λvs H5 R5 E5 s5 p5=>⟨by rw [p5.length];exact hl _ hmem,λp hp=>?_⟩)
  have ev:=fo p5
  subst ev
  have x6:=Ext.fresh E5.sub hp (.tup ((f xs[i]).map V.int))
  have E6:=E5.grow x6
  refine ⟨xs.length - (i + 1),by omega,rfl,hlt,_,ts++[p],E6.weak (hw _),by rw [List.map_append];rfl,?_⟩
  rw [tk,List.map_append]
  exact bN (pp.mono (x2.r.trans (s4.trans (s5.trans x6.r)))) (.cons ⟨E5.ext.h.free hp,aF⟩ .nil)
 ·have e:i=xs.length:=by omega
  subst e
  rw [List.take_length] at pp
  exact .inl ⟨sstop (Nat.le_refl _),λa ha=>q H' R' a ts E'.ext.h E'.sub pp ha⟩
theorem yJ (i:Nat){Γf:Ga}(hF:∀(σ:St) (H0 R0 H R:Hp),av X.K σ H0 R0 H R Γ1->av X.K σ H H H H Γf){y:Str}{py spos:Pos}{tg iter:Expr}{es:List Expr}{k:Nat}{tp:Pos}{scope:Scope}{pos:Pos}{cl:List (Str×Addr)}{own fr:List Str}{ix:List Nat}{ra:Rep α}{xs:List α}{f:α->List Int}{bf:α->Ga->Ga}
 (S:cz X scope cl own fr ix) (hit:IV X tg iter Γ ra xs Γ1)
 (hb:∀(C:Addr) (s:Shared) (H:Hp) (ex:List Addr),BG (aL X scope cl C (own++fr) s H ex) tg ra bf) (hw:∀x,Wk (bf x (bQ own ix Γf)) (bQ own ix Γf))
 (he:∀(C:Addr) (s:Shared) (H:Hp) (ex:List Addr) x,x∈xs->EA (aL X scope cl C (own++fr) s H ex) es (bf x (bQ own ix Γf)) ag (f x) (bf x (bQ own ix Γf))) (hl:∀x∈xs,(f x).length<=sizeLine)
 (h:∀a ts,N (Γ1.set i (.ob (m3 a ts (xs.map f)))))
 (hsw:swapsWith (.ListComp (.Tuple es k tp) [⟨tg,iter,[],0⟩] scope pos) (some (.Name y py)) spos.line X.env=pure true:=by rfl)
 (hN:X.N.Nodup:=by first | assumption | decide) (hi':X.N[i]?=some y:=by rfl) (hx:Loc X.env.scope y:=by first | exact Or.inl rfl | exact Or.inr rfl)
 (hc:X.calm=true:=by rfl) (hs:∀x,foldedSetIterable iter X.env x=pure x:=by intro _;rfl) (hf:X.fn y=true∨X.env.scope.names.lookup y=some .local:=by first | exact .inl rfl | exact .inr rfl):
 W1 X (.Assign [.Name y py] (.ListComp (.Tuple es k tp) [⟨tg,iter,[],0⟩] scope pos) spos) Γ N T:=λσ H0 R0 H R E D dn dr=>by
 obtain ⟨wi,hi,hit⟩:=hit
 refine sS (jG (i:=i) (g:=λv σ H Q=>∀C s Hh ex,gb (aL X scope cl C (own++fr) s Hh ex) tg v σ H Q) (tc:=λσ H Q=>∀C s Hh ex,gD (aL X scope cl C (own++fr) s Hh ex) [] σ H Q) (te:=λσ H Q=>∀C s Hh ex,cQ (aL X scope cl C (own++fr) s Hh ex) (.Tuple es k tp) σ H Q) hsw hN hi' hx hc S hi
  (λC s H ex=>⟨λpins s1 σ H v u Q I r h=>h C s _ ex pins s1 u I r,λpins s1 σ H Q I h=>h C s _ ex pins s1 I,λpins s1 σ H Q I h=>h C s _ ex pins s1 I⟩) hs hf) ?_
 refine hit σ H0 R0 H R E _ λJ H1 R1 E1 s1 hz src=>oq (Q:=λv H'=>D.nx (σ.set i (some v)) H') (hF σ H0 R0 H1 R1 E1) (src.sub E1.sub) hz hb hw he hl λH' R' a ts sh sr nt ha=>?_
 have E2:=E1.grow (⟨sh,aw.refl _,λb o q=>sh b o (E1.sub b o q),λ_ _=>rfl⟩:Ext H1 R1 H' R1)
 have E3:=E2.grow (Ext.cS E2.sub ha (.lst (ts.map V.ref)))
 have hta:∀{us:List Addr} {gs:List (List Int)},bO H1 R' us gs->(∀t∈us,H1 t=none/\H' t≠none)/\TupAt (upd H' a (.lst (ts.map V.ref))) us gs:=by
  intro us gs h
  induction h with
  | nil=>exact ⟨λt z=>(by cases z),.nil⟩
  | cons h t ih=>
    have h2:=sr _ _ h.2
    refine ⟨λb hb=>?_,.cons ?_ ih.2⟩
    ·rcases List.mem_cons.mp hb with rfl | hb
     ·exact ⟨h.1,by rw [h2];exact Option.some_ne_none _⟩
     ·exact ih.1 b hb
    ·rw [aE λe=>by rw [e,ha] at h2;cases h2];exact h2
 obtain ⟨hn,hT⟩:=hta nt
 refine dn _ _ R1 _ (E3.setG (en:=.ob (m3 a ts (xs.map f))) i ⟨⟨.ref a,rfl,rfl,aF,hT⟩,λb hb=>?_⟩ (λb hb=>?_) λb hb j e _ qj w=>?_) s1 (h a ts)
 ·rcases List.mem_cons.mp hb with rfl | hb
  ·exact E2.sub.free ha
  ·exact E1.sub.free (hn b hb).1
 ·rcases List.mem_cons.mp hb with rfl | hb
  ·exact E2.ext.h.free ha
  ·exact E1.ext.h.free (hn b hb).1
 ·rcases List.mem_cons.mp hb with rfl | hb
  ·exact E2.off ha j e qj w
  ·exact E1.off (hn b hb).1 j e qj w
end
end Fc
namespace K1
open PySem L2 Fc
open PySem.Spec hiding Row
open PyProof.Rows hiding St
abbrev pr (p:Int×Int):List Int:=[p.1,p.2]
structure NS (H0 R:Hp) (m:ba) (p af ab at_ ar:Addr) (tf tb tt:List Addr):Prop where
 new:∀b∈[p,af,ab,at_,ar],H0 b=none
 nd:[af,ab,at_,ar].Nodup
 p:R p=some (.tup [.int m.at_,.ref af,.ref ab,.ref at_,.int m.chain,.ref ar,.int m.used,.int m.idle])
 f:R af=some (.lst (tf.map V.ref))
 b:R ab=some (.lst (tb.map V.ref))
 t:R at_=some (.lst (tt.map V.ref))
 r:R ar=some (.lst (m.rows.map V.int))
 nf:bO H0 R tf (m.frames.map t3)
 nb:bO H0 R tb (m.boxes.map pr)
 nt:bO H0 R tt (m.told.map t3)
def kK (m:ba):RT:=λH0 v _ R'=>∃p af ab at_ ar tf tb tt,v= .ref p/\NS H0 R' m p af ab at_ ar tf tb tt
structure ML (m:ba):Prop where
 f:m.frames.length<=sizeLine
 b:m.boxes.length<=sizeLine
 t:m.told.length<=sizeLine
 r:m.rows.length<=sizeLine
theorem NS.pv {H0 R:Hp}{m:ba}{p af ab at_ ar:Addr}{tf tb tt:List Addr}(h:NS H0 R m p af ab at_ ar tf tb tt)(z:ML m):cb R (.ref p) (.tup (aX m)):=by
 have e1:(m.frames.map t3).map tupI=l3 m.frames:=by rw [List.map_map];rfl
 have e2:(m.told.map t3).map tupI=l3 m.told:=by rw [List.map_map];rfl
 have e3:(m.boxes.map pr).map tupI=aZ m.boxes:=by rw [List.map_map];rfl
 refine .tup h.p (.cons (.int _) (.cons (.lst h.f (.of (e1▸h.nf.pv)) (by simpa using z.f)) (.cons (.lst h.b (.of (e3▸h.nb.pv)) (by simpa using z.b)) (.cons (.lst h.t (.of (e2▸h.nt.pv)) (by simpa using z.t)) (.cons (.int _) (.cons (.lst h.r (gp _) (by simpa using z.r)) (.cons (.int _) (.cons (.int _) .nil))))))))
section
variable {X:Cx}{Γ Γ1 Γ2 Γ3:Ga}{N:Ga->Prop}{T:RT}
variable {pos:Pos}
def iq (X:Cx)(e:Expr)(Γ:Ga)(P:Hp->Hp->List V->Prop):Prop:=
 ∀(σ:St) (H0 R0 H R:Hp),av X.K σ H0 R0 H R Γ->∀Q:VK,(∀a vs H' R',av X.K σ H0 R0 H' R' Γ->aw R R'->R' a=some (.lst vs)->R a=none->H0 a=none->P H0 R' vs->Q (.ref a) H')->cQ X e σ H Q
theorem qL.AX {e:Expr}{fs:List (List Int)}(h:qL X e Γ fs Γ):iq X e Γ (λH0 R vs=>∃ts,vs=ts.map V.ref/\bO H0 R ts fs):=λσ H0 R0 H R E Q q=>
 h σ H0 R0 H R E Q λa ts H' R' E' s1 ha hR hH nt=>by
   have s2:aw R' (upd R' a (.lst (ts.map V.ref))):=aw.fresh hR _
   exact q a _ H' _ (E'.gG ha hR (E.ext.h.free hH) (λi e qe w=>E.off hH i e qe w)) (s1.trans s2) aF (E.sub.free hH) (E.ext.h.free hH) ⟨ts,rfl,nt.mono s2⟩
theorem si {e:Expr}{ns:List Int}(h:bb X e Γ aj (cD ns) Γ):iq X e Γ (λ_ _ vs=>vs=ns.map V.int):=λσ H0 R0 H R E Q q=>
 h σ H0 R0 H R E Q λa vs H' R' E' s1 ha hR h0 off pp z=>by
   have s2:aw R' (upd R' a (.lst vs)):=aw.fresh hR _
   have hRa:R a=none:=by
    cases e:R a with
    | none=>rfl
    | some o=>rw [s1 a o e] at hR;cases hR
   exact q a vs H' _ (E'.gG ha hR h0 off) (s1.trans s2) aF hRa h0 (fo (kF (.of pp) X.K))
theorem xO (j:Nat){m:ba}(hT:∀(σ:St) (H0 R0 H' R':Hp) (v:V),av X.K σ H0 R0 H' R' (Γ.set j .no)->kK m H0 v H' R'->T H0 v H' R'){e0 e1 e3 e4 e5 e6 e7:Expr}{b:Str}{pb pt:Pos}{k:Nat}{ab:Addr}{tb:List Addr}(hΓ:Γ[j]?=some (.ob (m3 ab tb (m.boxes.map pr))))(h0:EV X e0 (Γ.set j .no) ag m.at_ (Γ.set j .no))(h1:iq X e1 (Γ.set j .no) (λH0 R vs=>∃ts,vs=ts.map V.ref/\bO H0 R ts (m.frames.map t3)))(h3:iq X e3 (Γ.set j .no) (λH0 R vs=>∃ts,vs=ts.map V.ref/\bO H0 R ts (m.told.map t3)))
 (h4:EV X e4 (Γ.set j .no) ag m.chain (Γ.set j .no)) (h5:iq X e5 (Γ.set j .no) (λ_ _ vs=>vs=m.rows.map V.int)) (h6:EV X e6 (Γ.set j .no) ag m.used (Γ.set j .no)) (h7:EV X e7 (Γ.set j .no) ag m.idle (Γ.set j .no))
 (hN:X.N[j]?=some b:=by rfl) (hv:cL X.env.scope b:=by first | exact Or.inl rfl | exact Or.inr (Or.inl rfl) | exact Or.inr (Or.inr rfl)) (hd:(b==("__debug__":Str))=false:=by decide) (hcd:(b==("__classdict__":Str))=false:=by decide)
 (s0:starEach [e0,e1,.Name b pb,e3,e4,e5,e6,e7] X.env=(false,eval e0 X.env)::starEach [e1,.Name b pb,e3,e4,e5,e6,e7] X.env:=by rfl) (s1:starEach [e1,.Name b pb,e3,e4,e5,e6,e7] X.env=(false,eval e1 X.env)::starEach [.Name b pb,e3,e4,e5,e6,e7] X.env:=by rfl) (s2:starEach [.Name b pb,e3,e4,e5,e6,e7] X.env=(false,eval (.Name b pb) X.env)::starEach [e3,e4,e5,e6,e7] X.env:=by rfl) (s3:starEach [e3,e4,e5,e6,e7] X.env=(false,eval e3 X.env)::starEach [e4,e5,e6,e7] X.env:=by rfl)
 (s4:starEach [e4,e5,e6,e7] X.env=(false,eval e4 X.env)::starEach [e5,e6,e7] X.env:=by rfl) (s5:starEach [e5,e6,e7] X.env=(false,eval e5 X.env)::starEach [e6,e7] X.env:=by rfl) (s6:starEach [e6,e7] X.env=(false,eval e6 X.env)::starEach [e7] X.env:=by rfl) (s7:starEach [e7] X.env=(false,eval e7 X.env)::starEach [] X.env:=by rfl):
 W1 X (.Return (some (.Tuple [e0,e1,.Name b pb,e3,e4,e5,e6,e7] k pt)) pos) Γ N T:=λσ H0 R0 H R E D dn dr=>by
 obtain ⟨⟨v,ev,rfl,hab,htb⟩,hRb⟩:=E.ent j _ hΓ
 have hnb:∀c∈ab::tb,H0 c=none:=λc hc=>E.nw j _ c hΓ hc
 obtain ⟨E1,sR⟩:=E.Bt hΓ
 have hR1:∀c∈ab::tb,(λc=>if c∈(m3 ab tb (m.boxes.map pr)).fp then H c else R c) c=H c:=λc hc=>if_pos hc
 generalize (λc=>if c∈(m3 ab tb (m.boxes.map pr)).fp then H c else R c)=R1 at E1 sR hR1
 have fb:R1 ab=some (.lst (tb.map V.ref)):=(hR1 ab List.mem_cons_self).trans hab
 have ntb:bO H0 R1 tb (m.boxes.map pr):=by
  have:∀{us:List Addr} {gs:List (List Int)},TupAt H us gs->(∀u∈us,u∈ab::tb)->bO H0 R1 us gs:=by
   intro us gs h
   induction h with
   | nil=>intro _;exact .nil
   | cons h t ih=>intro hu;exact .cons ⟨hnb _ (hu _ List.mem_cons_self),(hR1 _ (hu _ List.mem_cons_self)).trans h⟩ (ih λc hc=>hu c (List.mem_cons_of_mem _ hc))
  exact this htb λc hc=>List.mem_cons_of_mem _ hc
 refine sS (eA (fF (aH aN (aH aN (aH (bM hN hv hd hcd) (aH aN (aH aN (aH aN (aH aN (aH aN br s7) s6) s5) s4) s3) s2) s1) s0))) ?_
 refine h0 σ H0 R0 H R1 E1 _ λv0 H2 R2 E2 t2 q2=>h1 σ H0 R0 H2 R2 E2 _ λaf vf H3 R3 E3 t3' hf nf0 nf1 ⟨tf,ef,ntf⟩=>?_
 refine ⟨.ref ab,at_of ev,?_⟩
 refine h3 σ H0 R0 H3 R3 E3 _ λat_ vt H4 R4 E4 t4 ht nt0 nt1 ⟨tt,et,ntt⟩=>h4 σ H0 R0 H4 R4 E4 _ λv4 H5 R5 E5 t5 q5=>h5 σ H0 R0 H5 R5 E5 _ λar vr H6 R6 E6 t6 hr nr0 nr1 er=>h6 σ H0 R0 H6 R6 E6 _ λv6 H7 R7 E7 t7 q7=>h7 σ H0 R0 H7 R7 E7 _ λv7 H8 R8 E8 t8 q8=>?_
 cases q2;cases q5;cases q7;cases q8
 subst ef;subst et;subst er
 refine ⟨by show 8<=sizeLine;decide,λp hp=>?_⟩
 have x9:=Ext.fresh E8.sub hp (.tup [.int m.at_,.ref af,.ref ab,.ref at_,.int m.chain,.ref ar,.int m.used,.int m.idle])
 have u8:=x9.r
 have fb2:R2 ab=_:=t2 _ _ fb
 have fb3:R3 ab=_:=t3' _ _ fb2
 have fb5:R5 ab=_:=t5 _ _ (t4 _ _ fb3)
 have ff5:R5 af=_:=t5 _ _ (t4 _ _ hf)
 have ft5:R5 at_=_:=t5 _ _ ht
 have n1:af≠ab:=λe=>by rw [e,fb2] at nf0;cases nf0
 have n2:at_≠af:=λe=>by rw [e,hf] at nt0;cases nt0
 have n3:at_≠ab:=λe=>by rw [e,fb3] at nt0;cases nt0
 have n4:ar≠af:=λe=>by rw [e,ff5] at nr0;cases nr0
 have n5:ar≠ab:=λe=>by rw [e,fb5] at nr0;cases nr0
 have n6:ar≠at_:=λe=>by rw [e,ft5] at nr0;cases nr0
 have a58:aw R5 (upd R8 p _):=t6.trans (t7.trans (t8.trans u8))
 refine dr _ _ _ (E8.ext.trans x9) (hT σ H0 R0 _ _ _ (E8.grow x9) ⟨p,af,ab,at_,ar,tf,tb,tt,rfl,⟨λc hc=>?_,?_,aF,a58 _ _ ff5,a58 _ _ fb5,a58 _ _ ft5,t7.trans (t8.trans u8) _ _ hr,ntf.mono (t4.trans (t5.trans a58)),ntb.mono (t2.trans (t3'.trans (t4.trans (t5.trans a58)))),ntt.mono (t5.trans a58)⟩⟩)
 ·simp only [List.mem_cons,List.mem_singleton,List.not_mem_nil,or_false] at hc
  rcases hc with rfl | rfl | rfl | rfl | rfl
  ·exact E8.ext.h.free hp
  ·exact nf1
  ·exact hnb _ List.mem_cons_self
  ·exact nt1
  ·exact nr1
 ·simp only [List.nodup_cons,List.mem_cons,List.mem_singleton,List.not_mem_nil,or_false,not_or,not_false_eq_true,List.nodup_nil,and_true]
  exact ⟨⟨n1,Ne.symm n2,Ne.symm n4⟩,⟨Ne.symm n3,Ne.symm n5⟩,Ne.symm n6⟩
theorem vk {m:ba}(hT:∀(σ:St) (H0 R0 H' R':Hp) (v:V),av X.K σ H0 R0 H' R' Γ->kK m H0 v H' R'->T H0 v H' R'){e0 e1 e2 e3 e4 e5 e6 e7:Expr}{pt:Pos}{k:Nat}(h2:iq X e2 Γ (λH0 R vs=>∃ts,vs=ts.map V.ref/\bO H0 R ts (m.boxes.map pr)))(h0:EV X e0 Γ ag m.at_ Γ)(h1:iq X e1 Γ (λH0 R vs=>∃ts,vs=ts.map V.ref/\bO H0 R ts (m.frames.map t3)))(h3:iq X e3 Γ (λH0 R vs=>∃ts,vs=ts.map V.ref/\bO H0 R ts (m.told.map t3)))
 (h4:EV X e4 Γ ag m.chain Γ) (h5:iq X e5 Γ (λ_ _ vs=>vs=m.rows.map V.int)) (h6:EV X e6 Γ ag m.used Γ) (h7:EV X e7 Γ ag m.idle Γ)
 (s0:starEach [e0,e1,e2,e3,e4,e5,e6,e7] X.env=(false,eval e0 X.env)::starEach [e1,e2,e3,e4,e5,e6,e7] X.env:=by rfl) (s1:starEach [e1,e2,e3,e4,e5,e6,e7] X.env=(false,eval e1 X.env)::starEach [e2,e3,e4,e5,e6,e7] X.env:=by rfl) (s2:starEach [e2,e3,e4,e5,e6,e7] X.env=(false,eval e2 X.env)::starEach [e3,e4,e5,e6,e7] X.env:=by rfl) (s3:starEach [e3,e4,e5,e6,e7] X.env=(false,eval e3 X.env)::starEach [e4,e5,e6,e7] X.env:=by rfl)
 (s4:starEach [e4,e5,e6,e7] X.env=(false,eval e4 X.env)::starEach [e5,e6,e7] X.env:=by rfl) (s5:starEach [e5,e6,e7] X.env=(false,eval e5 X.env)::starEach [e6,e7] X.env:=by rfl) (s6:starEach [e6,e7] X.env=(false,eval e6 X.env)::starEach [e7] X.env:=by rfl) (s7:starEach [e7] X.env=(false,eval e7 X.env)::starEach [] X.env:=by rfl):
 W1 X (.Return (some (.Tuple [e0,e1,e2,e3,e4,e5,e6,e7] k pt)) pos) Γ N T:=λσ H0 R0 H R E D dn dr=>by
 refine sS (eA (fF (aH aN (aH aN (aH aN (aH aN (aH aN (aH aN (aH aN (aH aN br s7) s6) s5) s4) s3) s2) s1) s0))) ?_
 refine h0 σ H0 R0 H R E _ λv0 H2 R2 E2 t2 q2=>h1 σ H0 R0 H2 R2 E2 _ λaf vf H3' R3' E3' t3' hf' nf0 nf1 ⟨tf,ef,ntf'⟩=>?_
 refine h2 σ H0 R0 H3' R3' E3' _ λab vb H3 R3 E3 t3b fb3 nb0 nb1 ⟨tb,eb,ntb⟩=>?_
 have ntf:=ntf'.mono t3b
 have hf:R3 af=_:=t3b _ _ hf'
 refine h3 σ H0 R0 H3 R3 E3 _ λat_ vt H4 R4 E4 t4 ht nt0 nt1 ⟨tt,et,ntt⟩=>h4 σ H0 R0 H4 R4 E4 _ λv4 H5 R5 E5 t5 q5=>h5 σ H0 R0 H5 R5 E5 _ λar vr H6 R6 E6 t6 hr nr0 nr1 er=>h6 σ H0 R0 H6 R6 E6 _ λv6 H7 R7 E7 t7 q7=>h7 σ H0 R0 H7 R7 E7 _ λv7 H8 R8 E8 t8 q8=>?_
 cases q2;cases q5;cases q7;cases q8
 subst ef;subst et;subst er;subst eb
 refine ⟨by show 8<=sizeLine;decide,λp hp=>?_⟩
 have x9:=Ext.fresh E8.sub hp (.tup [.int m.at_,.ref af,.ref ab,.ref at_,.int m.chain,.ref ar,.int m.used,.int m.idle])
 have u8:=x9.r
 have fb5:R5 ab=_:=t5 _ _ (t4 _ _ fb3)
 have ff5:R5 af=_:=t5 _ _ (t4 _ _ hf)
 have ft5:R5 at_=_:=t5 _ _ ht
 have n1:af≠ab:=λe=>by rw [e] at hf';rw [hf'] at nb0;cases nb0
 have n2:at_≠af:=λe=>by rw [e,hf] at nt0;cases nt0
 have n3:at_≠ab:=λe=>by rw [e,fb3] at nt0;cases nt0
 have n4:ar≠af:=λe=>by rw [e,ff5] at nr0;cases nr0
 have n5:ar≠ab:=λe=>by rw [e,fb5] at nr0;cases nr0
 have n6:ar≠at_:=λe=>by rw [e,ft5] at nr0;cases nr0
 have a58:aw R5 (upd R8 p _):=t6.trans (t7.trans (t8.trans u8))
 refine dr _ _ _ (E8.ext.trans x9) (hT σ H0 R0 _ _ _ (E8.grow x9) ⟨p,af,ab,at_,ar,tf,tb,tt,rfl,⟨λc hc=>?_,?_,aF,a58 _ _ ff5,a58 _ _ fb5,a58 _ _ ft5,t7.trans (t8.trans u8) _ _ hr,ntf.mono (t4.trans (t5.trans a58)),ntb.mono (t4.trans (t5.trans a58)),ntt.mono (t5.trans a58)⟩⟩)
 ·simp only [List.mem_cons,List.mem_singleton,List.not_mem_nil,or_false] at hc
  rcases hc with rfl | rfl | rfl | rfl | rfl
  ·exact E8.ext.h.free hp
  ·exact nf1
  ·exact nb1
  ·exact nt1
  ·exact nr1
 ·simp only [List.nodup_cons,List.mem_cons,List.mem_singleton,List.not_mem_nil,or_false,not_or,not_false_eq_true,List.nodup_nil,and_true]
  exact ⟨⟨n1,Ne.symm n2,Ne.symm n4⟩,⟨Ne.symm n3,Ne.symm n5⟩,Ne.symm n6⟩
theorem kH {P:Hp->Hp->List V->Prop}(h:∀H0 R,P H0 R []):iq X (.List [] pos) Γ P:=λσ H0 R0 H R E Q q=>
 eS (mE br) ⟨Nat.zero_le _,λp hp=>by
  have x:=Ext.fresh E.sub hp (.lst [])
  exact q p [] _ _ (E.grow x) x.r aF (E.sub.free hp) (E.ext.h.free hp) (h _ _)⟩
theorem vV {es:List Expr}{k2:Nat}{tp:Pos}{ns:List Int}(he:EA X es Γ ag ns Γ)(hz:ns.length<=sizeLine)(hs:starEach [.Tuple es k2 tp] X.env=(false,eval (.Tuple es k2 tp) X.env)::starEach [] X.env:=by rfl):iq X (.List [.Tuple es k2 tp] pos) Γ (λH0 R vs=>∃ts,vs=ts.map V.ref/\bO H0 R ts [ns]):=λσ H0 R0 H R E Q q=>
 eS (mE (aH (fF ie) br hs)) (he σ H0 R0 H R E _ λvs H1 R1 E1 s1 p1=>⟨by rw [p1.length];exact hz,λp hp=>⟨by show 1<=sizeLine;decide,λc hc=>by
  have ev:=fo p1
  subst ev
  have x1:=Ext.fresh E1.sub hp (.tup (ns.map V.int))
  have E2:=E1.grow x1
  have x2:=Ext.fresh E2.sub hc (.lst [.ref p])
  have hRc:R c=none:=by
   cases e:R c with
   | none=>rfl
   | some o=>exact absurd (E2.sub _ _ (x1.r _ _ (s1 _ _ e))) (by rw [hc];exact λz=>by cases z)
  exact q c _ _ _ (E2.grow x2) (s1.trans (x1.r.trans x2.r)) aF hRc (E2.ext.h.free hc) ⟨[p],rfl,.cons ⟨E1.ext.h.free hp,x2.r _ _ aF⟩ .nil⟩⟩⟩)
end
section
variable {P:Program}{w:World}{K:PySem.W.Frag}{mg:Str->Option Value}{base:Heap}{f:Addr}{fd:FuncData}{C:Addr}
abbrev nu:Stmt:=top mX
abbrev AQ:List Str:=["machine","boxes"]
theorem wO:aU AQ ["machine"] (aq nu):=⟨rfl,rfl,rfl,by decide +kernel,rfl,by decide +kernel,by decide +kernel⟩
def bh (D:List (Int×Int)):List (Int×Int):=(sortI (D.map (·.1))).map λk=>(k,(dG D k).getD 0)
def lH:iD Fs:=λK s ps T=>∃(a:gU) (m:ba),s=aW a m/\ps=[]/\m.boxes.length < 64/\T=λs' H0 v H' R'=>s'=aW a m/\kK {m with boxes:=bh m.boxes} H0 v H' R'
theorem lZ {D:List (Int×Int)}{k:Int}(h:k∈D.map (·.1)):∃n,dG D k=some n:=by
 induction D with
 | nil=>cases h
 | cons p r ih=>
   obtain ⟨q,n⟩:=p
   rw [dG]
   by_cases e:q=k
   ·exact ⟨n,if_pos e⟩
   ·rw [if_neg e]
    rw [List.map_cons] at h
    rcases List.mem_cons.mp h with z | z
    ·exact absurd z.symm e
    ·exact ih z
theorem z4 (M:bZ K mg)(HC:cq K C fns)(CT:aV P w K mg base "triples" 1 (bg yz K))(F:bX K "state_of" "state_of" nu f fd)(hm:mg "state_of"=some (.ref f))(hb:Binds K fd ["machine"] []):aV P w K mg base "state_of" 2 (dI (aB C) lH K):=by
 have nd:=wO.nd
 have ndc:List.Nodup [("box":Str),"machine"]:=by decide
 refine fM F wO hm hb (λs qs T ⟨a,m,_,e,_⟩=>by rw [e];rfl) (λcdv A outer s H E x l u qs T hr hS=>?_)
 obtain ⟨a,m,rfl,rfl,h64,rfl⟩:=hS
 have hu0:(A.deeper (envOfC "state_of" (aq nu) s.heap.objs.size f cdv)).units + 1 < cLine:=Nat.lt_of_le_of_lt (Nat.add_le_add_left (by decide:1<=64) _) hr.units
 change WS _ _ [.ob ((aB C).bx (x::l) (aW a m)),.no] _ _
 refine ai (yJ 1 (own:=["box"]) (fr:=["machine"]) (ix:=[0]) (f:=λk=>[k,(dG m.boxes k).getD 0]) (Γ1:=[.ob ((aB C).bx (x::l) (aW a m)),.no]) (λσ H0 R0 H R E=>wx (i:=0) rfl σ H0 R0 H R E) (cR (so:=aq nu) (N0:=AQ) rfl rfl (λx h=>cx h) (by decide +kernel)) (dE (bb.im (qr 0 HC (aQ (by decide)) M.sorted rfl oA h64)))
  (λC s H ex=>cF 0) (λx=>⟨.inr rfl,.inl rfl,trivial⟩) (λC s H ex k hk=>?_) (λx hx=>by show 2<=sizeLine;decide) (λab tb=>?_))
 ·have hk':k∈m.boxes.map (·.1):=(List.mergeSort_perm _ _).mem_iff.mp hk
  obtain ⟨n,hn⟩:=lZ hk'
  rw [hn]
  exact ah (aa 0 rfl) (ah (vM 1 hu0 HC (aQ (by decide)) (aa 0 rfl) rfl oA hn) aA)
 ·have e:(sortI (m.boxes.map (·.1))).map (λk=>[k,(dG m.boxes k).getD 0])=(bh m.boxes).map pr:=by unfold bh;rw [List.map_map];rfl
  rw [e]
  change WS _ _ [.ob ((aB C).bx (x::l) (aW a m)),.ob (m3 ab tb ((bh m.boxes).map pr))] _ _
  refine ay (xO 1 (m:={m with boxes:=bh m.boxes}) (λσ H0 R0 H' R' v E' t=>?_) rfl (dw 0 HC (aQ (by decide)) rfl gc) (qL.AX (jN 0 CT hr HC (aQ (by decide)) rfl ik ⟨_,rfl,rfl⟩)) (qL.AX (jN 0 CT hr HC (aQ (by decide)) rfl yq ⟨_,rfl,rfl⟩)) (dw 0 HC (aQ (by decide)) rfl ml) (si (pP 0 HC (aQ (by decide)) M.list rfl ky)) (dw 0 HC (aQ (by decide)) rfl ou) (dw 0 HC (aQ (by decide)) rfl om))
  obtain ⟨ea,hB,hR⟩:=fR (B:=aB C) (E'.ent 0 _ rfl)
  exact ⟨_,x,l,rfl,hB,hR,rfl,t⟩
abbrev uo:Stmt:=top rY
theorem y0:aU [] [] (aq uo):=⟨rfl,rfl,rfl,by decide +kernel,rfl,by decide +kernel,by decide +kernel⟩
def m0:ba:=⟨0,[(-1,0,0)],[],[],0,[],0,0⟩
def uB:cI:=λK ps T=>ps=[]/\T=kK m0
theorem Ao (M:bZ K mg)(F:bX K "begun" "begun" uo f fd)(hm:mg "begun"=some (.ref f))(hb:Binds K fd [] []):aV P w K mg base "begun" 1 (bg uB K):=by
 have nd:=y0.nd
 obtain ⟨t1,h1⟩:=M.nowhere
 refine cN F y0 hm hb (λqs T ⟨e,_⟩=>by rw [e];rfl) (λcdv A outer s H E qs T hr hS=>?_)
 obtain ⟨rfl,rfl⟩:=hS
 change WS _ _ [] _ _
 exact ay (vk (m:=m0) (λσ H0 R0 H' R' v E' t=>t) (kH λH0 R=>⟨[],rfl,.nil⟩) ae (vV (ah (ku h1) (ah ae (ah ae aA))) cm) (kH λH0 R=>⟨[],rfl,.nil⟩) ae (kH λH0 R=>rfl) ae ae)
end
theorem boot_bool:bootBuiltins "bool"=some (.type "bool"):=by decide +kernel
section
variable {P:Program}{w:World}{K:PySem.W.Frag}{mg:Str->Option Value}{base:Heap}{f:Addr}{fd:FuncData}{C:Addr}
abbrev tX:Stmt:=top mV
theorem yt:aU ["value"] ["value"] (aq tX):=⟨rfl,rfl,rfl,by decide +kernel,rfl,by decide +kernel,by decide +kernel⟩
def pw:cI:=λK ps T=>∃x:Int,ps=[⟨ag,x⟩]/\T=dc K bU (· =true)
theorem zX (M:bZ K mg)(F:bX K "is_whole" "is_whole" tX f fd)(hm:mg "is_whole"=some (.ref f))(hb:Binds K fd ["value"] []):aV P w K mg base "is_whole" 1 (bg pw K):=by
 have nd:=yt.nd
 refine cN F yt hm hb (λqs T ⟨x,e,_⟩=>by rw [e];rfl) (λcdv A outer s H E qs T hr hS=>?_)
 obtain ⟨x,rfl,rfl⟩:=hS
 exact ay (bB (fG (bV M.isinstance M.int PyProof.Rows.boot_int (aa 0 rfl) ty_int) (λ_=>gj (mI (bV M.isinstance M.bool boot_bool (aa 0 rfl) ty_int)))) rfl)
abbrev pz:Stmt:=top mC
theorem yE:aU ["values"] ["values"] (aq pz):=⟨rfl,rfl,rfl,by decide +kernel,rfl,by decide +kernel,by decide +kernel⟩
def yS:cI:=λK ps T=>(∃ns:List Int,ps=[⟨ak ag,ns⟩])/\T=dc K bU (· =true)
theorem yT {α:Type}(xs:List α):((xs.filter λ_=>true).map λ_=>true).all id=true:=by
 rw [List.all_eq_true];intro b hb
 obtain ⟨_,_,rfl⟩:=List.mem_map.mp hb;rfl
theorem zN (M:bZ K mg)(CI:aV P w K mg base "is_whole" 1 (bg pw K))(F:bX K "are_whole" "are_whole" pz f fd)(hm:mg "are_whole"=some (.ref f))(hb:Binds K fd ["values"] []):aV P w K mg base "are_whole" 2 (bg yS K):=by
 have nd:=yE.nd
 have ndc:List.Nodup [("value":Str)]:=by decide
 refine cN F yE hm hb (λqs T ⟨⟨_,e⟩,_⟩=>by rw [e];rfl) (λcdv A outer s H E qs T hr hS=>?_)
 obtain ⟨⟨ns,rfl⟩,rfl⟩:=hS
 exact ay (bB (j0 M.all (bb.im (eF (own:=["value"]) (fr:=[]) (ix:=[]) (p:=λ_=>true) (f:=λ_=>true) (cR (so:=aq pz) (N0:=["values"]) rfl rfl (λx h=>cx h) (by decide +kernel)) (dE (aa 0 rfl))
  (λC s H ex=>cF 0) (λx=>⟨.inr rfl,trivial⟩) (λC s H ex x hx=>ej) (λC s H ex x hx _=>bI CI hr (au (aa 0 rfl) aP) ⟨_,rfl,rfl⟩)))) (yT ns))
abbrev mn:Stmt:=top jK
abbrev m7:List Str:=["answers","bound"]
theorem oJ:aU m7 m7 (aq mn):=⟨rfl,rfl,rfl,by decide +kernel,rfl,by decide +kernel,by decide +kernel⟩
def dX (ans:List Int):Bool:=((ans.filter λ_=>true).map λa=>decide (0<=a)&&decide (a<=1)).all id
def wK:cI:=λK ps T=>∃(ans:List Int) (bound:Int),ps=[⟨ak ag,ans⟩,⟨ag,bound⟩]/\dX ans=true/\0<=bound/\T=dc K eY (λ_=>True)
theorem zA (M:bZ K mg)(CI:aV P w K mg base "is_whole" 1 (bg pw K))(CA:aV P w K mg base "are_whole" 2 (bg yS K))(F:bX K "need_answers" "need_answers" mn f fd)(hm:mg "need_answers"=some (.ref f))(hb:Binds K fd m7 []):aV P w K mg base "need_answers" 3 (bg wK K):=by
 have nd:=oJ.nd
 have ndc:List.Nodup [("answer":Str)]:=by decide
 refine qm F oJ hm hb (λqs T ⟨_,_,e,_⟩=>by rw [e];rfl) (λcdv A outer s H E qs T hr hS=>?_)
 obtain ⟨ans,bound,rfl,ha,hb,rfl⟩:=hS
 refine ⟨λ_ _ _=>⟨(),rfl,trivial⟩,?_⟩
 change WS _ _ [.im (ak ag) ans,.im ag bound] _ _
 refine ai (aD (TW.tv (c7 (bP (bA (bV M.isinstance M.list PyProof.Rows.boot_list (aa 0 rfl) ty_list))) (λ_=>c7 (bP (bA (bI CA hr (au (aa 0 rfl) aP) ⟨⟨_,rfl⟩,rfl⟩))) (λ_=>cU (bP (bA (j0 M.all (bb.im (eF (own:=["answer"]) (fr:=[]) (ix:=[]) (p:=λ_=>true) (f:=λa=>decide (0<=a)&&decide (a<=1)) (cR (so:=aq mn) (N0:=m7) rfl rfl (λx h=>cx h) (by decide +kernel)) (dE (aa 0 rfl))
  (λC s H ex=>cF 0) (λx=>⟨.inr rfl,trivial⟩) (λC s H ex x hx=>ej) (λC s H ex x hx _=>mq oZ oZ ae (aa 0 rfl) ae)))))))))) (λh=>?_) (λh=>aG ?_))
 ·have h2:(false ||(false || !dX ans))=true:=h
  rw [ha] at h2;cases h2
 refine ay (aD (TW.tv (c7 (bP (bA (bI (CI.mono (by decide)) hr (au (aa 1 rfl) aP) ⟨_,rfl,rfl⟩))) (λ_=>cU (ao jb (aa 1 rfl) ae)))) (λh=>?_) (λh=>aG trivial))
 have h2:(false ||decide (bound < 0))=true:=h
 simp at h2
 omega
def sv (C:Addr):jA:=λK ps o=>∃(ans:List Int) (bound:Int),ps=[⟨ak ag,ans⟩,⟨ag,bound⟩]/\(dX ans=false∨bound < 0)/\o= .exc (.ref C)
theorem xA (M:bZ K mg)(hC:lU K mg "NoAnswer" C)(CI:aV P w K mg base "is_whole" 1 (bg pw K))(CA:aV P w K mg base "are_whole" 2 (bg yS K))(F:bX K "need_answers" "need_answers" mn f fd)(hm:mg "need_answers"=some (.ref f))(hb:Binds K fd m7 []):dO P w K mg base "need_answers" 3 (fY (sv C) K):=by
 have nd:=oJ.nd
 have ndc:List.Nodup [("answer":Str)]:=by decide
 refine lF F oJ hm hb (λqs o ⟨_,_,e,_⟩=>by rw [e];rfl) (λqs T ⟨_,_,_,_,e⟩=>by cases e) (λcdv A outer s H R E qs c hr hS q=>?_)
 obtain ⟨ans,bound,rfl,ha,e⟩:=hS
 cases e
 change RS _ H R _ [.im (ak ag) ans,.im ag bound]
 refine rh (TW.tv (c7 (bP (bA (bV M.isinstance M.list PyProof.Rows.boot_list (aa 0 rfl) ty_list))) (λ_=>c7 (bP (bA (bI CA hr (au (aa 0 rfl) aP) ⟨⟨_,rfl⟩,rfl⟩))) (λ_=>cU (bP (bA (j0 M.all (bb.im (eF (own:=["answer"]) (fr:=[]) (ix:=[]) (p:=λ_=>true) (f:=λa=>decide (0<=a)&&decide (a<=1)) (cR (so:=aq mn) (N0:=m7) rfl rfl (λx h=>cx h) (by decide +kernel)) (dE (aa 0 rfl))
  (λC s H ex=>cF 0) (λx=>⟨.inr rfl,trivial⟩) (λC s H ex x hx=>ej) (λC s H ex x hx _=>mq oZ oZ ae (aa 0 rfl) ae)))))))))) (λh=>lL hC q) (λh=>?_)
 have h3:(false ||(false || !dX ans))=false:=h
 have ht:dX ans=true:=by simpa using h3
 have hb0:bound < 0:=ha.resolve_left (by rw [ht];decide)
 exact rh (TW.tv (c7 (bP (bA (bI (CI.mono (by decide)) hr (au (aa 1 rfl) aP) ⟨_,rfl,rfl⟩))) (λ_=>cU (ao jb (aa 1 rfl) ae)))) (λ_=>lL hC q) (λh=>by
  have h2:(false ||decide (bound < 0))=false:=h
  simp at h2
  omega)
end
end K1
namespace Fc
open PySem PySem.Spec L2
open PyProof.Rows hiding St
def iL (P:Program)(w:World)(K:PySem.W.Frag)(mg:Str->Option Value)(x:Str)(D:List (Str×List Str)):Prop:=
 ∃a o vs,mg x=some (.ref a)/\K.lookup a=some o/\o.IsDictOf (bH P w) vs/\(a==sysModules)=false/\
  PySem.Paired (λ(d:Str×List Str) (p:Key×Value)=>p.1=Sum.inr d.1/\∃b o its n,p.2= .ref b/\K.lookup b=some o/\o.cls= .type "tuple"/\o.data= .seq its n/\its.size<=sizeLine/\Vals (d.2.map V.str) its.toList) D vs
def jZ:List (Str×List Str)->Str->Option (List Str)
 | [],_=>none
 | (k,v)::r,x=>if k=x then some v else jZ r x
theorem oo {K:PySem.W.Frag}{x:Str}:∀{D:List (Str×List Str)} {vs:List (Key×Value)},PySem.Paired (λ(d:Str×List Str) (p:Key×Value)=>p.1=Sum.inr d.1/\∃b o its n,p.2= .ref b/\K.lookup b=some o/\o.cls= .type "tuple"/\o.data= .seq its n/\its.size<=sizeLine/\Vals (d.2.map V.str) its.toList) D vs->
 (jZ D x=none/\valueAt vs (Sum.inr x:Key)=none)∨∃ys b,jZ D x=some ys/\valueAt vs (Sum.inr x:Key)=some (.ref b)/\∃o its n,K.lookup b=some o/\o.cls= .type "tuple"/\o.data= .seq its n/\its.size<=sizeLine/\Vals (ys.map V.str) its.toList
 | _,_,.nil=>.inl ⟨rfl,rfl⟩
 | _,_,.cons (a:=d) (b:=p) h t=>by
   obtain ⟨k,v⟩:=d
   obtain ⟨q,u⟩:=p
   obtain ⟨e1,b,o,its,n,e2,h3⟩:=h
   have e1:q=Sum.inr k:=e1
   have e2:u=Value.ref b:=e2
   subst e1;subst e2
   rw [jZ]
   unfold valueAt
   rw [List.find?_cons]
   by_cases e:k=x
   ·subst e
    rw [if_pos rfl]
    exact .inr ⟨v,b,rfl,by simp,o,its,n,h3⟩
   ·rw [if_neg e]
    have:decide ((Sum.inr k:Key)=Sum.inr x)=false:=decide_eq_false λz=>e (Sum.inr.inj z)
    simp only [this]
    exact oo t
section
variable {X:Cx}{Γ Γ1 Γ2 Γ3:Ga}{α β γ δ:Type}{N:Ga->Prop}{T:RT}
theorem pX {e:Expr}{x:Str}{p1 pos:Pos}{D:List (Str×List Str)}{k:Str}(hD:iL X.prog X.w X.K X.mg x D)(he:EV X e Γ cY k Γ1)(hg:Gl X x:=by rfl)(hd:(x==("__debug__":Str))=false:=by decide):TV X (.Compare e [.NotIn] [.Name x p1] pos) Γ (!(jZ D k).isSome) Γ1:=by
 intro σ H0 R0 H R E Q q
 obtain ⟨a,o,vs,hm,hk,hdo,hs,hp⟩:=hD
 have pc:PC X .NotIn e (.Name x p1) (λσ H Q=>cQ X e σ H λy H1=>y= .str k/\Q (.bl (!(jZ D k).isSome)) H1):=by
  intro pins s σ H Q I h
  refine aT (h pins s I) λiv s1 ⟨y,H1,I1,ry,ey,q1⟩=>aT (fu (v:=.ref a) hg hm rfl hd pins s1 σ H1 (λv H2=>v= .ref a/\H2=H1) I1 ⟨rfl,rfl⟩) λu s2 ⟨y2,H2,I2,ry2,e3,e4⟩=>?_
  subst ey;subst e3;subst e4
  obtain rfl:u=Value.ref a:=ry2
  have dd:s2.heap.DictOf (bH X.prog X.w) a vs:=Heap.dictOf_iff.mpr ⟨o,I2.cO a o hk,hdo⟩
  refine wpAny_notIn_of (gI (k:=Sum.inr k) ry) hs dd.mapOf ?_
  rcases oo (x:=k) hp with ⟨h1,h2⟩ | ⟨ys,b,h1,h2,_⟩
  ·rw [h2];rw [h1] at q1;exact ⟨.bl _,_,I2.tok _,rfl,q1⟩
  ·rw [h2];rw [h1] at q1;exact ⟨.bl _,_,I2.tok _,rfl,q1⟩
 refine tS (zm pc (by with_unfolding_all rfl)) (he σ H0 R0 H R E _ λv H1 R1 E1 s1 e1=>⟨e1,_,rfl,q H1 R1 E1 s1⟩)
theorem vX {e:Expr}{x:Str}{p1 pos:Pos}{D:List (Str×List Str)}{k:Str}{ys:List Str}(hD:iL X.prog X.w X.K X.mg x D)(he:EV X e Γ cY k Γ1)(hy:jZ D k=some ys)(hg:Gl X x:=by rfl)(hd:(x==("__debug__":Str))=false:=by decide)(hsl:oF e:=by exact λ_ _=>rfl):EV X (.Subscript (.Name x p1) e pos) Γ mm ys Γ1:=by
 intro σ H0 R0 H R E Q q
 obtain ⟨a,o,vs,hm,hk,hdo,hs,hp⟩:=hD
 rcases oo (x:=k) hp with ⟨h1,h2⟩ | ⟨ys',b,h1,h2,o',its,n,h3⟩
 ·rw [hy] at h1;cases h1
 rw [hy] at h1;cases h1
 have pe:PE X (.Subscript (.Name x p1) e pos) (λσ H Q=>cQ X e σ H λy H1=>y= .str k/\Q (.ref b) H1):=by
  intro pins s σ H Q I h
  refine nq PySem.F.slot_dict_getitem.lookup hsl (aT (fu (v:=.ref a) hg hm rfl hd pins s σ H (λv H2=>v= .ref a/\H2=H) I ⟨rfl,rfl⟩) λu s1 ⟨x1,H1,I1,rx,e3,e4⟩=>aT (h pins s1 (e4▸I1)) λiv s2 ⟨y,H2,I2,ry,ey,q2⟩=>?_)
  subst e3;subst ey
  obtain rfl:u=Value.ref a:=rx
  have dd:s2.heap.DictOf (bH X.prog X.w) a vs:=Heap.dictOf_iff.mpr ⟨o,I2.cO a o hk,hdo⟩
  exact ⟨dd.typeIs,wpAny_getItem_of (gI (k:=Sum.inr k) ry) dd.mapOf h2 ⟨.ref b,H2,I2.tok _,rfl,q2⟩⟩
 exact eS pe (he σ H0 R0 H R E _ λv H1 R1 E1 s1 e1=>⟨e1,q _ H1 R1 E1 s1 ⟨b,rfl,.inr ⟨o',its,n,h3⟩⟩⟩)
end
end Fc
namespace Fc.ZT
open PySem PySem.Spec PyProof.Rows
section
variable {prog:Program}{w:World}{A:Around}{E:Value->Shared->Prop}{s:Shared}
structure Dr (prog:Program) (w:World) (A:Around) (i l:Addr) (its:Array Value) (St:Nat->Heap->Prop):Prop where
 up:∀{k:Nat} {h h':Heap},St k h->(∀b,b=i∨b=l->∀o,h.get? b=some o->h'.get? b=some o)->St k h'
 there:∀{k:Nat} {h:Heap},St k h->i < h.objs.size
 item:∀{k:Nat} {x:Value} {s:Shared} {Q:Value->Shared->Prop} {E:Value->Shared->Prop},St k s.heap->its[k]?=some x->(∀h',St (k + 1) h'->Heap.SameBut i s.heap h'->Q x {s with heap:=h'})->wpAny (model prog w) A (Builtin.SmallTypes.nextOf (.ref i)) Q E s
 done:∀{k:Nat} {s:Shared} {Q:Value->Shared->Prop} {E:Value->Shared->Prop},St k s.heap->its[k]?=none->(∀h' e,Heap.ExtBut i s.heap h'->(∃o,h'.get? e=some o/\o.cls= .type "StopIteration")->E (.ref e) {s with heap:=h'})->wpAny (model prog w) A (Builtin.SmallTypes.nextOf (.ref i)) Q E s
theorem gB {i l:Addr}{its:Array Value}(hh:A.handled=none)(hne:i≠l):Dr prog w A i l its (λk h=>h.IsTupleIter i l k/\h.IsTuple l its) where
 up:=λ⟨⟨o,ho,r⟩,⟨o',ho',r'⟩⟩ hk=>⟨⟨o,hk _ (.inl rfl) o ho,r⟩,⟨o',hk _ (.inr rfl) o' ho',r'⟩⟩
 there:=λ⟨⟨o,ho,_⟩,_⟩=>Heap.lt_size ho
 item:=λ{k x s Q E} ⟨hit,ht⟩ hx hQ=>by
  obtain ⟨o,ho,hc,hd⟩:=id hit
  obtain ⟨ol,hol,_,nl,hdl⟩:=id ht
  unfold Builtin.SmallTypes.nextOf
  refine wpAny_bind (wpAny_callSpecial?_slot (name:=Str.ofString "__next__") hit.typeIs F.slot_tuple_iterator_next
   (wpAny_call_entry F.slot_tuple_iterator_next hit.typeIs F.entry_tuple_iterator_next ?_ (F.args_tuple_iterator_next_1 _)))
  show wpAny _ _ (field (.ref i) 0 >>=_) _ _ s
  refine wpAny_bind (wpAny_field ho hd (x:=.ref l) rfl ?_)
  refine wpAny_ite ?_
  rw [if_neg (show¬((Value.ref l==Value.none)=true) from Bool.false_ne_true)]
  show wpAny _ _ (field (.ref i) 1 >>=_) _ _ s
  refine wpAny_bind (wpAny_field ho hd (x:=.int k 0) rfl ?_)
  show wpAny _ _ (seqItems? (.ref l) >>=_) _ _ s
  refine wpAny_bind (wpAny_seqItems hol hdl ?_)
  simp only [Int.toNat_natCast,hx]
  have hs:=Heap.SameBut.update s.heap i (λo=>o.mapFields λa=>a.setIfInBounds 1 (rawInt (k + 1)))
  refine wpAny_bind (wpAny_setField ho hd (by simp) (wpAny_pure ⟨x,rfl,wpAny_pure (hQ _ ⟨?_,ht.extBut (Heap.SameBut.update ..).extBut (Ne.symm hne)⟩ (Heap.SameBut.update ..))⟩))
  exact ⟨_,Heap.get?_update_self _ ho (Obj.isFreed_of_fields (Obj.data_mapFields hd _)),(Obj.cls_mapFields ..).trans hc,by rw [Obj.data_mapFields hd];simp [rawInt]⟩
 done:=λ{k s Q E} ⟨hit,ht⟩ hx hE=>by
  obtain ⟨o,ho,hc,hd⟩:=id hit
  obtain ⟨ol,hol,_,nl,hdl⟩:=id ht
  unfold Builtin.SmallTypes.nextOf
  refine wpAny_bind (wpAny_callSpecial?_slot (name:=Str.ofString "__next__") hit.typeIs F.slot_tuple_iterator_next
   (wpAny_call_entry F.slot_tuple_iterator_next hit.typeIs F.entry_tuple_iterator_next ?_ (F.args_tuple_iterator_next_1 _)))
  show wpAny _ _ (field (.ref i) 0 >>=_) _ _ s
  refine wpAny_bind (wpAny_field ho hd (x:=.ref l) rfl ?_)
  refine wpAny_ite ?_
  rw [if_neg (show¬((Value.ref l==Value.none)=true) from Bool.false_ne_true)]
  show wpAny _ _ (field (.ref i) 1 >>=_) _ _ s
  refine wpAny_bind (wpAny_field ho hd (x:=.int k 0) rfl ?_)
  show wpAny _ _ (seqItems? (.ref l) >>=_) _ _ s
  refine wpAny_bind (wpAny_seqItems hol hdl ?_)
  simp only [Int.toNat_natCast,hx]
  refine wpAny_bind (wpAny_rule (wpAny_bind (wpAny_setField ho hd (by simp) ?_)))
  show wpAny _ _ (newExc (.type "StopIteration") [] >>=_) _ _ _
  refine wpAny_bind ?_
  simp only [newExc,newTuple]
  refine wpAny_bind (wpAny_newObj_type ?_ (by size_fits))
  refine wpAny_bind (m:=firstArgMember _ _) (wpAny_of_eq (a:=Value.none) (by first | rfl | (simp only [firstArgMember];rfl)) ?_)
  refine wpAny_newObj_type ?_ (by size_fits)
  simp only [raiseNew]
  refine wpAny_bind (wpAny_handled ?_)
  first | rw [show A.in1.handled=none from hh] | rw [hh]
  refine wpAny_bind (wpAny_pure (wpAny_throw ?_))
  exact hE _ _ (((Heap.SameBut.update ..).extBut.push _).push _) ⟨_,Heap.get?_push_size _ rfl,rfl⟩
section
variable {z TI TO i1 i2 l1 l2:Addr}{k1 k2:Nat}{xs ys:Array Value}{x y a b:Value}{S1 S2:Nat->Heap->Prop}
theorem up1 {i l c:Addr}{its:Array Value}{St:Nat->Heap->Prop}(d:Dr prog w A i l its St){k:Nat}{h h':Heap}(hs:St k h)(e:Heap.ExtBut c h h')(h1:i≠c)(h2:l≠c):St k h':=d.up hs λb hb o q=>e b o (by rcases hb with rfl | rfl<;>assumption) q
theorem vJ {Q:Value->Shared->Prop}(D:ZipApart z TI TO i1 i2 l1 l2)(d1:Dr prog w A i1 l1 xs S1)(d2:Dr prog w A i2 l2 ys S2)
 (hz:IsZip s.heap z TI TO .none) (hTI:IsPair s.heap TI (.ref i1) (.ref i2)) (hTO:IsPair s.heap TO a b) (h1:S1 k1 s.heap) (h2:S2 k2 s.heap) (hx:xs[k1]?=some x) (hy:ys[k2]?=some y)
 (hQ:∀h',IsZip h' z TI TO (rawInt s.heap.objs.size)->IsPair h' TO x y->S1 (k1 + 1) h'->S2 (k2 + 1) h'->IsPair h' s.heap.objs.size x y->(∀c o,c≠z->c≠TO->c≠i1->c≠i2->s.heap.get? c=some o->h'.get? c=some o)->Q (.ref s.heap.objs.size) {s with heap:=h'}):
 wpAny (model prog w) A (Builtin.«zip.__next__» ⟨[.ref z],[]⟩) (λfin s'=>∃v,fin= .done (.ret v)/\Q v s') E s:=by
 show wpAny _ _ (field (.ref z) 2 >>=_) _ _ _
 refine wpAny_bind (wpAny_field hz rfl (x:=.bool false) rfl ?_)
 show wpAny _ _ (field (.ref z) 3 >>=_) _ _ _
 refine wpAny_bind (wpAny_field hz rfl (x:=.ref TI) rfl (wpAny_bind (wpAny_seqItems hTI rfl ?_)))
 show wpAny _ _ (Builtin.SmallTypes.ownedTupleIsFree (.ref z) >>=_) _ _ _
 refine wpAny_bind ?_
 unfold Builtin.SmallTypes.ownedTupleIsFree
 refine wpAny_bind (wpAny_field hz rfl (x:=.none) rfl (wpAny_pure ?_))
 simp only [if_true]
 refine wpAny_bind (wpAny_rule (wpAny_bind (wpAny_field hz rfl (x:=.ref TO) rfl (wpAny_bind (wpAny_setField_rec hz (by simp) λha hza hsa=>?_)))))
 replace hza:IsZip ha z TI TO .ellipsis:=hza
 refine wpAny_bind ?_
 simp only [List.zipIdx_cons,List.zipIdx_nil,List.forIn_cons,List.forIn_nil]
 refine wpAny_bind (wpAny_bind (wpAny_onRaise ?_))
 show wpAny _ _ (Builtin.SmallTypes.nextOf (.ref i1) >>=_) _ _ _
 have g1:S1 k1 ha:=up1 d1 h1 hsa.extBut D.i1z D.l1z
 have g2:S2 k2 ha:=up1 d2 h2 hsa.extBut D.i2z D.l2z
 refine wpAny_bind (d1.item g1 hx λhb n1 hsb=>wpAny_pure ?_)
 have tb:IsPair hb TO a b:=hsb.extBut _ _ D.TOi1 (hsa.extBut _ _ D.TOz hTO)
 refine wpAny_bind (wpAny_seqItems tb rfl (wpAny_bind (wpAny_updateSeq_pair tb λhc tc hsc=>?_)))
 replace tc:IsPair hc TO x b:=tc
 refine wpAny_bind (wpAny_letGo (wpAny_pure ?_))
 refine wpAny_bind (wpAny_bind (wpAny_onRaise ?_))
 show wpAny _ _ (Builtin.SmallTypes.nextOf (.ref i2) >>=_) _ _ _
 have g2c:S2 k2 hc:=up1 d2 (up1 d2 g2 hsb.extBut D.i12.symm D.l2i1) hsc.extBut D.TOi2.symm D.l2TO
 refine wpAny_bind (d2.item g2c hy λhd n2 hsd=>wpAny_pure ?_)
 have td:IsPair hd TO x b:=hsd.extBut _ _ D.TOi2 tc
 refine wpAny_bind (wpAny_seqItems td rfl (wpAny_bind (wpAny_updateSeq_pair td λhe te hse=>?_)))
 replace te:IsPair he TO x y:=te
 refine wpAny_bind (wpAny_letGo (wpAny_pure (wpAny_pure ?_)))
 refine wpAny_bind (wpAny_seqItems te rfl (wpAny_bind (wpAny_newTuple ?_)))
 have hsz:he.objs.size=s.heap.objs.size:=by rw [hse.1,hsd.1,hsc.1,hsb.1,hsa.1]
 have ze:IsZip he z TI TO .ellipsis:=hse.extBut _ _ D.TOz.symm (hsd.extBut _ _ D.i2z.symm (hsc.extBut _ _ D.TOz.symm (hsb.extBut _ _ D.i1z.symm hza)))
 have ke:∀c o,c≠z->c≠TO->c≠i1->c≠i2->s.heap.get? c=some o->he.get? c=some o:=λc o c1 c2 c3 c4 e=>
  hse.extBut _ _ c2 (hsd.extBut _ _ c4 (hsc.extBut _ _ c2 (hsb.extBut _ _ c3 (hsa.extBut _ _ c1 e))))
 have m1:S1 (k1 + 1) he:=up1 d1 (up1 d1 (up1 d1 n1 hsc.extBut D.TOi1.symm D.l1TO) hsd.extBut D.i12 D.l1i2) hse.extBut D.TOi1.symm D.l1TO
 have m2:S2 (k2 + 1) he:=up1 d2 n2 hse.extBut D.TOi2.symm D.l2TO
 have hzlt:z < he.objs.size:=Heap.lt_size ze
 show wpAny _ _ (Builtin.SmallTypes.ownedTupleHandOut (.ref z) (.ref he.objs.size) >>=_) _ _ _
 refine wpAny_bind ?_
 unfold Builtin.SmallTypes.ownedTupleHandOut
 have zf:IsZip (he.push {cls:=.type "tuple",data:=.seq #[x,y]}) z TI TO .ellipsis:=Heap.get?_push_of_some _ ze
 refine wpAny_bind (wpAny_setField_rec zf (by simp) λhg zg hsg=>?_)
 replace zg:IsZip hg z TI TO (rawInt he.objs.size):=zg
 refine wpAny_setField_rec zg (by simp) λhj zj hsj=>?_
 replace zj:IsZip hj z TI TO (rawInt he.objs.size):=zj
 have up:∀c o,c≠z->he.get? c=some o->hj.get? c=some o:=λc o c1 e=>hsj.extBut _ _ c1 (hsg.extBut _ _ c1 (Heap.get?_push_of_some _ e))
 have tj:IsPair hj he.objs.size x y:=hsj.extBut _ _ (Nat.ne_of_gt hzlt) (hsg.extBut _ _ (Nat.ne_of_gt hzlt) (Heap.get?_push_size _ rfl))
 rw [hsz] at zj tj
 refine wpAny_pure ⟨_,rfl,?_⟩
 show Q (.ref he.objs.size) _
 rw [hsz]
 exact hQ hj zj (up _ _ D.TOz te) (d1.up m1 λc hc o e=>up c o (hc.elim (λq=>by rw [q];exact D.i1z) λq=>by rw [q];exact D.l1z) e) (d2.up m2 λc hc o e=>up c o (hc.elim (λq=>by rw [q];exact D.i2z) λq=>by rw [q];exact D.l2z) e) tj λc o c1 c2 c3 c4 e=>up c o c1 (ke c o c1 c2 c3 c4 e)
theorem xt {Q:PySem.Fin->Shared->Prop}(D:ZipApart z TI TO i1 i2 l1 l2)(d1:Dr prog w A i1 l1 xs S1)(d2:Dr prog w A i2 l2 ys S2)
 (hz:IsZip s.heap z TI TO .none) (hTI:IsPair s.heap TI (.ref i1) (.ref i2)) (hTO:IsPair s.heap TO a b) (h1:S1 k1 s.heap) (h2:S2 k2 s.heap) (hend:xs[k1]?=none∨ys[k2]?=none)
 (hE:∀h' e,(∀c o,c≠z->c≠TO->c≠i1->c≠i2->s.heap.get? c=some o->h'.get? c=some o)->(∃o,h'.get? e=some o/\o.cls= .type "StopIteration")->E (.ref e) {s with heap:=h'}):
 wpAny (model prog w) A (Builtin.«zip.__next__» ⟨[.ref z],[]⟩) Q E s:=by
 show wpAny _ _ (field (.ref z) 2 >>=_) _ _ _
 refine wpAny_bind (wpAny_field hz rfl (x:=.bool false) rfl ?_)
 show wpAny _ _ (field (.ref z) 3 >>=_) _ _ _
 refine wpAny_bind (wpAny_field hz rfl (x:=.ref TI) rfl (wpAny_bind (wpAny_seqItems hTI rfl ?_)))
 show wpAny _ _ (Builtin.SmallTypes.ownedTupleIsFree (.ref z) >>=_) _ _ _
 refine wpAny_bind ?_
 unfold Builtin.SmallTypes.ownedTupleIsFree
 refine wpAny_bind (wpAny_field hz rfl (x:=.none) rfl (wpAny_pure ?_))
 simp only [if_true]
 refine wpAny_bind (wpAny_rule (wpAny_bind (wpAny_field hz rfl (x:=.ref TO) rfl (wpAny_bind (wpAny_setField_rec hz (by simp) λha hza hsa=>?_)))))
 replace hza:IsZip ha z TI TO .ellipsis:=hza
 refine wpAny_bind ?_
 simp only [List.zipIdx_cons,List.zipIdx_nil,List.forIn_cons,List.forIn_nil]
 refine wpAny_bind (wpAny_bind (wpAny_onRaise ?_))
 show wpAny _ _ (Builtin.SmallTypes.nextOf (.ref i1) >>=_) _ _ _
 have g1:S1 k1 ha:=up1 d1 h1 hsa.extBut D.i1z D.l1z
 have g2:S2 k2 ha:=up1 d2 h2 hsa.extBut D.i2z D.l2z
 cases hx:xs[k1]? with
 | none=>
   refine wpAny_bind (d1.done g1 hx λhb e hsb he=>?_)
   obtain ⟨oe,hoe,hce⟩:=he
   have zb:IsZip hb z TI TO .ellipsis:=hsb _ _ D.i1z.symm hza
   have hez:e≠z:=λq=>by subst q;rw [zb] at hoe;cases hoe;simp at hce
   exact wpAny_setField_rec zb (by simp) λhc _ hsc=>hE hc e (λc o c1 _ c3 _ q=>hsc.extBut _ _ c1 (hsb _ _ c3 (hsa.extBut _ _ c1 q))) ⟨oe,hsc.extBut _ _ hez hoe,hce⟩
 | some x=>
   have hy:ys[k2]?=none:=by rcases hend with q | q;rw [hx] at q;cases q;exact q
   refine wpAny_bind (d1.item g1 hx λhb n1 hsb=>wpAny_pure ?_)
   have tb:IsPair hb TO a b:=hsb.extBut _ _ D.TOi1 (hsa.extBut _ _ D.TOz hTO)
   refine wpAny_bind (wpAny_seqItems tb rfl (wpAny_bind (wpAny_updateSeq_pair tb λhc tc hsc=>?_)))
   refine wpAny_bind (wpAny_letGo (wpAny_pure ?_))
   refine wpAny_bind (wpAny_bind (wpAny_onRaise ?_))
   show wpAny _ _ (Builtin.SmallTypes.nextOf (.ref i2) >>=_) _ _ _
   have g2c:S2 k2 hc:=up1 d2 (up1 d2 g2 hsb.extBut D.i12.symm D.l2i1) hsc.extBut D.TOi2.symm D.l2TO
   refine wpAny_bind (d2.done g2c hy λhd e hsd he=>?_)
   obtain ⟨oe,hoe,hce⟩:=he
   have zd:IsZip hd z TI TO .ellipsis:=hsd _ _ D.i2z.symm (hsc.extBut _ _ D.TOz.symm (hsb.extBut _ _ D.i1z.symm hza))
   have hez:e≠z:=λq=>by subst q;rw [zd] at hoe;cases hoe;simp at hce
   exact wpAny_setField_rec zd (by simp) λhe _ hse=>hE he e (λc o c1 c2 c3 c4 q=>hse.extBut _ _ c1 (hsd _ _ c4 (hsc.extBut _ _ c2 (hsb.extBut _ _ c3 (hsa.extBut _ _ c1 q))))) ⟨oe,hse.extBut _ _ hez hoe,hce⟩
theorem vn {Q:Option Value->Shared->Prop}(D:ZipApart z TI TO i1 i2 l1 l2)(d1:Dr prog w A.in1 i1 l1 xs S1)(d2:Dr prog w A.in1 i2 l2 ys S2)
 (hz:IsZip s.heap z TI TO .none) (hTI:IsPair s.heap TI (.ref i1) (.ref i2)) (hTO:IsPair s.heap TO a b) (h1:S1 k1 s.heap) (h2:S2 k2 s.heap) (hx:xs[k1]?=some x) (hy:ys[k2]?=some y)
 (hQ:∀h',IsZip h' z TI TO (rawInt s.heap.objs.size)->IsPair h' TO x y->S1 (k1 + 1) h'->S2 (k2 + 1) h'->IsPair h' s.heap.objs.size x y->(∀c o,c≠z->c≠TO->c≠i1->c≠i2->s.heap.get? c=some o->h'.get? c=some o)->Q (some (.ref s.heap.objs.size)) {s with heap:=h'}):
 wpAny (model prog w) A (pyNext (.ref z)) Q E s:=by
 have hT:s.TypeIs (.ref z) "zip":=⟨_,hz,rfl⟩
 unfold pyNext
 exact wpAny_bind (wpAny_attempt (wpAny_callSpecial?_slot (name:=Str.ofString "__next__") hT F.slot_zip_next (wpAny_call_entry F.slot_zip_next hT F.entry_zip_next (vJ D d1 d2 hz hTI hTO h1 h2 hx hy λh' a1 a2 a3 a4 a5 a6=>wpAny_pure (hQ h' a1 a2 a3 a4 a5 a6)) (F.args_zip_next_1 _))))
theorem wC {Q:Option Value->Shared->Prop}(D:ZipApart z TI TO i1 i2 l1 l2)(d1:Dr prog w A.in1 i1 l1 xs S1)(d2:Dr prog w A.in1 i2 l2 ys S2)
 (hz:IsZip s.heap z TI TO .none) (hTI:IsPair s.heap TI (.ref i1) (.ref i2)) (hTO:IsPair s.heap TO a b) (h1:S1 k1 s.heap) (h2:S2 k2 s.heap) (hend:xs[k1]?=none∨ys[k2]?=none)
 (hQ:∀h',(∀c o,c≠z->c≠TO->c≠i1->c≠i2->s.heap.get? c=some o->h'.get? c=some o)->Q none {s with heap:=h'}):wpAny (model prog w) A (pyNext (.ref z)) Q E s:=by
 have hT:s.TypeIs (.ref z) "zip":=⟨_,hz,rfl⟩
 unfold pyNext
 refine wpAny_bind (wpAny_attempt (wpAny_callSpecial?_slot (name:=Str.ofString "__next__") hT F.slot_zip_next (wpAny_call_entry F.slot_zip_next hT F.entry_zip_next (xt D d1 d2 hz hTI hTO h1 h2 hend λh' e hk he=>?_) (F.args_zip_next_1 _))))
 obtain ⟨o,ho,hc⟩:=he
 exact wpAny_bind (wpAny_isInstance (T:="StopIteration") (b:=true) ⟨o,ho,hc⟩ isSubtype_stop (wpAny_pure (hQ _ hk)))
end
end
end Fc.ZT
namespace Fc
open PySem PySem.Spec L2
open PyProof.Rows hiding St
section
variable {X:Cx}{Γ Γ1 Γ2 Γ3:Ga}{α β γ δ:Type}{N:Ga->Prop}{T:RT}
structure sQ (z TI TO i1 i2:Addr):Prop where
 TIz:TI≠z
 TOz:TO≠z
 i1z:i1≠z
 i2z:i2≠z
 TITO:TI≠TO
 TIi1:TI≠i1
 TIi2:TI≠i2
 TOi1:TO≠i1
 TOi2:TO≠i2
 i12:i1≠i2
theorem i0 {a b:Nat}(h:a < b∨b < a): @Ne Addr a b:=h.elim Nat.ne_of_lt Nat.ne_of_gt
theorem Bm (n:Nat):sQ (n + 4) (n + 2) (n + 3) n (n + 1):=⟨i0 (by omega),i0 (by omega),i0 (by omega),i0 (by omega),i0 (by omega),i0 (by omega),i0 (by omega),i0 (by omega),i0 (by omega),i0 (by omega)⟩
theorem yo {xs:List α}{ys:List β}{i:Nat}{q:α×β}(h:(xs.zip ys)[i]?=some q):xs[i]?=some q.1/\ys[i]?=some q.2:=by
 rw [List.getElem?_zip_eq_some] at h
 exact h
end
end Fc
namespace Fc.ZT
open PySem PySem.Spec PyProof.Rows
abbrev zh (h:Heap)(l1 l2:Addr):Heap:=((((h.push {cls:=.type "tuple_iterator",data:=.fields #[.ref l1,.int 0 0]}).push {cls:=.type "tuple_iterator",data:=.fields #[.ref l2,.int 0 0]}).push {cls:=.type "tuple",data:=.seq #[.ref h.objs.size,.ref (h.objs.size + 1)]}).push {cls:=.type "tuple",data:=.seq #[.none,.none]}).push {cls:=.type "zip",data:=.fields #[.none,.bool false,.bool false,.ref (h.objs.size + 2),.ref (h.objs.size + 3)]}
theorem vc (l1 l2:Addr)(xs ys:Array Value):Meets (Builtin.«zip.__new__» ⟨[.type "zip",.ref l1,.ref l2],[]⟩) (λ_ R s=>s.heap.IsTuple l1 xs/\s.heap.IsTuple l2 ys/\R (.ok (.ret (.ref (s.heap.objs.size + 4)))) {s with heap:=zh s.heap l1 l2}):=
 .of_wp λprog w A R s h=>by
  obtain ⟨hp,g,d,tk,os⟩:=s;obtain ⟨hl1,hl2,h⟩:=h
  have hsub:isSubtype (.type "zip") (.type "zip")=pure true:=by rw [isSubtype_type];kernel_rfl
  have hL1:Heap.IsTuple (Shared.heap ⟨hp,g,d,tk,os⟩) l1 xs:=hl1
  have hL2:Heap.IsTuple (Shared.heap ⟨hp.push {cls:=.type "tuple_iterator",data:=.fields #[.ref l1,.int 0 0]},g,d,tk,os⟩) l2 ys:=Heap.IsTuple.push hl2 _
  wp_walk using wpAny_pyIter_tuple hL1,wpAny_pyIter_tuple hL2
  refine ⟨_,rfl,?_⟩
  simp only [Heap.size_push]
  exact h
section
variable {prog:Program}{w:World}{A:Around}{E:Value->Shared->Prop}{s:Shared}
theorem tG {l1 l2:Addr}{xs ys:Array Value}{Q:Value->Shared->Prop}(hl1:s.heap.IsTuple l1 xs)(hl2:s.heap.IsTuple l2 ys)
 (h:∀h',IsZip h' (s.heap.objs.size + 4) (s.heap.objs.size + 2) (s.heap.objs.size + 3) .none->IsPair h' (s.heap.objs.size + 2) (.ref s.heap.objs.size) (.ref (s.heap.objs.size + 1))->IsPair h' (s.heap.objs.size + 3) .none .none->h'.IsTupleIter s.heap.objs.size l1 0->h'.IsTupleIter (s.heap.objs.size + 1) l2 0->
  (∀c o,s.heap.get? c=some o->h'.get? c=some o)->Q (.ref (s.heap.objs.size + 4)) {s with heap:=h'}):wpAny (model prog w) A (call (.type "zip") [.ref l1,.ref l2]) Q E s:=by
 refine callType_new F.called_zip (by decide) (F.typeCall_zip_2 _ _) (F.newCall_zip_2 _ _) (λobj=>F.args_object_init_3 obj _ _) F.entry_zip_new (vc l1 l2 xs ys) ⟨hl1,hl2,?_⟩
 have at_:∀(h:Heap) (o:Obj) (n:Nat),h.objs.size=n->o.isFreed=false->(h.push o).get? n=some o:=λh o n e f=>by subst e;exact Heap.get?_push_size _ f
 have g5:=at_ ((((s.heap.push {cls:=.type "tuple_iterator",data:=.fields #[.ref l1,.int 0 0]}).push {cls:=.type "tuple_iterator",data:=.fields #[.ref l2,.int 0 0]}).push {cls:=.type "tuple",data:=.seq #[.ref s.heap.objs.size,.ref (s.heap.objs.size + 1)]}).push {cls:=.type "tuple",data:=.seq #[.none,.none]}) {cls:=.type "zip",data:=.fields #[.none,.bool false,.bool false,.ref (s.heap.objs.size + 2),.ref (s.heap.objs.size + 3)]} (s.heap.objs.size + 4) (by simp [Heap.size_push]) rfl
 have g4:=at_ (((s.heap.push {cls:=.type "tuple_iterator",data:=.fields #[.ref l1,.int 0 0]}).push {cls:=.type "tuple_iterator",data:=.fields #[.ref l2,.int 0 0]}).push {cls:=.type "tuple",data:=.seq #[.ref s.heap.objs.size,.ref (s.heap.objs.size + 1)]}) {cls:=.type "tuple",data:=.seq #[.none,.none]} (s.heap.objs.size + 3) (by simp [Heap.size_push]) rfl
 have g3:=at_ ((s.heap.push {cls:=.type "tuple_iterator",data:=.fields #[.ref l1,.int 0 0]}).push {cls:=.type "tuple_iterator",data:=.fields #[.ref l2,.int 0 0]}) {cls:=.type "tuple",data:=.seq #[.ref s.heap.objs.size,.ref (s.heap.objs.size + 1)]} (s.heap.objs.size + 2) (by simp [Heap.size_push]) rfl
 have g2:=at_ (s.heap.push {cls:=.type "tuple_iterator",data:=.fields #[.ref l1,.int 0 0]}) {cls:=.type "tuple_iterator",data:=.fields #[.ref l2,.int 0 0]} (s.heap.objs.size + 1) (by simp [Heap.size_push]) rfl
 have g1:=at_ s.heap {cls:=.type "tuple_iterator",data:=.fields #[.ref l1,.int 0 0]} s.heap.objs.size rfl rfl
 have p:=@Heap.get?_push_of_some
 exact ⟨⟨_,g5,rfl⟩,h _ g5 (p _ (p _ g3)) (p _ g4) ⟨_,p _ (p _ (p _ (p _ g1))),rfl,rfl⟩ ⟨_,p _ (p _ (p _ g2)),rfl,rfl⟩ λc o x=>p _ (p _ (p _ (p _ (p _ x))))⟩
end
end Fc.ZT
namespace Fc
open PySem PySem.Spec L2
open PyProof.Rows hiding St
section
variable {X:Cx}{Γ Γ1 Γ2 Γ3:Ga}{α β γ δ:Type}{N:Ga->Prop}{T:RT}
variable {es:List Expr}{tp:Pos}
def xD (K:PySem.W.Frag)(a b:Addr):It:=
 ⟨λi H=>∃xs ys x y,bL K H a xs/\bL K H b ys/\xs[i]?=some x/\ys[i]?=some y,
  λi H v H'=>∃p x y,H p=none/\v= .ref p/\H'=upd H p (.tup [x,y])/\(∀xs,bL K H a xs->xs[i]?=some x)/\∀ys,bL K H b ys->ys[i]?=some y,
  λi H=>∃xs ys,bL K H a xs/\bL K H b ys/\(xs.length<=i∨ys.length<=i)⟩
def A0 (z TI TO i1 i2 a b:Addr)(i:Nat)(h:Heap):Prop:=
 IsZip h z TI TO .none/\IsPair h TI (.ref i1) (.ref i2)/\(∃u v,IsPair h TO u v)/\h.IsTupleIter i1 a i/\h.IsTupleIter i2 b i/\a≠TO/\b≠TO
theorem tup_ne {h:Heap}{l b:Addr}{its:Array Value}{o:Obj}(p:IsTup h l its)(e:h.get? b=some o)(hc:o.cls≠ .type "tuple"):l≠b:=λz=>by
 obtain ⟨u,e',c,_⟩:=p
 rw [z,e] at e'
 cases e'
 exact hc c
theorem Bf {h:Heap}{z TI TO i1 i2 a b:Addr}{i:Nat}{xs ys:Array Value}(F:sQ z TI TO i1 i2)(st:A0 z TI TO i1 i2 a b i h)(pa:IsTup h a xs)(pb:IsTup h b ys):ZipApart z TI TO i1 i2 a b:=by
 obtain ⟨hz,_,⟨u,v,hTO⟩,⟨o1,e1,c1,_⟩,⟨o2,e2,c2,_⟩,n1,n2⟩:=st
 exact ⟨F.TIz,F.TOz,F.i1z,F.i2z,F.TITO,F.TIi1,F.TIi2,F.TOi1,F.TOi2,F.i12,
  tup_ne pa hz (by simp),n1,tup_ne pa e1 (by rw [c1];simp),tup_ne pa e2 (by rw [c2];simp),
  tup_ne pb hz (by simp),n2,tup_ne pb e1 (by rw [c1];simp),tup_ne pb e2 (by rw [c2];simp)⟩
theorem rB {P:Program}{w:World}{K:PySem.W.Frag}{k:Nat}(a b z TI TO i1 i2:Addr)(F:sQ z TI TO i1 i2):Turn P w K (.Tuple es k tp) (xD K a b) [z,TI,TO,i1,i2] z (A0 z TI TO i1 i2 a b) where
 mem:=by simp
 obj:=λi h st c hc=>by
  obtain ⟨hz,hTI,⟨u,v,hTO⟩,⟨o1,e1,c1,d1⟩,⟨o2,e2,c2,d2⟩,_⟩:=st
  simp only [List.mem_cons,List.not_mem_nil,or_false] at hc
  rcases hc with rfl | rfl | rfl | rfl | rfl
  ·exact ⟨_,hz,λv q=>by cases q⟩
  ·exact ⟨_,hTI,λv q=>by cases q⟩
  ·exact ⟨_,hTO,λv q=>by cases q⟩
  ·exact ⟨o1,e1,λv q=>by rw [d1] at q;cases q⟩
  ·exact ⟨o2,e2,λv q=>by rw [d2] at q;cases q⟩
 keep:=λi h h' st kk=>by
  obtain ⟨hz,hTI,⟨u,v,hTO⟩,h1,h2,n1,n2⟩:=st
  exact ⟨kk z (by simp) _ hz,kk TI (by simp) _ hTI,⟨u,v,kk TO (by simp) _ hTO⟩,h1.imp λo q=>⟨kk i1 (by simp) o q.1,q.2⟩,h2.imp λo q=>⟨kk i2 (by simp) o q.1,q.2⟩,n1,n2⟩
 item:=by
  intro X hP hw hK hc i pins s σ H E I hf st hg
  subst hP hw hK
  obtain ⟨xs,ys,x,y,hq,hq',hx,hy⟩:=hg
  obtain ⟨its,r,pl,hz⟩:=I.tuple hq
  obtain ⟨its',r',pl',hz'⟩:=I.tuple hq'
  obtain ⟨u,hu,rx⟩:=r.get hx
  obtain ⟨u',hu',ry⟩:=r'.get hy
  have D:=Bf F st pl pl'
  have hh:=I.ok.hd hc
  obtain ⟨hz0,hTI,⟨c,d,hTO⟩,h1,h2,n1,n2⟩:=st
  have hn:H s.heap.objs.size=none:=I.hok.fresh (Nat.le_refl _)
  refine ZT.vn D (ZT.gB (A:=X.A.in1) hh (Ne.symm D.l1i1)) (ZT.gB (A:=X.A.in1) hh (Ne.symm D.l2i2)) hz0 hTI hTO ⟨h1,pl⟩ ⟨h2,pl'⟩ (x:=u) (y:=u') (by simpa using hu) (by simpa using hu') λh' a1 a2 a3 a4 a5 hk=>?_
  refine ⟨_,rfl,?_⟩
  refine wpAny_letOwnedTupleGo_zip (s:={s with heap:=h'}) a1 λh3 hz3 hs3=>?_
  have lt:∀{c o},s.heap.get? c=some o->c≠s.heap.objs.size:=λe=>Nat.ne_of_lt (Heap.lt_size e)
  have hk2:∀b o,b∉[z,TI,TO,i1,i2]->s.heap.get? b=some o->h3.get? b=some o:=λb o hb q=>by
   simp only [List.mem_cons,List.not_mem_nil,or_false,not_or] at hb
   exact hs3.extBut b o hb.1 (hk b o hb.1 hb.2.2.1 hb.2.2.2.1 hb.2.2.2.2 q)
  have I1:Inv X pins σ H {s with heap:=h3,toks:=s.toks}:=iH I hk2 hf
  have hT2:h3.get? s.heap.objs.size=some {cls:=.type "tuple",data:=.seq #[u,u']}:=hs3.extBut _ _ (Ne.symm (lt hz0)) a5
  have I2:Inv X pins σ (upd H s.heap.objs.size (.tup [x,y])) {s with heap:=h3,toks:=s.toks}:=
   adopt I1 (I.ib (Nat.le_refl _) hn) (I.sz) ⟨by show 2<=sizeLine;decide,[u,u'],.cons rx (.cons ry .nil),⟨_,hT2,rfl,_,rfl⟩⟩
  refine ⟨.ref s.heap.objs.size,_,I2,rfl,⟨s.heap.objs.size,x,y,hn,rfl,rfl,λzs hzs=>?_,λzs hzs=>?_⟩,⟨hz3,?_,⟨_,_,hs3.extBut _ _ F.TOz a2⟩,a3.1.extBut hs3.extBut F.i1z,a4.1.extBut hs3.extBut F.i2z,n1,n2⟩,λb hb=>?_⟩
  ·rw [I.hG hzs hq];exact hx
  ·rw [I.hG hzs hq'];exact hy
  ·exact hs3.extBut _ _ F.TIz (hk _ _ F.TIz F.TITO F.TIi1 F.TIi2 hTI)
  ·have hlt:b≠s.heap.objs.size:=by
    simp only [List.mem_cons,List.not_mem_nil,or_false] at hb
    rcases hb with rfl | rfl | rfl | rfl | rfl
    ·exact lt hz0
    ·exact lt hTI
    ·exact lt hTO
    ·obtain ⟨_,e,_⟩:=h1;exact lt e
    ·obtain ⟨_,e,_⟩:=h2;exact lt e
   rw [aE hlt]
   exact (hf b hb).1
 done:=by
  intro X hP hw hK hc i pins s σ H E I hf st hg
  subst hP hw hK
  obtain ⟨xs,ys,hq,hq',hx⟩:=hg
  obtain ⟨its,r,pl,hz⟩:=I.tuple hq
  obtain ⟨its',r',pl',hz'⟩:=I.tuple hq'
  have D:=Bf F st pl pl'
  have hh:=I.ok.hd hc
  obtain ⟨hz0,hTI,⟨c,d,hTO⟩,h1,h2,n1,n2⟩:=st
  have l1:=r.length
  have l2:=r'.length
  refine ZT.wC D (ZT.gB (A:=X.A.in1) hh (Ne.symm D.l1i1)) (ZT.gB (A:=X.A.in1) hh (Ne.symm D.l2i2)) hz0 hTI hTO ⟨h1,pl⟩ ⟨h2,pl'⟩ (hx.imp (λq=>by simp;omega) λq=>by simp;omega) λh' hk=>⟨rfl,?_⟩
  refine iH (t':=s.toks) I (λb o hb q=>?_) hf
  simp only [List.mem_cons,List.not_mem_nil,or_false,not_or] at hb
  exact hk b o hb.1 hb.2.2.1 hb.2.2.2.1 hb.2.2.2.2 q
 self:=λ_ _ _ _ _ st h=>wpAny_pyIter_zip st.1 h
def z8 (K:PySem.W.Frag)(ta:TA):TI:=λσ H R=>ta σ H λvs H1=>∃a b xs ys,vs=[.ref a,.ref b]/\bL K H1 a xs/\bL K H1 b ys/\R (xD K a b) H1
theorem u9 {a b:Expr}{ta:TA}{p pos:Pos}{k:Nat}(hg:Gl X "zip")(hm:X.mg "zip"=none)(ha:PA X [a,b] ta)(hs:starEach [a,b] X.env=[(false,eval a X.env),(false,eval b X.env)]:=by rfl)(hs2:starEach [b] X.env=[(false,eval b X.env)]:=by rfl):PI X (.Tuple es k tp) (.Call (.Name "zip" p) [a,b] [] pos) (z8 X.K ta):=by
 intro pins s σ H R I h
 refine Call_ (gi I hg hm boot_zip (PyProof.Rows.callWith_type1 (aT (ha pos pins s σ H _ I h) λus s1 ⟨vs,H1,I1,r1,q1⟩=>?_) (by rw [hs,hs2]) (by rw [hs2];rfl)))
 obtain ⟨l,l',xs,ys,e,hq,hq',q⟩:=q1
 subst e
 cases r1 with
 | cons r rr=>
   cases rr with
   | cons r' rr=>
     cases rr
     cases r
     cases r'
     obtain ⟨its,_,pl,_⟩:=I1.tuple hq
     obtain ⟨its',_,pl',_⟩:=I1.tuple hq'
     have ll:l < s1.heap.objs.size:=by obtain ⟨o,e,_⟩:=pl;exact Heap.lt_size e
     have ll':l' < s1.heap.objs.size:=by obtain ⟨o,e,_⟩:=pl';exact Heap.lt_size e
     refine ZT.tG pl pl' λh' a1 a2 a3 a4 a5 hk=>?_
     refine wpAny_pyIter_zip a1 ?_
     have I2:Inv X pins σ H1 {s1 with heap:=h'}:=I1.kept (t':=s1.toks) hk
     have ff:∀b,s1.heap.objs.size<=b->f9 X pins H1 b:=λb hb=>I1.ib hb (I1.hok.fresh hb)
     refine ⟨s1.heap.objs.size + 4,[s1.heap.objs.size + 4,s1.heap.objs.size + 2,s1.heap.objs.size + 3,s1.heap.objs.size,s1.heap.objs.size + 1],_,_,H1,rfl,I2,rB l l' _ _ _ _ _ (Bm _),⟨a1,a2,⟨_,_,a3⟩,a4,a5,Nat.ne_of_lt (Nat.lt_of_lt_of_le ll (Nat.le_add_right _ 3)),Nat.ne_of_lt (Nat.lt_of_lt_of_le ll' (Nat.le_add_right _ 3))⟩,λb hb=>?_,q⟩
     simp only [List.mem_cons,List.not_mem_nil,or_false] at hb
     rcases hb with rfl | rfl | rfl | rfl | rfl
     ·exact ff _ (Nat.le_add_right _ 4)
     ·exact ff _ (Nat.le_add_right _ 2)
     ·exact ff _ (Nat.le_add_right _ 3)
     ·exact ff _ (Nat.le_refl _)
     ·exact ff _ (Nat.le_add_right _ 1)
theorem vK {a b:Expr}{p pos:Pos}{k:Nat}{xs:List PV}{ys:List Str}(hm:X.mg "zip"=none)(ha:EV X a Γ aj (.tup xs) Γ1)(hb:EV X b Γ1 mm ys Γ2)(hz:xs.length<=sizeLine)(hs:starEach [a,b] X.env=[(false,eval a X.env),(false,eval b X.env)]:=by rfl)(hs2:starEach [b] X.env=[(false,eval b X.env)]:=by rfl)(hg:Gl X "zip":=by rfl):
 IV X (.Tuple es k tp) (.Call (.Name "zip" p) [a,b] [] pos) Γ (gK aj cY) (xs.zip ys) Γ2:=by
 refine ⟨_,u9 hg hm (aH aN (aH aN br hs2) (by rw [hs,hs2])) hs hs2,λσ H0 R0 H R E Rq q=>ha σ H0 R0 H R E _ λv H1 R1 E1 s1 e1=>hb σ H0 R0 H1 R1 E1 _ λv' H2 R2 E2 s2 e2=>?_⟩
 obtain ⟨b,rfl,hq0⟩:=e2
 cases aj.mono (K:=X.K) s2 e1 with
 | @tup a vs _ hp pp=>
   have up:∀{R' H':Hp},aw R2 R'->aw R' H'->bL X.K H' b (ys.map V.str):=λsR sH=>hq0.imp (λh=>h.imp (λq=>sH _ _ (sR _ _ q)) λ⟨o,q⟩=>⟨o,sH _ _ (sR _ _ q)⟩) id
   refine ⟨a,b,vs,_,rfl,bL.of (E2.sub _ _ hp),up (aw.refl _) E2.sub,q _ H2 R2 E2 (s1.trans s2) (by rw [List.length_zip];exact Nat.le_trans (Nat.min_le_left _ _) hz) λH' R' sR sH i=>⟨λy hy=>?_,λhi=>?_⟩⟩
   ·have hq:bL X.K H' a vs:=bL.of (sH _ _ (sR _ _ hp))
    have hq':=up sR sH
    obtain ⟨e1,e2⟩:=yo hy
    obtain ⟨v,hv,hr⟩:=cT pp.pair e1
    have hv':(ys.map V.str)[i]?=some (V.str y.2):=by rw [List.getElem?_map,e2];rfl
    refine ⟨⟨vs,_,v,_,hq,hq',hv,hv'⟩,λv2 H3 hyl=>?_⟩
    obtain ⟨p,x,x',hpn,rfl,rfl,hy,hy'⟩:=hyl
    have t1:=hy vs hq
    have t2:=hy' _ hq'
    rw [hv] at t1
    rw [hv'] at t2
    cases t1
    cases t2
    have s3:aw R' (upd R' p (.tup [v,.str y.2])):=aw.fresh (sH.free hpn) _
    exact ⟨upd R' p (.tup [v,.str y.2]),Ext.fresh sH hpn _,p,_,_,rfl,aF,(hr.mono sR).mono s3,rfl⟩
   ·refine ⟨vs,_,bL.of (sH _ _ (sR _ _ hp)),up sR sH,?_⟩
    rw [List.length_zip] at hi
    rw [pp.pair.length,List.length_map]
    omega
end
theorem rS {X:Cx}{Γ Γ1:Ga}{a:Expr}{p pos:Pos}{xs:List Str}(hm:X.mg "len"=none)(ha:EV X a Γ mm xs Γ1)(hs:starEach [a] X.env=[(false,eval a X.env)]:=by rfl)(hg:Gl X "len":=by rfl):EV X (.Call (.Name "len" p) [a] [] pos) Γ ag (xs.length:Int) Γ1:=by
 intro σ H0 R0 H R E Q q
 refine eS (cG dA hg hm PySem.boot_len (aH aN br hs) (by decide) (by decide) hs) (ha σ H0 R0 H R E _ λv H1 R1 E1 s1 e1=>?_)
 obtain ⟨b,rfl,h⟩:=e1
 refine ⟨b,_,rfl,.inr (h.imp (λh=>h.imp (λq=>E1.sub _ _ q) λ⟨o,q⟩=>⟨o,E1.sub _ _ q⟩) id),?_⟩
 rw [List.length_map]
 exact q _ H1 R1 E1 s1 rfl
end Fc
namespace K1
open PySem L2 Fc
open PySem.Spec hiding Row
open PyProof.Rows hiding St
def gm:List (Str×List Str):=[("row",["from nought"]),("ask",["from nought","from nought","tuple"]),("jump",["tuple"]),("call",["from nought","tuple","any"]),("back",[]),("count",["from nought"]),("add",["any"]),("tell",["from nought","any"])]
def Ln.dj:Ln->List Str
 | .row _=>["from nought"]
 | .ask _ _ _=>["from nought","from nought","tuple"]
 | .jump _=>["tuple"]
 | .call _ _ _=>["from nought","tuple","any"]
 | .back=>[]
 | .count _=>["from nought"]
 | .add _=>["any"]
 | .tell _ _=>["from nought","any"]
theorem nN (l:Ln):jZ gm l.k=some l.dj:=by cases l<;>rfl
theorem sg (l:Ln):(l.ns.map PV.int).length=l.dj.length:=by cases l<;>rfl
theorem zz (l:Ln):(l.ns.map PV.int).length<=sizeLine:=Nat.le_trans (show _<=3 by cases l<;>simp [Ln.ns]) cm
def eD (v:Int)(x:Str)(n:Int):Bool:=if x="any" then true else decide (v≥0)&&(!decide (x="tuple") ||decide (v < n))
def Ln.ok (n:Int)(l:Ln):Prop:=∀q∈(l.ns.map PV.int).zip l.dj,eD (pT q.1) q.2 n=true
section
variable {P:Program}{w:World}{K:PySem.W.Frag}{mg:Str->Option Value}{base:Heap}{f:Addr}{fd:FuncData}{C:Addr}
abbrev ux:Stmt:=top jQ
abbrev xn:List Str:=["value","wanted","size"]
theorem xS:aU xn xn (aq ux):=⟨rfl,rfl,rfl,by decide +kernel,rfl,by decide +kernel,by decide +kernel⟩
def Bh:cI:=λK ps T=>∃(v:Int) (x:Str) (n:Int),ps=[⟨ag,v⟩,⟨cY,x⟩,⟨ag,n⟩]/\T=dc K bU (· =eD v x n)
theorem zY (M:bZ K mg)(CI:aV P w K mg base "is_whole" 1 (bg pw K))(F:bX K "is_number_of" "is_number_of" ux f fd)(hm:mg "is_number_of"=some (.ref f))(hb:Binds K fd xn []):aV P w K mg base "is_number_of" 2 (bg Bh K):=by
 have nd:=xS.nd
 refine cN F xS hm hb (λqs T ⟨_,_,_,e,_⟩=>by rw [e];rfl) (λcdv A outer s H E qs T hr hS=>?_)
 obtain ⟨v,x,n,rfl,rfl⟩:=hS
 change WS _ _ [.im ag v,.im cY x,.im ag n] _ _
 refine ai (aD (bP (bA (bI CI hr (au (aa 0 rfl) aP) ⟨_,rfl,rfl⟩))) (λh=>absurd h (by decide)) (λh=>aG ?_))
 refine ai (aD (ao aI (aa 1 rfl) aJ) (λh=>ay (bB m8 (by rw [eD,if_pos (of_decide_eq_true h)]))) (λh=>aG ?_))
 refine ay (bB (fG (eT jo (aa 0 rfl) ae) (λ_=>gj (Ag (eT Al (aa 1 rfl) aJ) (λ_=>gj (eT jb (aa 0 rfl) (aa 2 rfl)))))) ?_)
 rw [eD,if_neg (of_decide_eq_false h)]
abbrev pG:Stmt:=top gX
abbrev AL:List Str:=["told","size","form"]
theorem wV:aU AL ["told","size"] (aq pG):=⟨rfl,rfl,rfl,by decide +kernel,rfl,by decide +kernel,by decide +kernel⟩
def Bj:cI:=λK ps T=>∃(l:Ln) (n:Int),ps=[⟨aj,da l⟩,⟨ag,n⟩]/\l.ok n/\T=dc K bU (· =true)
theorem Aw (M:bZ K mg)(FO:iL P w K mg "FORMS" gm)(CN:aV P w K mg base "is_number_of" 2 (bg Bh K))(F:bX K "is_tuple_of_code" "is_tuple_of_code" pG f fd)(hm:mg "is_tuple_of_code"=some (.ref f))(hb:Binds K fd ["told","size"] []):aV P w K mg base "is_tuple_of_code" 3 (bg Bj K):=by
 have nd:=wV.nd
 have ndc:List.Nodup [("value":Str),"wanted","size"]:=by decide
 refine cN F wV hm hb (λqs T ⟨_,_,e,_⟩=>by rw [e];rfl) (λcdv A outer s H E qs T hr hS=>?_)
 obtain ⟨l,n,rfl,hok,rfl⟩:=hS
 change WS _ _ [.im aj (da l),.im ag n,.no] _ _
 have hsl:¬(HT.sIx (PV.str l.k::l.ns.map PV.int).length 0 (some 1)=0/\HT.sIx (PV.str l.k::l.ns.map PV.int).length (PV.str l.k::l.ns.map PV.int).length none=(PV.str l.k::l.ns.map PV.int).length):=λh=>by cases l<;>exact absurd (show (1:Nat)=0 from h.1) (by decide)
 have hcut:cut (PV.str l.k::l.ns.map PV.int) (some 1) none=l.ns.map PV.int:=by cases l<;>rfl
 refine ai (aD (TW.tv (c7 (bP (bA (bV M.isinstance M.tuple PyProof.Rows.boot_tuple (aa 0 rfl) j5))) (λ_=>cU (ao eu (kE M.len (aa 0 rfl)) ae)))) (λh=>?_) (λh=>aG ?_))
 ·rw [List.length_cons] at h
  have h2:(false ||decide (((l.ns.map PV.int).length + 1:Nat)=(0:Int)))=true:=h
  simp at h2
  omega
 refine ai (aD (TW.tv (c7 (bP (bA (bV M.isinstance M.str PyProof.Rows.boot_str (EV.sP (x:=l.k) (az (aa 0 rfl) ae nB)) ty_str))) (λ_=>cU (pX FO (EV.sP (x:=l.k) (az (aa 0 rfl) ae nB)))))) (λh=>?_) (λh=>aG ?_))
 ·have h2:(false || !(jZ gm l.k).isSome)=true:=h
  rw [nN] at h2;cases h2
 refine ai (bw 2 (vX FO (EV.sP (x:=l.k) (az (aa 0 rfl) ae nB)) (nN l)) ?_)
 change WS _ _ [.im aj (da l),.im ag n,.im mm l.dj] _ _
 refine ai (aD (ao sN (kE M.len (aa 0 rfl)) (bW (rS M.len (aa 2 rfl)) ae)) (λh=>?_) (λh=>aG ?_))
 ·rw [List.length_cons,sg] at h
  simp at h
 refine ay (bB (j0 M.all (bb.im (eF (own:=["value","wanted"]) (fr:=["size"]) (ix:=[1]) (ra:=gK aj cY) (p:=λ_=>true) (f:=λq=>eD (pT q.1) q.2 n) (cR (so:=aq pG) (N0:=AL) rfl rfl (λx h=>cx h) (by decide +kernel)) (vK M.zip (hcut▸eX (aa 0 rfl) (c8 ae) c9 hsl) (aa 2 rfl) (zz l))
  (λC s H ex=>kg 0 1) (λx=>⟨.inr rfl,.inr rfl,.inl rfl,trivial⟩) (λC s H ex x hx=>ej) (λC s H ex q hq _=>?_)))) ?_)
 ·have h1:=(List.of_mem_zip hq).1
  obtain ⟨v,_,e⟩:=List.mem_map.mp h1
  obtain ⟨q1,q2⟩:=q
  have e:PV.int v=q1:=e
  subst e
  exact bI CN hr (au (EV.iP (n:=v) (aa 0 rfl)) (au (aa 1 rfl) (au (aa 2 rfl) aP))) ⟨_,_,_,rfl,rfl⟩
 ·rw [List.all_eq_true]
  intro b hb
  obtain ⟨q,hq,rfl⟩:=List.mem_map.mp hb
  exact hok q (List.mem_filter.mp hq).1
abbrev ug:Stmt:=top mL
abbrev nLC:List Str:=["code","place","told"]
theorem wX:aU nLC ["code"] (aq ug):=⟨rfl,rfl,rfl,by decide +kernel,rfl,by decide +kernel,by decide +kernel⟩
def rj:cI:=λK ps T=>∃code:List Ln,ps=[⟨ak aj,aK code⟩]/\code≠[]/\(∀l∈code,l.ok code.length)/\T=dc K eY (λ_=>True)
theorem Ac (M:bZ K mg)(CT:aV P w K mg base "is_tuple_of_code" 3 (bg Bj K))(F:bX K "look_code" "look_code" ug f fd)(hm:mg "look_code"=some (.ref f))(hb:Binds K fd ["code"] []):aV P w K mg base "look_code" 4 (bg rj K):=by
 have nd:=wX.nd
 refine qm F wX hm hb (λqs T ⟨_,e,_⟩=>by rw [e];rfl) (λcdv A outer s H E qs T hr hS=>?_)
 obtain ⟨code,rfl,hne,hok,rfl⟩:=hS
 refine ⟨λ_ _ _=>⟨(),rfl,trivial⟩,?_⟩
 change WS _ _ [.im (ak aj) (aK code),.no,.no] _ _
 refine ai (aD (TW.tv (c7 (bP (bA (bV M.isinstance M.list PyProof.Rows.boot_list (aa 0 rfl) ty_list))) (λ_=>cU (bP (AE 0 rfl))))) (λh=>?_) (λh=>aG ?_))
 ·have h2:(false || !!(aK code).isEmpty)=true:=h
  cases code with
  | nil=>exact absurd rfl hne
  | cons a b=>cases h2
 refine ay (iu (λ_ Γ=>∃e1 e2,Γ=[.im (ak aj) (aK code),e1,e2]) (uT M.enumerate (aa 0 rfl)) (kg 1 2) ⟨_,_,rfl⟩ (λi x Γ hx hΓ=>?_) (λΓ _=>trivial))
 obtain ⟨e1,e2,rfl⟩:=hΓ
 obtain ⟨_,hx2⟩:=m5 hx
 obtain ⟨l,hl,e⟩:=List.mem_map.mp (List.mem_of_getElem? hx2)
 obtain ⟨x1,x2⟩:=x
 have e:da l=x2:=e
 subst e
 change WS _ _ [.im (ak aj) (aK code),.im ag x1,.im aj (da l)] _ _
 refine ay (aD (bP (bA (bI CT hr (au (aa 2 rfl) (au (fA M.len (aa 0 rfl)) aP)) ⟨l,_,rfl,by rw [List.length_map];exact hok l hl,rfl⟩))) (λh=>absurd h (by decide)) (λh=>aG ⟨_,_,rfl⟩))
end
section
variable {X:Cx}{Γ Γ1 Γ2 Γ3:Ga}{N:Ga->Prop}{T:RT}
variable {o:Option Str}
def xg:Option Str->Bool
 | none=>true
 | some _=>false
theorem qv {K:PySem.W.Frag}{R:Hp}{v:V}(h:aj.R K R v (oP o)):decide (v=V.non)=xg o:=by
 cases o with
 | none=>cases h;rfl
 | some x=>cases h;rfl
theorem zP:eQ X .Is aj eY (oP o) () (xg o):=⟨_,wg,λR H v u Q _ e1 e2 q=>by
 cases e2
 exact ⟨rfl,by rw [qv (K:=X.K) e1];exact q⟩⟩
theorem jI:eQ X .IsNot aj eY (oP o) () (!xg o):=⟨_,vG,λR H v u Q _ e1 e2 q=>by
 cases e2
 exact ⟨rfl,by rw [qv (K:=X.K) e1];exact q⟩⟩
theorem NS.low {H0 H R:Hp}{m:ba}{p af ab at_ ar:Addr}{tf tb tt:List Addr}(s:∀b,H b=none->H0 b=none)(h:NS H R m p af ab at_ ar tf tb tt):NS H0 R m p af ab at_ ar tf tb tt:=
 ⟨λb hb=>s b (h.new b hb),h.nd,h.p,h.f,h.b,h.t,h.r,Paired.map (λ_ _ ⟨a,b⟩=>⟨s _ a,b⟩) h.nf,Paired.map (λ_ _ ⟨a,b⟩=>⟨s _ a,b⟩) h.nb,Paired.map (λ_ _ ⟨a,b⟩=>⟨s _ a,b⟩) h.nt⟩
theorem ub {S:cI}{x:Str}{k:Nat}{p pos:Pos}{m:ba}(C:aV X.prog X.w X.K X.mg X.base x k (bg S X.K))(hr:bj k X.A)(hS:S X.K [] (kK m))(z:ML m)(hg:Gl X x:=by rfl)(hdb:(x==("__debug__":Str))=false:=by decide):EV X (.Call (.Name x p) [] [] pos) Γ aj (.tup (aX m)) Γ:=λσ H0 R0 H R E Q q=>by
 obtain ⟨f,fd,pn,F,hm,hk,hb⟩:=C.ex
 refine eS (my F hr hg hm hk hb .nil gP hdb) ?_
 refine ⟨R,[],_,E.sub,.nil,hS,λv H' R' xx t=>?_⟩
 obtain ⟨p,af,ab,at_,ar,tf,tb,tt,rfl,n⟩:=t
 exact q _ H' R' (E.grow xx) xx.r (n.pv z)
end
section
variable {P:Program}{w:World}{K:PySem.W.Frag}{mg:Str->Option Value}{base:Heap}{f:Addr}{fd:FuncData}{C:Addr}
section
variable {X:Cx}{Γ Γ1:Ga}{N:Ga->Prop}{T:RT}
variable {x:Addr}{l:List Addr}
theorem vg {σ:St}{H0 R0 H R:Hp}{i:Nat}{fs:Fs}(E:av X.K σ H0 R0 H R Γ)(hΓ:Γ[i]?=some (.ob ((aB C).bx (x::l) fs)))(b:Addr)(h:dQ H (x::l) b=none):H0 b=none:=by
 by_cases hb:b∈x::l
 ·exact E.nw i _ b hΓ hb
 ·rw [dy hb] at h;exact E.ext.h.free h
theorem va (i:Nat){y:Str}{k:Nat}{p p1 p2 pos:Pos}{a:gU}{m:ba}(Cs:aV X.prog X.w X.K X.mg X.base "state_of" k (dI (aB C) lH X.K))(hr:bj k X.A)(hΓ:Γ[i]?=some (.ob ((aB C).bx (x::l) (aW a m))))(h64:m.boxes.length < 64)(hT:∀H0 v H' R',kK {m with boxes:=bh m.boxes} H0 v H' R'->T H0 v H' R')
 (hg:Gl X "state_of":=by rfl) (he:starEach [.Name y p1] X.env=(false,eval (.Name y p1) X.env)::starEach [] X.env:=by rfl) (hN:X.N[i]?=some y:=by rfl) (hv:cL X.env.scope y:=by first | exact Or.inl rfl | exact Or.inr (Or.inl rfl) | exact Or.inr (Or.inr rfl)) (hd:(y==("__debug__":Str))=false:=by decide) (hcd:(y==("__classdict__":Str))=false:=by decide):
 W1 X (.Return (some (.Call (.Name "state_of" p) [.Name y p1] [] p2)) pos) Γ N T:=λσ H0 R0 H R E D dn dr=>
 sS (eA aN) (hV (B:=aB C) (S:=lH) i Cs hr aP hΓ hΓ ⟨a,m,rfl,rfl,h64,rfl⟩ E (λH1 R1 v H' R' s' E1 s1 xx E' t=>by
  obtain ⟨_,p,af,ab,at_,ar,tf,tb,tt,rfl,n⟩:=t
  exact dr _ H' R' E'.ext (hT _ _ _ _ ⟨p,af,ab,at_,ar,tf,tb,tt,rfl,n.low (vg E1 hΓ)⟩)) hg (by decide) he rfl hN hv hd hcd)
theorem z5 (i:Nat){y:Str}{k:Nat}{p p1 p2:Pos}{a:gU}{m:ba}(Cs:aV X.prog X.w X.K X.mg X.base "state_of" k (dI (aB C) lH X.K))(hr:bj k X.A)(hΓ:Γ[i]?=some (.ob ((aB C).bx (x::l) (aW a m))))(h64:m.boxes.length < 64)(z:ML {m with boxes:=bh m.boxes})
 (hg:Gl X "state_of":=by rfl) (he:starEach [.Name y p1] X.env=(false,eval (.Name y p1) X.env)::starEach [] X.env:=by rfl) (hN:X.N[i]?=some y:=by rfl) (hv:cL X.env.scope y:=by first | exact Or.inl rfl | exact Or.inr (Or.inl rfl) | exact Or.inr (Or.inr rfl)) (hd:(y==("__debug__":Str))=false:=by decide) (hcd:(y==("__classdict__":Str))=false:=by decide):
 EV X (.Call (.Name "state_of" p) [.Name y p1] [] p2) Γ aj (.tup (aX {m with boxes:=bh m.boxes})) (Γ.set i (.ob ((aB C).bx (x::l) (aW a m)))):=λσ H0 R0 H R E Q q=>
 hV (B:=aB C) (S:=lH) i Cs hr aP hΓ hΓ ⟨a,m,rfl,rfl,h64,rfl⟩ E (λH1 R1 v H' R' s' E1 s1 xx E' t=>by
  obtain ⟨rfl,p,af,ab,at_,ar,tf,tb,tt,rfl,n⟩:=t
  exact q _ H' R' E' (s1.trans xx.r) (n.pv z)) hg (by decide) he rfl hN hv hd hcd
end
variable {m:ba}
structure Good (code:List Ln) (m:ba):Prop where
 a0:0<=m.at_
 a1:m.at_<=code.length
 u:0<=m.used
 ok:zl m
 nd:(m.boxes.map (·.1)).Nodup
 b:m.boxes.length < 60
theorem Good.mz {code:List Ln}(g:Good code m):MZ m:=by
 have:=g.ok.f;have:=g.ok.t;have:=g.b
 have e:(100000:Nat)<=sizeLine:=by decide
 exact ⟨by omega,by omega,by omega,g.nd⟩
abbrev lnAt (code:List Ln)(m:ba):Ln:=code.getD m.at_.toNat .back
def nextM (code:List Ln)(ans:List Int)(m:ba):ba:=eh m (lnAt code m) (ans.getD m.used.toNat 0)
def bc (m:ba):ba:={m with boxes:=bh m.boxes}
theorem gH {code:List Ln}{ans:List Int}{bound:Int}(g:Good code m)(h:aO code ans bound m=none):m.at_ < code.length/\((lnAt code m).k="ask"->0<=m.used/\m.used < ans.length):=by
 unfold aO at h
 by_cases h1:m.at_=code.length∨m.idle≥1000
 ·rw [if_pos h1] at h;cases h
 ·rw [if_neg h1,eB] at h
  have a1:=g.a1
  refine ⟨by omega,λhk=>⟨g.u,?_⟩⟩
  by_cases h2:dN (lnAt code m)=true/\(m.rows.length:Int)≥bound
  ·rw [if_pos h2] at h;cases h
  ·rw [if_neg h2] at h
   by_cases h3:(lnAt code m).k="ask"/\m.used≥(ans.length:Int)
   ·rw [if_pos h3] at h;cases h
   ·have:¬m.used≥(ans.length:Int):=λz=>h3 ⟨hk,z⟩
    omega
structure dt (code:List Ln):Prop where
 ne:code≠[]
 ok:∀l∈code,l.ok code.length
abbrev qg:Stmt:=top vp
abbrev nSP:List Str:=["code","state","answers","bound","machine","word"]
theorem pj:aU nSP ["code","state","answers","bound"] (aq qg):=⟨rfl,rfl,rfl,by decide +kernel,rfl,by decide +kernel,by decide +kernel⟩
def yF (K:PySem.W.Frag)(o:Option Str)(m:ba):RT:=λH0 v H' R'=>match o with
 | some x=>v= .str x
 | none=>kK m H0 v H' R'
def zp:cI:=λK ps T=>∃(code:List Ln) (m:ba) (ans:List Int) (bound:Int),ps=[⟨ak aj,aK code⟩,⟨aj,.tup (aX m)⟩,⟨ak ag,ans⟩,⟨ag,bound⟩]/\dt code/\dX ans=true/\0<=bound/\Good code m/\(aO code ans bound m=none->(nextM code ans m).boxes.length < 64)/\T=yF K (aO code ans bound m) (bc (nextM code ans m))
theorem Ad {fi:Addr}{fdi:FuncData}(M:bZ K mg)(MK:Mk K C fi)(hMg:mg "Machine"=some (.ref C))(FI:cJ P w K mg base dJ 2 fi fdi ["self","state"] (pQ (xX C) K))(hbi:Binds K fdi ["self","state"] [])(CL:aV P w K mg base "look_code" 4 (bg rj K))(CN:aV P w K mg base "need_answers" 3 (bg wK K))(CS:aV P w K mg base "still_at" 1 (dI (aB C) nI K))(CD:aV P w K mg base "do_next" 2 (dI (aB C) qO K))(CO:aV P w K mg base "state_of" 2 (dI (aB C) lH K))
 (F:bX K "step" "step" qg f fd) (hm:mg "step"=some (.ref f)) (hb:Binds K fd ["code","state","answers","bound"] []):aV P w K mg base "step" 5 (bg zp K):=by
 have nd:=pj.nd
 refine cN F pj hm hb (λqs T ⟨_,_,_,_,e,_⟩=>by rw [e];rfl) (λcdv A outer s H E qs T hr hS=>?_)
 obtain ⟨code,m,ans,bound,rfl,ck,ha,hb0,g,h64,rfl⟩:=hS
 change WS _ _ [.im (ak aj) (aK code),.im aj (.tup (aX m)),.im (ak ag) ans,.im ag bound,.no,.no] _ _
 refine ai (fm CL hr (au (aa 0 rfl) aP) ⟨code,rfl,ck.ne,ck.ok,rfl⟩ ?_)
 refine ai (fm (CN.mono (by decide)) hr (au (aa 2 rfl) (au (aa 3 rfl) aP)) ⟨ans,bound,rfl,ha,hb0,rfl⟩ ?_)
 refine ai (qp 4 MK FI (hr.mono (by decide)) hMg hbi (au (aa 1 rfl) aP) ⟨rfl,m,rfl,g.mz,rfl⟩ ?_)
 rintro x l _ ⟨a,rfl⟩
 change WS _ _ [.im (ak aj) (aK code),.im aj (.tup (aX m)),.im (ak ag) ans,.im ag bound,.ob ((aB C).bx (x::l) (aW a m)),.no] _ _
 refine ai (bw 5 (cZ (B:=aB C) (S:=nI) (z:=oP (aO code ans bound m)) 4 (CS.mono (by decide)) hr (au (aa 0 rfl) (au (aa 2 rfl) (au (aa 3 rfl) aP))) rfl rfl ⟨a,m,code,ans,bound,rfl,rfl,g.a0,g.a1,rfl⟩) ?_)
 change WS _ _ [.im (ak aj) (aK code),.im aj (.tup (aX m)),.im (ak ag) ans,.im ag bound,.ob ((aB C).bx (x::l) (aW a m)),.im aj (oP (aO code ans bound m))] _ _
 cases hst:aO code ans bound m with
 | some x0=>
   refine ai (aD (ao jI (aa 5 rfl) dC) (λ_=>?_) (λh=>absurd (show true=false from h) (by decide)))
   refine ay (λσ H0 R0 H R E D dn dr=>sS (eA aN) (aa 5 (r:=aj) (y:=oP (some x0)) rfl rfl (by first | exact Or.inl rfl | exact Or.inr (Or.inl rfl) | exact Or.inr (Or.inr rfl)) (by decide) (by decide) σ H0 R0 H R E _ λv H1 R1 E1 s1 e1=>dr v H1 R1 E1.ext (by cases e1;rfl)))
 | none=>
   obtain ⟨p1,hu⟩:=gH g hst
   refine ai (aD (ao jI (aa 5 rfl) dC) (λh=>absurd h (by decide)) (λ_=>aG ?_))
   refine ai (jr (cZ (B:=aB C) (S:=qO) (z:=()) 4 (CD.mono (by decide)) hr (au (aa 0 rfl) (au (aa 2 rfl) aP)) rfl rfl ⟨a,m,code,ans,rfl,rfl,g.a0,p1,g.ok,hu,rfl⟩) ?_)
   change WS _ _ [.im (ak aj) (aK code),.im aj (.tup (aX m)),.im (ak ag) ans,.im ag bound,.ob ((aB C).bx (x::l) (aW a (nextM code ans m))),.im aj (oP none)] _ _
   exact ay (va 4 (CO.mono (by decide)) hr rfl (h64 hst) λH0 v H' R' t=>t)
def c6 (code:List Ln)(ans:List Int):Nat->ba
 | 0=>m0
 | n + 1=>nextM code ans (c6 code ans n)
abbrev pA:Stmt:=top mQ
abbrev nRC:List Str:=["code","answers","bound","machine","word"]
theorem oy:aU nRC ["code","answers","bound"] (aq pA):=⟨rfl,rfl,rfl,by decide +kernel,rfl,by decide +kernel,by decide +kernel⟩
theorem vI (h1:zl m):ML {m with boxes:=bh m.boxes}:=by
 have e:(100000:Nat)<=sizeLine:=by decide
 have:=h1.r;have:=h1.f;have:=h1.t;have:=h1.b
 have hl:(bh m.boxes).length=m.boxes.length:=by unfold bh sortI;rw [List.length_map,List.length_mergeSort,List.length_map]
 exact ⟨by show m.frames.length<=_;omega,by show (bh m.boxes).length<=_;omega,by show m.told.length<=_;omega,by show m.rows.length<=_;omega⟩
def xo:cI:=λK ps T=>∃(code:List Ln) (ans:List Int) (bound:Int) (n:Nat) (x:Str),ps=[⟨ak aj,aK code⟩,⟨ak ag,ans⟩,⟨ag,bound⟩]/\dt code/\dX ans=true/\0<=bound/\(∀k,k<=n->Good code (c6 code ans k))/\(∀k,k < n->aO code ans bound (c6 code ans k)=none)/\aO code ans bound (c6 code ans n)=some x/\
 T=dc K aj (· = .tup [.str x,.tup (aX (bc (c6 code ans n)))])
theorem zM {fi:Addr}{fdi:FuncData}(M:bZ K mg)(MK:Mk K C fi)(hMg:mg "Machine"=some (.ref C))(FI:cJ P w K mg base dJ 2 fi fdi ["self","state"] (pQ (xX C) K))(hbi:Binds K fdi ["self","state"] [])(CL:aV P w K mg base "look_code" 4 (bg rj K))(CN:aV P w K mg base "need_answers" 3 (bg wK K))(CB:aV P w K mg base "begun" 1 (bg uB K))(CS:aV P w K mg base "still_at" 1 (dI (aB C) nI K))(CD:aV P w K mg base "do_next" 2 (dI (aB C) qO K))(CO:aV P w K mg base "state_of" 2 (dI (aB C) lH K))
 (F:bX K "run_code" "run_code" pA f fd) (hm:mg "run_code"=some (.ref f)) (hb:Binds K fd ["code","answers","bound"] []):aV P w K mg base "run_code" 5 (bg xo K):=by
 have nd:=oy.nd
 refine cN F oy hm hb (λqs T ⟨_,_,_,_,_,e,_⟩=>by rw [e];rfl) (λcdv A outer s H E qs T hr hS=>?_)
 obtain ⟨code,ans,bound,n,x0,rfl,ck,ha,hb0,hg,hno,hsm,rfl⟩:=hS
 change WS _ _ [.im (ak aj) (aK code),.im (ak ag) ans,.im ag bound,.no,.no] _ _
 have g0:=hg 0 (Nat.zero_le _)
 refine ai (fm CL hr (au (aa 0 rfl) aP) ⟨code,rfl,ck.ne,ck.ok,rfl⟩ ?_)
 refine ai (fm (CN.mono (by decide)) hr (au (aa 1 rfl) (au (aa 2 rfl) aP)) ⟨ans,bound,rfl,ha,hb0,rfl⟩ ?_)
 refine ai (qp 3 MK FI (hr.mono (by decide)) hMg hbi (au (ub (CB.mono (by decide)) hr ⟨rfl,rfl⟩ ⟨by decide,by decide,by decide,by decide⟩) aP) ⟨rfl,m0,rfl,g0.mz,rfl⟩ ?_)
 rintro x l _ ⟨a,rfl⟩
 let G:ba->Ga:=λm=>[.im (ak aj) (aK code),.im (ak ag) ans,.im ag bound,.ob ((aB C).bx (x::l) (aW a m)),.im aj (oP (aO code ans bound m))]
 change WS _ _ [.im (ak aj) (aK code),.im (ak ag) ans,.im ag bound,.ob ((aB C).bx (x::l) (aW a m0)),.no] _ _
 refine ai (bw 4 (cZ (B:=aB C) (S:=nI) (z:=oP (aO code ans bound m0)) 3 (CS.mono (by decide)) hr (au (aa 0 rfl) (au (aa 1 rfl) (au (aa 2 rfl) aP))) rfl rfl ⟨a,m0,code,ans,bound,rfl,rfl,g0.a0,g0.a1,rfl⟩) ?_)
 refine ai (vU (λj Γ=>∃k,j=n - k/\k<=n/\Γ=[.im (ak aj) (aK code),.im (ak ag) ans,.im ag bound,.ob ((aB C).bx (x::l) (aW a (c6 code ans k))),.im aj (oP (aO code ans bound (c6 code ans k)))]) (m0:=n) ⟨0,rfl,Nat.zero_le _,rfl⟩ ?_)
 rintro j Γ ⟨k,rfl,hk,rfl⟩
 have gk:=hg k hk
 refine ⟨_,_,ao zP (aa 4 rfl) dC,λh=>?_,λh=>?_⟩
 ·have hst:aO code ans bound (c6 code ans k)=none:=by
   cases e:aO code ans bound (c6 code ans k) with
   | none=>rfl
   | some z=>rw [e] at h;cases h
  have hkn:k < n:=by
   rcases Nat.lt_or_ge k n with z | z
   ·exact z
   ·have:k=n:=by omega
    rw [this,hsm] at hst;cases hst
  obtain ⟨p1,hu⟩:=gH gk hst
  have g1:=hg (k + 1) hkn
  refine ai (jr (cZ (B:=aB C) (S:=qO) (z:=()) 3 (CD.mono (by decide)) hr (au (aa 0 rfl) (au (aa 1 rfl) aP)) rfl rfl ⟨a,_,code,ans,rfl,rfl,gk.a0,p1,gk.ok,hu,rfl⟩) ?_)
  change WS _ _ [.im (ak aj) (aK code),.im (ak ag) ans,.im ag bound,.ob ((aB C).bx (x::l) (aW a (c6 code ans (k + 1)))),.im aj (oP (aO code ans bound (c6 code ans k)))] _ _
  refine ay (bw 4 (cZ (B:=aB C) (S:=nI) (z:=oP (aO code ans bound (c6 code ans (k + 1)))) 3 (CS.mono (by decide)) hr (au (aa 0 rfl) (au (aa 1 rfl) (au (aa 2 rfl) aP))) rfl rfl ⟨a,_,code,ans,bound,rfl,rfl,g1.a0,g1.a1,rfl⟩) ?_)
  exact ⟨n - (k + 1),by omega,k + 1,rfl,hkn,rfl⟩
 ·have hkn:k=n:=by
   rcases Nat.lt_or_ge k n with z | z
   ·rw [hno k z] at h;cases h
   ·omega
  subst hkn
  rw [hsm]
  have g64:(c6 code ans k).boxes.length < 64:=Nat.lt_of_lt_of_le gk.b (by decide)
  exact ay (bB (aR (ah (aa 4 rfl) (ah (z5 3 (CO.mono (by decide)) hr rfl g64 (vI gk.ok)) aA)) (by show 2<=sizeLine;decide)) rfl)
end
section
variable {P:Program}{w:World}{K:PySem.W.Frag}{mg:Str->Option Value}{base:Heap}{f:Addr}{fd:FuncData}{C:Addr}
def xF (C:Addr):jA:=λK ps o=>∃(code:List Ln) (m:ba) (ans:List Int) (bound:Int),ps=[⟨ak aj,aK code⟩,⟨aj,.tup (aX m)⟩,⟨ak ag,ans⟩,⟨ag,bound⟩]/\dt code/\(dX ans=false∨bound < 0)/\o= .exc (.ref C)
theorem xu (CL:aV P w K mg base "look_code" 4 (bg rj K))(CNx:dO P w K mg base "need_answers" 3 (fY (sv C) K))(F:bX K "step" "step" qg f fd)(hm:mg "step"=some (.ref f))(hb:Binds K fd ["code","state","answers","bound"] []):dO P w K mg base "step" 5 (fY (xF C) K):=by
 have nd:=pj.nd
 refine lF F pj hm hb (λqs o ⟨_,_,_,_,e,_⟩=>by rw [e];rfl) (λqs T ⟨_,_,_,_,_,_,_,e⟩=>by cases e) (λcdv A outer s H R E qs c hr hS q=>?_)
 obtain ⟨code,m,ans,bound,rfl,ck,ha,e⟩:=hS
 cases e
 change RS _ H R _ [.im (ak aj) (aK code),.im aj (.tup (aX m)),.im (ak ag) ans,.im ag bound,.no,.no]
 refine kd (N1:=λΓ=>Γ=[.im (ak aj) (aK code),.im aj (.tup (aX m)),.im (ak ag) ans,.im ag bound,.no,.no]) (fm CL hr (au (aa 0 rfl) aP) ⟨code,rfl,ck.ne,ck.ok,rfl⟩ rfl) ?_
 rintro _ rfl
 exact nM (m4 (CNx.mono (by decide)) hr (au (aa 2 rfl) (au (aa 3 rfl) aP)) ⟨ans,bound,rfl,ha,rfl⟩ q)
def wW (C:Addr):jA:=λK ps o=>∃(code:List Ln) (ans:List Int) (bound:Int),ps=[⟨ak aj,aK code⟩,⟨ak ag,ans⟩,⟨ag,bound⟩]/\dt code/\(dX ans=false∨bound < 0)/\o= .exc (.ref C)
theorem yV (CL:aV P w K mg base "look_code" 4 (bg rj K))(CNx:dO P w K mg base "need_answers" 3 (fY (sv C) K))(F:bX K "run_code" "run_code" pA f fd)(hm:mg "run_code"=some (.ref f))(hb:Binds K fd ["code","answers","bound"] []):dO P w K mg base "run_code" 5 (fY (wW C) K):=by
 have nd:=oy.nd
 refine lF F oy hm hb (λqs o ⟨_,_,_,e,_⟩=>by rw [e];rfl) (λqs T ⟨_,_,_,_,_,_,e⟩=>by cases e) (λcdv A outer s H R E qs c hr hS q=>?_)
 obtain ⟨code,ans,bound,rfl,ck,ha,e⟩:=hS
 cases e
 change RS _ H R _ [.im (ak aj) (aK code),.im (ak ag) ans,.im ag bound,.no,.no]
 refine kd (N1:=λΓ=>Γ=[.im (ak aj) (aK code),.im (ak ag) ans,.im ag bound,.no,.no]) (fm CL hr (au (aa 0 rfl) aP) ⟨code,rfl,ck.ne,ck.ok,rfl⟩ rfl) ?_
 rintro _ rfl
 exact nM (m4 (CNx.mono (by decide)) hr (au (aa 1 rfl) (au (aa 2 rfl) aP)) ⟨ans,bound,rfl,ha,rfl⟩ q)
end
end K1
namespace Fc
open PySem PySem.Spec L2
open PyProof.Rows hiding St
section
variable {X:Cx}
def ui (i j:Int):Prop:=0 < j/\j<=1000000000000000000
theorem rL:cP X (binaryOp .FloorDiv) (rI ui λi j=>.int (i / j)):=nv λi j _ _ _ _ _ hc q=>by
 have h1:(0:Int) < j:=hc.1
 have h2:j<=1000000000000000000:=hc.2
 exact floordiv_int (by omega) (by rw [Int.fdiv_eq_ediv_of_nonneg i (by omega)];exact q) (.inl (PyProof.noPylong_of_log2 (Nat.lt_of_lt_of_le ((Nat.log2_lt (by omega)).mpr (show j.natAbs < 2 ^ 60 by omega)) (by decide))))
theorem jD {Γ:Ga}{N N1:Ga->Prop}{T:RT}{st:Stmt}{rest:List Stmt}(h1:W1 X st Γ N1 T)(h2:∀Γ',N1 Γ'->WS X rest Γ' N T):WS X (st::rest) Γ N T:=ai λσ H0 R0 H R E D dn dr=>h1 σ H0 R0 H R E D (λσ' H' R' Γ' E' s' n=>dn σ' H' R' Γ' E' s' (h2 Γ' n)) dr
theorem rD {Γ Γ1 Γ2:Ga}{a b:Expr}{pos:Pos}{x y:Int}(ha:EV X a Γ ag x Γ1)(hb:EV X b Γ1 ag y Γ2)(h:ui x y):EV X (.BinOp a .FloorDiv b pos) Γ ag (x / y) Γ2:=fU rL ha hb λR v u H Q e1 e2 q=>⟨x,y,e1,e2,h,q _ rfl⟩
end
end Fc
namespace K1
open PySem L2 Fc
open PySem.Spec hiding Row
open PyProof.Rows hiding St
open PySem.Builtin.Int (intBits)
section
variable {P:Program}{w:World}{K:PySem.W.Frag}{mg:Str->Option Value}{base:Heap}{f:Addr}{fd:FuncData}{C:Addr}
abbrev uD:Stmt:=top lp
theorem xk:aU ["_law_found"] ["_law_found"] (aq uD):=⟨rfl,rfl,rfl,by decide +kernel,rfl,by decide +kernel,by decide +kernel⟩
def AI:cI:=λK ps T=>∃x:Int,ps=[⟨ag,x⟩]/\T=dc K bU (· =true)
theorem zv (M:bZ K mg)(F:bX K "_law_whole" "_law_whole" uD f fd)(hm:mg "_law_whole"=some (.ref f))(hb:Binds K fd ["_law_found"] []):aV P w K mg base "_law_whole" 1 (bg AI K):=by
 have nd:=xk.nd
 refine cN F xk hm hb (λqs T ⟨x,e,_⟩=>by rw [e];rfl) (λcdv A outer s H E qs T hr hS=>?_)
 obtain ⟨x,rfl,rfl⟩:=hS
 exact ay (bB (fG (bV M.isinstance M.int PyProof.Rows.boot_int (aa 0 rfl) ty_int) (λ_=>gj (mI (bV M.isinstance M.bool boot_bool (aa 0 rfl) ty_int)))) rfl)
abbrev uG:Stmt:=top lh
abbrev nDW:List Str:=["_law_script","_law_many","_law_found","_law_k","_law_cell","_law_j","_law_number"]
theorem yB:aU nDW ["_law_script","_law_many"] (aq uG):=⟨rfl,rfl,rfl,by decide +kernel,rfl,by decide +kernel,by decide +kernel⟩
structure fI (n:Nat) (ys:List Int):Prop where
 l:ys.length=n
 b:∀y∈ys,0<=y/\y < 2147483587
def Bl:cI:=λK ps T=>∃(ns:List Int) (many:Int),ps=[⟨cu,ns⟩,⟨ag,many⟩]/\ns.length<=63/\(∀n∈ns,intBits n<=2 ^ 20)/\0<=many/\many<=1000/\T=wU K ag (fI many.toNat)
theorem fI.app {n:Nat}{ys:List Int}{y:Int}(h:fI n ys)(h0:0<=y)(h1:y < 2147483587):fI (n + 1) (ys++[y]):=⟨by rw [List.length_append,h.l];rfl,λz hz=>by
 rcases List.mem_append.mp hz with q | q
 ·exact h.b z q
 ·rw [List.mem_singleton.mp q];exact ⟨h0,h1⟩⟩
theorem zZ (M:bZ K mg)(F:bX K "_law_draws" "_law_draws" uG f fd)(hm:mg "_law_draws"=some (.ref f))(hb:Binds K fd ["_law_script","_law_many"] []):aV P w K mg base "_law_draws" 1 (bg Bl K):=by
 have nd:=yB.nd
 refine cN F yB hm hb (λqs T ⟨_,_,e,_⟩=>by rw [e];rfl) (λcdv A outer s H E qs T hr hS=>?_)
 obtain ⟨ns,many,rfl,h63,hbits,m0,m1,rfl⟩:=hS
 change WS _ _ [.im cu ns,.im ag many,.no,.no,.no,.no,.no] _ _
 refine ai (xJ 2 (r:=ag) (ys:=[]) (aY aA (Nat.zero_le _)) ?_)
 refine ai (iu (λi Γ=>∃ys e3 e4 e5 e6,fI i ys/\Γ=[.im cu ns,.im ag many,.mu ag ys,e3,e4,e5,e6]) (eV M.range (aa 1 rfl) ⟨by omega,by omega⟩) (cF 3) ⟨[],_,_,_,_,⟨rfl,λy h=>by cases h⟩,rfl⟩ (λi k Γ hk hΓ=>?_) (λΓ hΓ=>?_))
 ·obtain ⟨ys,e3,e4,e5,e6,hd,rfl⟩:=hΓ
  have hk2:=kD.mp (List.mem_of_getElem? hk)
  have hi:i < many.toNat:=by have:=(List.getElem?_eq_some_iff.mp hk).1;rwa [dh] at this
  change WS _ _ [.im cu ns,.im ag many,.mu ag ys,.im ag k,e4,e5,e6] _ _
  refine ai (bw 4 ae ?_)
  change WS _ _ [.im cu ns,.im ag many,.mu ag ys,.im ag k,.im ag 0,e5,e6] _ _
  refine jD (N1:=λΓ=>∃c,intBits c<=2 ^ 20/\Γ=[.im cu ns,.im ag many,.mu ag ys,.im ag k,.im ag c,e5,e6]) (aD (ao tu (ny M.len (aa 0 rfl)) ae) (λh=>?_) (λh=>aG ⟨0,by decide,rfl⟩)) ?_
  ·have hl:(0:Int) < ns.length:=by
    have:=of_decide_eq_true h
    omega
   have hmin:(if (ns.length:Int) < 63 then (ns.length:Int) else 63)=ns.length:=by
    by_cases q:(ns.length:Int) < 63
    ·rw [if_pos q]
    ·rw [if_neg q];omega
   have q0:=Int.emod_nonneg (k / 20) (show (ns.length:Int)≠0 by omega)
   have q1:=Int.emod_lt_of_pos (k / 20) hl
   refine ay (bw 4 (wY (aa 0 rfl) (bD (dZ (aa 3 rfl) ae ⟨by decide,by decide⟩) (EV.cast (nG M.min (au ae (au (ny M.len (aa 0 rfl)) aP))) hmin) hl) (fX 0 q0 q1)) ⟨_,hbits _ ?_,rfl⟩)
   rw [List.getD_eq_getElem?_getD,List.getElem?_eq_getElem (by omega)]
   exact List.getElem_mem _
  rintro _ ⟨c,hc,rfl⟩
  refine ay (aD (ao jo (aa 4 rfl) (qU ae ae ⟨by decide,by decide,by decide⟩)) (λh=>?_) (λh=>?_))
  ·refine ai (bw 4 (rD (aa 4 rfl) (qU ae ae ⟨by decide,by decide,by decide⟩) ⟨by decide,by decide⟩) ?_)
   change WS _ _ [.im cu ns,.im ag many,.mu ag ys,.im ag k,.im ag (c / 10 ^ 18),e5,e6] _ _
   refine jD (N1:=λΓ=>∃c e5,Γ=[.im cu ns,.im ag many,.mu ag ys,.im ag k,.im ag c,e5,e6]) (iu (λ_ Γ=>∃c e5,Γ=[.im cu ns,.im ag many,.mu ag ys,.im ag k,.im ag c,e5,e6]) (eV M.range (bD (aa 3 rfl) ae (by decide)) ⟨by have:=Int.emod_nonneg k (show (20:Int)≠0 by decide);omega,by have:=Int.emod_lt_of_pos k (show (0:Int) < 20 by decide);omega⟩) (cF 5) ⟨_,_,rfl⟩ (λi2 j Γ _ hΓ=>?_) (λΓ hΓ=>hΓ)) ?_
   ·obtain ⟨c2,e5',rfl⟩:=hΓ
    change WS _ _ [.im cu ns,.im ag many,.mu ag ys,.im ag k,.im ag c2,.im ag j,e6] _ _
    exact ay (bw 4 (dZ (aa 4 rfl) ae ⟨by decide,by decide⟩) ⟨_,_,rfl⟩)
   ·rintro _ ⟨c3,e5',rfl⟩
    have r0:=Int.emod_nonneg c3 (show (5040:Int)≠0 by decide)
    have r1:=Int.emod_lt_of_pos c3 (show (0:Int) < 5040 by decide)
    exact ay (lS 2 (bD (aa 4 rfl) ae (by decide)) rfl rfl (by rw [hd.l];exact Nat.lt_of_lt_of_le (show i < 1000 by omega) (by decide)) ⟨_,_,_,_,_,hd.app r0 (by omega),rfl⟩)
  ·have n0:=Int.emod_nonneg (c + 48271 * (k + 1)) (show (2147483629:Int)≠0 by decide)
   have n1:=Int.emod_lt_of_pos (c + 48271 * (k + 1)) (show (0:Int) < 2147483629 by decide)
   refine ai (bw 6 (bD (bW (aa 4 rfl) (kC ae (bW (aa 3 rfl) ae) (hX (by decide) (by decide)))) ae (by decide)) ?_)
   change WS _ _ [.im cu ns,.im ag many,.mu ag ys,.im ag k,.im ag c,e5,.im ag ((c + 48271 * (k + 1)) % 2147483629)] _ _
   generalize (c + 48271 * (k + 1)) % 2147483629=u at n0 n1 ⊢
   have o0:=Int.emod_nonneg (u * u + k) (show (2147483629:Int)≠0 by decide)
   have o1:=Int.emod_lt_of_pos (u * u + k) (show (0:Int) < 2147483629 by decide)
   refine ai (bw 6 (bD (bW (kC (aa 6 rfl) (aa 6 rfl) (hX n0 (by omega))) (aa 3 rfl)) ae (by decide)) ?_)
   change WS _ _ [.im cu ns,.im ag many,.mu ag ys,.im ag k,.im ag c,e5,.im ag ((u * u + k) % 2147483629)] _ _
   generalize (u * u + k) % 2147483629=v at o0 o1 ⊢
   have r0:=Int.emod_nonneg (v * v) (show (2147483587:Int)≠0 by decide)
   have r1:=Int.emod_lt_of_pos (v * v) (show (0:Int) < 2147483587 by decide)
   exact ay (lS 2 (bD (kC (aa 6 rfl) (aa 6 rfl) (hX o0 (by omega))) ae (by decide)) rfl rfl (by rw [hd.l];exact Nat.lt_of_lt_of_le (show i < 1000 by omega) (by decide)) ⟨_,_,_,_,_,hd.app r0 r1,rfl⟩)
 ·obtain ⟨ys,e3,e4,e5,e6,hd,rfl⟩:=hΓ
  rw [dh] at hd
  exact ay (vo 2 rfl (by rw [hd.l];exact Nat.le_trans (show many.toNat<=1000 by omega) (by decide)) hd)
end
end K1
namespace K1
open PySem L2 Fc
open PySem.Spec hiding Row
open PyProof.Rows hiding St
section
variable {P:Program}{w:World}{K:PySem.W.Frag}{mg:Str->Option Value}{base:Heap}{f:Addr}{fd:FuncData}{C:Addr}
abbrev tO:Stmt:=top ma
abbrev nLN:List Str:=["_law_number","_law_many","_law_way","_law_some"]
theorem xZ:aU nLN ["_law_number","_law_many"] (aq tO):=⟨rfl,rfl,rfl,by decide +kernel,rfl,by decide +kernel,by decide +kernel⟩
def dU (k n:Int):Ln:=
 let w:=k % 11
 let s:=k / 11
 if w < 3 then .row (s % 30) else if w=3 then .ask (s % 30) (s / 30 % 30) (s / 90 % n) else if w=4 then .jump (s % n) else if w=5 then .call (s % 30) (s / 30 % n) (s / 90 % 9 - 4) else if w=6 then .back else if w < 9 then .count (s % 5) else if w=9 then .add (s % 41 - 20) else .tell (s % 4) (s / 4 % 9 - 4)
def A7:cI:=λK ps T=>∃(k n:Int),ps=[⟨ag,k⟩,⟨ag,n⟩]/\0 < n/\T=dc K aj (· =da (dU k n))
theorem Au (M:bZ K mg)(F:bX K "_law_line" "_law_line" tO f fd)(hm:mg "_law_line"=some (.ref f))(hb:Binds K fd ["_law_number","_law_many"] []):aV P w K mg base "_law_line" 1 (bg A7 K):=by
 have nd:=xZ.nd
 refine cN F xZ hm hb (λqs T ⟨_,_,e,_⟩=>by rw [e];rfl) (λcdv A outer s H E qs T hr hS=>?_)
 obtain ⟨k,n,rfl,hn,rfl⟩:=hS
 change WS _ _ [.im ag k,.im ag n,.no,.no] _ _
 refine ai (bw 2 (bD (aa 0 rfl) ae (by decide)) (ai (bw 3 (dZ (aa 0 rfl) ae ⟨by decide,by decide⟩) ?_)))
 change WS _ _ [.im ag k,.im ag n,.im ag (k % 11),.im ag (k / 11)] _ _
 have h2:(2:Nat)<=sizeLine:=by decide
 have h4:(4:Nat)<=sizeLine:=by decide
 have h1:(1:Nat)<=sizeLine:=by decide
 refine ai (aD (ao jb (aa 2 rfl) ae) (λh=>ay (bB (aR (ah (EV.pS aJ) (ah (EV.pI (bD (aa 3 rfl) ae (by decide))) aA)) h2) ?_)) (λh=>aG ?_))
 ·rw [dU,if_pos (of_decide_eq_true h)];rfl
 have g1:=of_decide_eq_false h
 refine ai (aD (ao eu (aa 2 rfl) ae) (λh=>ay (bB (aR (ah (EV.pS aJ) (ah (EV.pI (bD (aa 3 rfl) ae (by decide))) (ah (EV.pI (bD (dZ (aa 3 rfl) ae ⟨by decide,by decide⟩) ae (by decide))) (ah (EV.pI (bD (dZ (aa 3 rfl) ae ⟨by decide,by decide⟩) (aa 1 rfl) hn)) aA)))) h4) ?_)) (λh=>aG ?_))
 ·rw [dU,if_neg g1,if_pos (of_decide_eq_true h)];rfl
 have g2:=of_decide_eq_false h
 refine ai (aD (ao eu (aa 2 rfl) ae) (λh=>ay (bB (aR (ah (EV.pS aJ) (ah (EV.pI (bD (aa 3 rfl) (aa 1 rfl) hn)) aA)) h2) ?_)) (λh=>aG ?_))
 ·rw [dU,if_neg g1,if_neg g2,if_pos (of_decide_eq_true h)];rfl
 have g3:=of_decide_eq_false h
 refine ai (aD (ao eu (aa 2 rfl) ae) (λh=>ay (bB (aR (ah (EV.pS aJ) (ah (EV.pI (bD (aa 3 rfl) ae (by decide))) (ah (EV.pI (bD (dZ (aa 3 rfl) ae ⟨by decide,by decide⟩) (aa 1 rfl) hn)) (ah (EV.pI (iz (bD (dZ (aa 3 rfl) ae ⟨by decide,by decide⟩) ae (by decide)) ae)) aA)))) h4) ?_)) (λh=>aG ?_))
 ·rw [dU,if_neg g1,if_neg g2,if_neg g3,if_pos (of_decide_eq_true h)];rfl
 have g4:=of_decide_eq_false h
 refine ai (aD (ao eu (aa 2 rfl) ae) (λh=>ay (bB (aR (ah (EV.pS aJ) aA) h1) ?_)) (λh=>aG ?_))
 ·rw [dU,if_neg g1,if_neg g2,if_neg g3,if_neg g4,if_pos (of_decide_eq_true h)];rfl
 have g5:=of_decide_eq_false h
 refine ai (aD (ao jb (aa 2 rfl) ae) (λh=>ay (bB (aR (ah (EV.pS aJ) (ah (EV.pI (bD (aa 3 rfl) ae (by decide))) aA)) h2) ?_)) (λh=>aG ?_))
 ·rw [dU,if_neg g1,if_neg g2,if_neg g3,if_neg g4,if_neg g5,if_pos (of_decide_eq_true h)];rfl
 have g6:=of_decide_eq_false h
 refine ai (aD (ao eu (aa 2 rfl) ae) (λh=>ay (bB (aR (ah (EV.pS aJ) (ah (EV.pI (iz (bD (aa 3 rfl) ae (by decide)) ae)) aA)) h2) ?_)) (λh=>aG ?_))
 ·rw [dU,if_neg g1,if_neg g2,if_neg g3,if_neg g4,if_neg g5,if_neg g6,if_pos (of_decide_eq_true h)];rfl
 have g7:=of_decide_eq_false h
 refine ay (bB (aR (ah (EV.pS aJ) (ah (EV.pI (bD (aa 3 rfl) ae (by decide))) (ah (EV.pI (iz (bD (dZ (aa 3 rfl) ae ⟨by decide,by decide⟩) ae (by decide)) ae)) aA))) cm) ?_)
 rw [dU,if_neg g1,if_neg g2,if_neg g3,if_neg g4,if_neg g5,if_neg g6,if_neg g7];rfl
theorem vF {k n:Int}(h0:0<=k)(hn:0 < n):(dU k n).ok n:=by
 have e30:=Int.emod_nonneg (k / 11) (show (30:Int)≠0 by decide)
 have e330:=Int.emod_nonneg (k / 11 / 30) (show (30:Int)≠0 by decide)
 have e5:=Int.emod_nonneg (k / 11) (show (5:Int)≠0 by decide)
 have e4:=Int.emod_nonneg (k / 11) (show (4:Int)≠0 by decide)
 have a0:=Int.emod_nonneg (k / 11) (show n≠0 by omega)
 have a1:=Int.emod_lt_of_pos (k / 11) hn
 have b0:=Int.emod_nonneg (k / 11 / 30) (show n≠0 by omega)
 have b1:=Int.emod_lt_of_pos (k / 11 / 30) hn
 have c0:=Int.emod_nonneg (k / 11 / 90) (show n≠0 by omega)
 have c1:=Int.emod_lt_of_pos (k / 11 / 90) hn
 have F1:∀v:Int,0<=v->eD v "from nought" n=true:=λv h=>by
  rw [eD,if_neg (by decide),decide_eq_true (show v≥0 from h),decide_eq_false (show¬(("from nought":Str)="tuple") by decide)];rfl
 have F2:∀v:Int,0<=v->v < n->eD v "tuple" n=true:=λv h h'=>by
  rw [eD,if_neg (by decide),decide_eq_true (show v≥0 from h),decide_eq_true h'];decide
 have F3:∀v:Int,eD v "any" n=true:=λv=>by rw [eD,if_pos rfl]
 intro q hq
 simp only [dU] at hq
 split at hq
 ·simp only [Ln.ns,Ln.dj,List.map_cons,List.map_nil,List.zip_cons_cons,List.zip_nil_left,List.mem_cons,List.not_mem_nil,or_false] at hq
  subst hq;exact F1 _ e30
 ·split at hq
  ·simp only [Ln.ns,Ln.dj,List.map_cons,List.map_nil,List.zip_cons_cons,List.zip_nil_left,List.mem_cons,List.not_mem_nil,or_false] at hq
   rcases hq with rfl | rfl | rfl
   ·exact F1 _ e30
   ·exact F1 _ e330
   ·exact F2 _ c0 c1
  ·split at hq
   ·simp only [Ln.ns,Ln.dj,List.map_cons,List.map_nil,List.zip_cons_cons,List.zip_nil_left,List.mem_cons,List.not_mem_nil,or_false] at hq
    subst hq;exact F2 _ a0 a1
   ·split at hq
    ·simp only [Ln.ns,Ln.dj,List.map_cons,List.map_nil,List.zip_cons_cons,List.zip_nil_left,List.mem_cons,List.not_mem_nil,or_false] at hq
     rcases hq with rfl | rfl | rfl
     ·exact F1 _ e30
     ·exact F2 _ b0 b1
     ·exact F3 _
    ·split at hq
     ·simp [Ln.ns,Ln.dj] at hq
     ·split at hq
      ·simp only [Ln.ns,Ln.dj,List.map_cons,List.map_nil,List.zip_cons_cons,List.zip_nil_left,List.mem_cons,List.not_mem_nil,or_false] at hq
       subst hq;exact F1 _ e5
      ·split at hq
       ·simp only [Ln.ns,Ln.dj,List.map_cons,List.map_nil,List.zip_cons_cons,List.zip_nil_left,List.mem_cons,List.not_mem_nil,or_false] at hq
        subst hq;exact F3 _
       ·simp only [Ln.ns,Ln.dj,List.map_cons,List.map_nil,List.zip_cons_cons,List.zip_nil_left,List.mem_cons,List.not_mem_nil,or_false] at hq
        rcases hq with rfl | rfl
        ·exact F1 _ e4
        ·exact F3 _
abbrev tQ:Stmt:=top la
abbrev nSL:List Str:=["_law_code","_law_state","_law_answers","_law_bound","_law_word"]
theorem y9:aU nSL ["_law_code","_law_state","_law_answers","_law_bound"] (aq tQ):=⟨rfl,rfl,rfl,by decide +kernel,rfl,by decide +kernel,by decide +kernel⟩
def AO:cI:=λK ps T=>∃(code:List Ln) (m:ba) (ans:List Int) (bound:Int),ps=[⟨ak aj,aK code⟩,⟨aj,.tup (aX m)⟩,⟨ak ag,ans⟩,⟨ag,bound⟩]/\0<=m.at_/\m.at_<=code.length/\m.frames≠[]/\T=dc K aj (· =oP (aO code ans bound m))
theorem BW {X:Cx}{Γ:Ga}{k:Nat}{p p1 p2 p3:Pos}{j1 j2 j3:Nat}{x y z:Str}(hs:starEach [.Constant (.str x) j1 p1,.Constant (.str y) j2 p2,.Constant (.str z) j3 p3] X.env=(false,eval (.Constant (.str x) j1 p1) X.env)::starEach [.Constant (.str y) j2 p2,.Constant (.str z) j3 p3] X.env:=by rfl)(hs2:starEach [.Constant (.str y) j2 p2,.Constant (.str z) j3 p3] X.env=(false,eval (.Constant (.str y) j2 p2) X.env)::starEach [.Constant (.str z) j3 p3] X.env:=by rfl)(hs3:starEach [.Constant (.str z) j3 p3] X.env=(false,eval (.Constant (.str z) j3 p3) X.env)::starEach [] X.env:=by rfl):EV X (.Tuple [.Constant (.str x) j1 p1,.Constant (.str y) j2 p2,.Constant (.str z) j3 p3] k p) Γ mm [x,y,z] Γ:=λσ H0 R0 H R E Q q=>
 eS (fF (aH jy (aH jy (aH jy br hs3) hs2) hs)) ⟨cm,λd hd=>by
  have xx:=Ext.fresh E.sub hd (.tup [.str x,.str y,.str z])
  exact q _ _ _ (E.grow xx) xx.r ⟨d,rfl,.inl (.inl aF)⟩⟩
theorem z6 (l:Ln):l.k≠"astray":=by
 cases l<;>first | exact (show¬(("row":Str)="astray") by decide) | exact (show¬(("ask":Str)="astray") by decide) | exact (show¬(("jump":Str)="astray") by decide) | exact (show¬(("call":Str)="astray") by decide) | exact (show¬(("back":Str)="astray") by decide) | exact (show¬(("count":Str)="astray") by decide) | exact (show¬(("add":Str)="astray") by decide) | exact (show¬(("tell":Str)="astray") by decide)
theorem Az (M:bZ K mg)(F:bX K "_law_still" "_law_still" tQ f fd)(hm:mg "_law_still"=some (.ref f))(hb:Binds K fd ["_law_code","_law_state","_law_answers","_law_bound"] []):aV P w K mg base "_law_still" 1 (bg AO K):=by
 have nd:=y9.nd
 refine cN F y9 hm hb (λqs T ⟨_,_,_,_,e,_⟩=>by rw [e];rfl) (λcdv A outer s H E qs T hr hS=>?_)
 obtain ⟨code,m,ans,bound,rfl,p0,p1,hf,rfl⟩:=hS
 change WS _ _ [.im (ak aj) (aK code),.im aj (.tup (aX m)),.im (ak ag) ans,.im ag bound,.no] _ _
 refine ai (bw 4 aJ ?_)
 refine jD (N1:=λΓ=>Γ=[.im (ak aj) (aK code),.im aj (.tup (aX m)),.im (ak ag) ans,.im ag bound,.im cY (if m.at_ < code.length then (code.getD m.at_.toNat .back).k else "astray")]) (aD (ao jb (EV.iP (n:=m.at_) (az (aa 1 rfl) ae rfl)) (fA M.len (aa 0 rfl))) (λh=>?_) (λh=>aG ?_)) ?_
 ·rw [List.length_map] at h
  have h:=of_decide_eq_true h
  refine ay (bw 4 (EV.sP (x:=(code.getD m.at_.toNat .back).k) (az (cn (aa 0 rfl) (EV.iP (n:=m.at_) (az (aa 1 rfl) ae rfl)) (code_at p0 h)) ae nB)) ?_)
  rw [if_pos h];rfl
 ·rw [List.length_map] at h
  rw [if_neg (of_decide_eq_false h)];rfl
 rintro _ rfl
 refine ai (aD (TW.tv (c7 (ao aI (aa 4 rfl) aJ) (λ_=>cU (ao tu (EV.iP (n:=m.idle) (az (aa 1 rfl) ae rfl)) ae)))) (λh=>?_) (λh=>aG ?_))
 ·refine ay (bB (EV.pS aJ) ?_)
  simp only [Bool.or_eq_true,decide_eq_true_eq] at h
  have hc:m.at_=code.length∨m.idle≥1000:=by
   rcases h with h | h
   ·by_cases q:m.at_ < code.length
    ·rw [if_pos q] at h;exact absurd h (z6 _)
    ·exact .inl (by omega)
   ·exact .inr (by omega)
  rw [aO,if_pos hc];rfl
 simp only [Bool.or_eq_false_iff,decide_eq_false_iff_not] at h
 have hlt:m.at_ < code.length:=by
  by_cases q:m.at_ < code.length
  ·exact q
  ·rw [if_neg q] at h;exact absurd rfl h.1
 have hn:¬(m.at_=code.length∨m.idle≥1000):=by omega
 rw [if_pos hlt,aO,if_neg hn]
 generalize (code.getD m.at_.toNat .back)=ln
 refine ai (aD (TW.tv (fz (ao oU (aa 4 rfl) BW) (λ_=>eK (ao jo (fA M.len (EV.lP (xs:=cD m.rows) (az (aa 1 rfl) ae rfl))) (aa 3 rfl))))) (λh=>?_) (λh=>aG ?_))
 ·refine ay (bB (EV.pS aJ) ?_)
  rw [List.length_map] at h
  simp only [Bool.and_eq_true,decide_eq_true_eq] at h
  rw [eB,if_pos ⟨decide_eq_true h.1,h.2⟩];rfl
 rw [List.length_map] at h
 have hn1:¬(dN ln=true/\(m.rows.length:Int)≥bound):=λz=>by
  simp only [Bool.and_eq_false_iff,decide_eq_false_iff_not] at h
  exact h.elim (λq=>q (of_decide_eq_true z.1)) λq=>q z.2
 rw [eB,if_neg hn1]
 refine ai (aD (TW.tv (fz (ao aI (aa 4 rfl) aJ) (λ_=>eK (ao jo (EV.iP (n:=m.used) (az (aa 1 rfl) ae rfl)) (fA M.len (aa 2 rfl)))))) (λh=>?_) (λh=>aG ?_))
 ·refine ay (bB (EV.pS aJ) ?_)
  simp only [Bool.and_eq_true,decide_eq_true_eq] at h
  rw [if_pos h];rfl
 have hn2:¬(ln.k="ask"/\m.used≥(ans.length:Int)):=λz=>by
  simp only [Bool.and_eq_false_iff,decide_eq_false_iff_not] at h
  exact h.elim (λq=>q z.1) λq=>q z.2
 rw [if_neg hn2]
 have hf1:0 < m.frames.length:=List.length_pos_iff.mpr hf
 refine ai (aD (TW.tv (fz (ao aI (aa 4 rfl) aJ) (λ_=>eK (ao jb (fA M.len (EV.lP (xs:=l3 m.frames) (az (aa 1 rfl) ae rfl))) ae)))) (λh=>?_) (λh=>aG ?_))
 ·refine ay (bB (EV.pS aJ) ?_)
  rw [List.length_map] at h
  simp only [Bool.and_eq_true,decide_eq_true_eq] at h
  rw [if_pos ⟨h.1,by omega⟩];rfl
 rw [List.length_map] at h
 have hn3:¬(ln.k="back"/\m.frames.length=1):=λz=>by
  simp only [Bool.and_eq_false_iff,decide_eq_false_iff_not] at h
  exact h.elim (λq=>q z.1) λq=>q (by omega)
 rw [if_neg hn3]
 exact ay (bB (EV.pN dC) rfl)
abbrev nS:Stmt:=top gY
abbrev Ba:List Str:=["_law_state","_law_k"]
theorem yy:aU Ba ["_law_state"] (aq nS):=⟨rfl,rfl,rfl,by decide +kernel,rfl,by decide +kernel,by decide +kernel⟩
def AJ:cI:=λK ps T=>∃m:ba,ps=[⟨aj,.tup (aX m)⟩]/\T=dc K bU (· =true)
end
section
variable {P:Program}{w:World}{K:PySem.W.Frag}{mg:Str->Option Value}{base:Heap}{f:Addr}{fd:FuncData}{C:Addr}
theorem Am (M:bZ K mg)(CW:aV P w K mg base "_law_whole" 1 (bg AI K))(F:bX K "_law_whole_state" "_law_whole_state" nS f fd)(hm:mg "_law_whole_state"=some (.ref f))(hb:Binds K fd ["_law_state"] []):aV P w K mg base "_law_whole_state" 2 (bg AJ K):=by
 have nd:=yy.nd
 have ndc:List.Nodup [("_law_part":Str)]:=by decide
 refine cN F yy hm hb (λqs T ⟨_,e,_⟩=>by rw [e];rfl) (λcdv A outer s H E qs T hr hS=>?_)
 obtain ⟨m,rfl,rfl⟩:=hS
 have hu:(A.deeper (envOfC "_law_whole_state" (aq nS) s.heap.objs.size f cdv)).units + 1 < cLine:=Nat.lt_of_le_of_lt (Nat.add_le_add_left (by decide:1<=64) _) hr.units
 change WS _ _ [.im aj (.tup (aX m)),.no] _ _
 refine ai (aD (TW.tv (c7 (bP (bA (bV M.isinstance M.tuple PyProof.Rows.boot_tuple (aa 0 rfl) j5))) (λ_=>cU (ao sN (kE M.len (aa 0 rfl)) ae)))) (λh=>?_) (λh=>aG ?_))
 ·exact absurd (show (false || !decide ((8:Int)=8))=true from h) (by decide)
 refine ai (iu (λ_ Γ=>∃e,Γ=[.im aj (.tup (aX m)),e]) (dE (bb.im (aY (r:=ag) (ah ae (ah ae (ah ae (ah ae aA)))) (by show 4<=sizeLine;decide)))) (cF 1) ⟨_,rfl⟩ (λi k Γ hk hΓ=>?_) (λΓ hΓ=>?_))
 ·obtain ⟨e,rfl⟩:=hΓ
  change WS _ _ [.im aj (.tup (aX m)),.im ag k] _ _
  have hk:=List.mem_of_getElem? hk
  obtain ⟨n,hn⟩:∃n,cM (aX m) k=some (.int n):=by
   simp only [List.mem_cons,List.not_mem_nil,or_false] at hk
   rcases hk with rfl | rfl | rfl | rfl
   ·exact ⟨_,rfl⟩
   ·exact ⟨_,rfl⟩
   ·exact ⟨_,rfl⟩
   ·exact ⟨_,rfl⟩
  exact ay (aD (bP (bA (bI CW hr (au (EV.iP (n:=n) (az (aa 0 rfl) (aa 1 rfl) hn)) aP) ⟨_,rfl,rfl⟩))) (λh=>absurd h (by decide)) (λh=>aG ⟨_,rfl⟩))
 ·obtain ⟨e,rfl⟩:=hΓ
  refine ay (bB (eT (mj (x:=.lst []) (.inr ⟨_,rfl⟩) hu) (EV.pL (bb.im (eF (own:=["_law_part"]) (fr:=[]) (ix:=[]) (ra:=aj) (rb:=aj) (xs:=[.lst (l3 m.frames),.lst (aZ m.boxes),.lst (l3 m.told),.lst (cD m.rows)]) (p:=λ_=>false) (f:=λx=>x) (cR (so:=aq nS) (N0:=Ba) rfl rfl (λx h=>cx h) (by decide +kernel)) (dE (bb.im (aY (ah (az (aa 0 rfl) ae rfl) (ah (az (aa 0 rfl) ae rfl) (ah (az (aa 0 rfl) ae rfl) (ah (az (aa 0 rfl) ae rfl) aA)))) (by show 4<=sizeLine;decide))))
   (λC s H ex=>cF 0) (λx=>⟨.inr rfl,trivial⟩) (λC s H ex x hx=>mx ?_) (λC s H ex x hx hf=>absurd hf (by decide))))) (EV.pL (bb.im (aY aA (Nat.zero_le _))))) rfl)
  obtain ⟨ys,rfl⟩:∃ys,x=PV.lst ys:=by
   simp only [List.mem_cons,List.not_mem_nil,or_false] at hx
   rcases hx with rfl | rfl | rfl | rfl<;>exact ⟨_,rfl⟩
  exact TV.cast (b:= !true) (bP (bA (bV M.isinstance M.list PyProof.Rows.boot_list (aa 0 rfl) nP))) rfl
end
end K1
namespace Fc
open PySem PySem.Spec L2
open PyProof.Rows hiding St
theorem fK.wZ {X:Cx}{e:Expr}{Q:Bool->Hp->Prop}{σ:St}{H:Hp}(h:fK X.cH e σ H Q)(Ex:Value->Shared->Prop):∀(pins:List (Addr×Obj)) (s:Shared),Inv X pins σ H s->wpAny (model X.prog X.w) X.A (isTrue e X.env (eval e X.env)) (TP X pins σ Q) Ex s:=λpins s I=>
 wpAny_mono (h pins s (I.ez _)) (λ_ _ ⟨H',I',q⟩=>⟨H',I'.dq,q⟩) λ_ _ z=>False.elim z
theorem rC {X:Cx}{Γ:Ga}{N:Ga->Prop}{T:RT}{S1 S2:jA}{f1 f2 ce n y:Str}{k:Nat}{c c' e0 d0:Expr}{es ds:List Expr}{p pos ep p' pos' ep' ip ip' np p1 p2 p3 hp tp:Pos}{ps1 ps2:List Pk}{D CE:Addr}{rest:List Stmt}{kb:Bool}(i j:Nat)
 (C1:dO X.prog X.w X.K X.mg X.base f1 k (fY S1 X.K)) (C2:dO X.prog X.w X.K X.mg X.base f2 k (fY S2 X.K)) (hr:bj k X.A) (hc:TV X.cH c Γ kb Γ) (hc':TV X.cH c' Γ (!kb) Γ) (ha1:HA X.cH (e0::es) Γ ps1 Γ) (ha2:HA X.cH (d0::ds) Γ ps2 Γ) (hS1:S1 X.K ps1 (.exc (.ref D))) (hS2:S2 X.K ps2 (.exc (.ref D))) (hm:X.mg ce=some (.ref CE)) (hx:PySem.W.exmOne X.K (.ref D) (.ref CE)=some true)
 (hrest:∀ea oe,oe.cls= .ref D->WS (fC X ea oe) rest (((Γ.set i (.im (iE ea) ())).set j (.im (iE ea) ())).set i .no) N T)
 (hst:X.stack=X.env::X.outer:=by rfl) (hef:X.env.frame=some X.env.locals:=by rfl) (hN:X.N.Nodup:=by first | assumption | decide) (hi:X.N[i]?=some n:=by rfl) (hj:X.N[j]?=some y:=by rfl)
 (hin:X.env.scope.names.lookup n=some .local:=by rfl) (hjy:X.env.scope.names.lookup y=some .local:=by rfl) (hg:Gl X ce:=by rfl) (hgf:Gl X f1:=by rfl) (hgf2:Gl X f2:=by rfl)
 (hs:swapsWith (.Name n p2) (some (.Name y p1)) p3.line X.env=pure false:=by rfl) (hsc:swapsWith (.Call (.Name f1 p) (e0::es) [] pos) none ep.line X.env=pure false:=by rfl) (hsc2:swapsWith (.Call (.Name f2 p') (d0::ds) [] pos') none ep'.line X.env=pure false:=by rfl)
 (he:starEach (e0::es) X.env=(false,eval e0 X.env)::starEach es X.env:=by rfl) (hpl:(backTo pos (starEach es X.env)).any (·.1)=false:=by rfl) (he2:starEach (d0::ds) X.env=(false,eval d0 X.env)::starEach ds X.env:=by rfl) (hpl2:(backTo pos' (starEach ds X.env)).any (·.1)=false:=by rfl)
 (d1:(ce==("__debug__":Str))=false:=by decide) (d2:(f1==("__debug__":Str))=false:=by decide) (d5:(f2==("__debug__":Str))=false:=by decide) (d3:(n==("__debug__":Str))=false:=by decide) (d4:(n==("__classdict__":Str))=false:=by decide):
 WS X (.Try [.If c [.Expr (.Call (.Name f1 p) (e0::es) [] pos) ep] [] ip,.If c' [.Expr (.Call (.Name f2 p') (d0::ds) [] pos') ep'] [] ip'] [.ExceptHandler (some (.Name ce np)) (some n) [.Assign [.Name y p1] (.Name n p2) p3] hp] [] [] tp::rest) Γ N T:=by
 intro σ H0 R0 H R E D dn dr pins s I
 refine wpAny_execs_cons (wpAny_Try_except (wpAny_execs_cons ?_))
 refine PySem.wpAny_If (aT (fK.wZ (hc σ H0 R0 H R E (λb H'=>b=kb/\∃R',av X.K σ H0 R0 H' R' Γ/\aw R R') λH' R' E' s'=>⟨rfl,R',E',s'⟩) _ pins s I) λb s1 ⟨H',I',hb,R',E',sR0⟩=>?_)
 cases b with
 | true=>
   rw [if_pos rfl]
   refine wpAny_execs_cons (wpAny_Expr_any ?_ I'.quiet hsc)
   refine jc C1 hr ha1 hS1 E' I' (λs1 H1 ea T H2 R2 s' I1 ho bare un hok fly E2 sR=>?_) hgf d2 he hpl
   refine rf I1 ho bare un hok fly hst hef hm hx hg d1 hN hi hj hin hjy hs d3 d4 λoe s6 hc I6=>?_
   have E3:=av.gone ((E2.set i (r:=iE ea) (v:=.ref ea) (x:=()) rfl).set j (r:=iE ea) (v:=.ref ea) (x:=()) rfl) i
   exact aT (hrest ea oe hc _ H0 R0 H2 R2 E3 D (λσ2 H2 R2 Γ2 E2 s2=>dn σ2 H2 R2 Γ2 E2 (sR0.trans (sR.trans s2))) dr pins s6 I6) λf s7 z=>SP.lu z
 | false=>
   rw [if_neg Bool.false_ne_true]
   refine wpAny_execs_nil ?_
   refine wpAny_execs_cons ?_
   subst hb
   refine PySem.wpAny_If (aT (fK.wZ (hc' σ H0 R0 H' R' E' (λb H'=>b=true/\∃R2,av X.K σ H0 R0 H' R2 Γ/\aw R R2) λH2 R2 E2 s2=>⟨rfl,R2,E2,sR0.trans s2⟩) _ pins s1 I') λb s2 ⟨H2,I2,hb,R2,E2,sR2⟩=>?_)
   subst hb
   rw [if_pos rfl]
   refine wpAny_execs_cons (wpAny_Expr_any ?_ I2.quiet hsc2)
   refine jc C2 hr ha2 hS2 E2 I2 (λs1 H1 ea T H2 R2 s' I1 ho bare un hok fly E2 sR=>?_) hgf2 d5 he2 hpl2
   refine rf I1 ho bare un hok fly hst hef hm hx hg d1 hN hi hj hin hjy hs d3 d4 λoe s6 hc I6=>?_
   have E3:=av.gone ((E2.set i (r:=iE ea) (v:=.ref ea) (x:=()) rfl).set j (r:=iE ea) (v:=.ref ea) (x:=()) rfl) i
   exact aT (hrest ea oe hc _ H0 R0 H2 R2 E3 D (λσ2 H2 R2 Γ2 E2 s2=>dn σ2 H2 R2 Γ2 E2 (sR2.trans (sR.trans s2))) dr pins s6 I6) λf s7 z=>SP.lu z
end Fc
namespace K1
open PySem L2 Fc
open PySem.Spec hiding Row
open PyProof.Rows hiding St
structure o9 (K:PySem.W.Frag) (mg:Str->Option Value) (C:Addr):Prop where
 own:lU K mg "NoAnswer" C
 ce:∃CE,mg "CountError"=some (.ref CE)/\PySem.W.exmOne K (.ref C) (.ref CE)=some true
 look:dv K C=true
 oth:∃C1,mg "NoCode"=some (.ref C1)/\PySem.W.kitOne K (.ref C) (.ref C1)=some false
 self:PySem.W.kitOne K (.ref C) (.ref C)=some true
 ve:mg "ValueError"=none/\PySem.W.kitOne K (.ref C) (.type "ValueError")=some true
theorem u0:bootBuiltins "ValueError"=some (.type "ValueError"):=by decide +kernel
section
variable {P:Program}{w:World}{K:PySem.W.Frag}{mg:Str->Option Value}{base:Heap}{f:Addr}{fd:FuncData}{C:Addr}
abbrev tZ:Stmt:=top jO
abbrev nRX:List Str:=["_law_way","_law_code","_law_answers","_law_bound","_law_caught","e"]
theorem wd:aU nRX ["_law_way","_law_code","_law_answers","_law_bound"] (aq tZ):=⟨rfl,rfl,rfl,by decide +kernel,rfl,by decide +kernel,by decide +kernel⟩
def A8:cI:=λK ps T=>∃(way:Int) (code:List Ln) (ans:List Int) (bound:Int),ps=[⟨ag,way⟩,⟨ak aj,aK code⟩,⟨ak ag,ans⟩,⟨ag,bound⟩]/\(way=0∨way=1)/\dt code/\(dX ans=false∨bound < 0)/\T=dc K bU (· =true)
theorem Aq (M:bZ K mg)(X:o9 K mg C)(CB:aV P w K mg base "begun" 1 (bg uB K))(CS:dO P w K mg base "step" 5 (fY (xF C) K))(CR:dO P w K mg base "run_code" 5 (fY (wW C) K))(F:bX K "_law_refused" "_law_refused" tZ f fd)(hm:mg "_law_refused"=some (.ref f))(hb:Binds K fd ["_law_way","_law_code","_law_answers","_law_bound"] []):aV P w K mg base "_law_refused" 6 (bg A8 K):=by
 have nd:=wd.nd
 obtain ⟨CE,hCE,hex⟩:=X.ce
 obtain ⟨C1,h1,hk⟩:=X.oth
 refine cN F wd hm hb (λqs T ⟨_,_,_,_,e,_⟩=>by rw [e];rfl) (λcdv A outer s H E qs T hr hS=>?_)
 obtain ⟨way,code,ans,bound,rfl,hway,ck,hn,rfl⟩:=hS
 change WS _ _ [.im ag way,.im (ak aj) (aK code),.im (ak ag) ans,.im ag bound,.no,.no] _ _
 refine ai (bw 4 dC ?_)
 have hkb:(!decide (way=0))=decide (way=1):=by rcases hway with rfl | rfl<;>decide
 refine rC 5 4 (ps1:=[⟨ak aj,aK code⟩,⟨aj,.tup (aX m0)⟩,⟨ak ag,ans⟩,⟨ag,bound⟩]) (ps2:=[⟨ak aj,aK code⟩,⟨ak ag,ans⟩,⟨ag,bound⟩]) CS CR hr (ao eu (aa 0 rfl) ae) (TV.cast (ao eu (aa 0 rfl) ae) hkb.symm) (au (aa 1 rfl) (au (ub (CB.mono (by decide)) hr ⟨rfl,rfl⟩ ⟨by decide,by decide,by decide,by decide⟩) (au (aa 2 rfl) (au (aa 3 rfl) aP)))) (au (aa 1 rfl) (au (aa 2 rfl) (au (aa 3 rfl) aP)))
  ⟨code,m0,ans,bound,rfl,ck,hn,rfl⟩ ⟨code,ans,bound,rfl,ck,hn,rfl⟩ hCE hex (λea oe hc=>?_)
 exact ay (bB (fG (nQ (i:=4) List.mem_cons_self hc X.look M.isinstance rfl X.own.bound X.self) (λ_=>fG (uO (i:=4) List.mem_cons_self hc X.look M.isinstance rfl X.ve.1 u0 X.ve.2) (λ_=>gj (mI (nQ (i:=4) List.mem_cons_self hc X.look M.isinstance rfl h1 hk))))) rfl)
end
section
variable {D:List (Int×Int)}{m:ba}{b n:Int}{m':ba}{j:Int}
abbrev ks (D:List (Int×Int)):List Int:=D.map (·.1)
theorem ng {k:Int}(h:k∉ks D):dG D k=none:=by
 induction D with
 | nil=>rfl
 | cons p r ih=>
   obtain ⟨q,n⟩:=p
   simp only [ks,List.map_cons,List.mem_cons,not_or] at h
   rw [dG,if_neg λe=>h.1 e.symm]
   exact ih h.2
theorem qM {k:Int}:k∈ks D↔(dG D k).isSome=true:=by
 constructor
 ·intro h
  obtain ⟨n,e⟩:=lZ h
  rw [e];rfl
 ·intro h
  by_cases q:k∈ks D
  ·exact q
  ·rw [ng q] at h;cases h
theorem iG:(D.any λp=>decide (p.1=b))=true↔b∈ks D:=by
 rw [List.any_eq_true]
 constructor
 ·rintro ⟨p,hp,e⟩
  exact List.mem_map.mpr ⟨p,hp,of_decide_eq_true e⟩
 ·intro h
  obtain ⟨p,hp,e⟩:=List.mem_map.mp h
  exact ⟨p,hp,decide_eq_true e⟩
theorem qh {v k:Int}(h:b∉ks D):dG (D++[(b,v)]) k=if b=k then some v else dG D k:=by
 induction D with
 | nil=>rw [List.nil_append,dG];rfl
 | cons p r ih=>
   obtain ⟨q,n⟩:=p
   simp only [ks,List.map_cons,List.mem_cons,not_or] at h
   rw [List.cons_append,dG,dG]
   by_cases e:q=k
   ·rw [if_pos e,if_pos e,if_neg λz=>h.1 (z.trans e.symm)]
   ·rw [if_neg e,if_neg e];exact ih h.2
theorem yC {v k:Int}(h:b∈ks D):dG (D.map λp=>if p.1=b then (p.1,v) else p) k=if b=k then some v else dG D k:=by
 have key:∀D:List (Int×Int),dG (D.map λp=>if p.1=b then (p.1,v) else p) k=if b=k/\b∈ks D then some v else dG D k:=by
  intro D
  induction D with
  | nil=>rw [List.map_nil,if_neg (by simp)]
  | cons p r ih=>
    obtain ⟨q,n⟩:=p
    rw [List.map_cons]
    by_cases e:q=b
    ·subst e
     rw [if_pos rfl,dG]
     by_cases e2:q=k
     ·rw [if_pos e2,if_pos ⟨e2,by simp⟩]
     ·rw [if_neg e2,ih,if_neg λz=>e2 z.1,if_neg λz=>e2 z.1,dG,if_neg e2]
    ·rw [if_neg e,dG,dG,ih]
     by_cases e2:q=k
     ·rw [if_pos e2,if_neg λz=>e (e2.trans z.1.symm),if_pos e2]
     ·rw [if_neg e2,if_neg e2]
      by_cases e3:b=k/\b∈ks r
      ·rw [if_pos e3,if_pos ⟨e3.1,List.mem_cons_of_mem _ e3.2⟩]
      ·rw [if_neg e3,if_neg λz=>e3 ⟨z.1,(List.mem_cons.mp z.2).resolve_left λw=>e w.symm⟩]
 rw [key]
 by_cases e:b=k
 ·rw [if_pos ⟨e,h⟩,if_pos e]
 ·rw [if_neg λz=>e z.1,if_neg e]
theorem n9 {v k:Int}:dG (dP b v D) k=if b=k then some v else dG D k:=by
 unfold dP
 by_cases h:(D.any λp=>decide (p.1=b))=true
 ·rw [if_pos h];exact yC (iG.mp h)
 ·rw [if_neg h];exact qh λz=>h (iG.mpr z)
theorem tH {v:Int}:ks (dP b v D)=if b∈ks D then ks D else ks D++[b]:=by
 unfold dP
 by_cases h:(D.any λp=>decide (p.1=b))=true
 ·rw [if_pos h,if_pos (iG.mp h)]
  unfold ks
  rw [List.map_map]
  refine List.map_congr_left λp _=>?_
  show (if p.1=b then (p.1,v) else p).1=p.1
  split<;>rfl
 ·rw [if_neg h,if_neg λz=>h (iG.mpr z)]
  unfold ks
  rw [List.map_append];rfl
theorem lq {v:Int}(h:(ks D).Nodup):(ks (dP b v D)).Nodup:=by
 rw [tH]
 by_cases q:b∈ks D
 ·rw [if_pos q];exact h
 ·rw [if_neg q]
  exact List.nodup_append.mpr ⟨h,by simp,λx hx y hy e=>q (by rw [List.mem_singleton.mp hy] at e;exact e▸hx)⟩
theorem sortI_perm (xs:List Int):(sortI xs).Perm xs:=List.mergeSort_perm xs _
theorem lN:ks (bh D)=sortI (ks D):=by
 unfold ks bh
 rw [List.map_map]
 exact List.map_id _
theorem mw (h:(ks D).Nodup):(ks (bh D)).Nodup:=by
 rw [lN];exact (sortI_perm _).nodup_iff.mpr h
theorem lG {g:Int->Int}{k:Int}:∀xs:List Int,dG (xs.map λk=>(k,g k)) k=if k∈xs then some (g k) else none
 | []=>rfl
 | x::r=>by
   rw [List.map_cons,dG,lG r]
   by_cases e:x=k
   ·subst e;rw [if_pos rfl,if_pos List.mem_cons_self]
   ·rw [if_neg e]
    by_cases q:k∈r
    ·rw [if_pos q,if_pos (List.mem_cons_of_mem _ q)]
    ·rw [if_neg q,if_neg λz=>q ((List.mem_cons.mp z).resolve_left λw=>e w.symm)]
theorem sA {k:Int}:dG (bh D) k=dG D k:=by
 unfold bh
 rw [lG (g:=λk=>(dG D k).getD 0)]
 by_cases h:k∈ks D
 ·rw [if_pos ((sortI_perm _).mem_iff.mpr h)]
  obtain ⟨n,e⟩:=lZ h
  rw [e];rfl
 ·rw [if_neg λz=>h ((sortI_perm _).mem_iff.mp z),ng h]
theorem iY {D':List (Int×Int)}(h1:(ks D).Nodup)(h2:(ks D').Nodup)(h:∀k,dG D k=dG D' k):bh D=bh D':=by
 have hp:(ks D).Perm (ks D'):=(List.perm_ext_iff_of_nodup h1 h2).mpr λk=>by rw [qM,qM,h]
 have e:sortI (ks D)=sortI (ks D'):=by
  have q:=jf (xs:=ks D') (ms:=sortI (ks D)) ((sortI_perm _).trans hp) (by
   have:=List.pairwise_mergeSort (le:=λ(a b:Int)=>decide (a<=b)) (by intro a b c;simp;omega) (by intro a b;simp;omega) (ks D)
   exact this.imp λh=>by simpa using h)
  exact q
 unfold bh
 show (sortI (ks D)).map _=(sortI (ks D')).map _
 rw [e]
 exact List.map_congr_left λk _=>by rw [h]
def eqB (m m':ba):Prop:=m'={m with boxes:=m'.boxes}/\(ks m.boxes).Nodup/\(ks m'.boxes).Nodup/\∀k,dG m'.boxes k=dG m.boxes k
theorem eqB.sort (h:eqB m m'):bc m'=bc m:=by
 obtain ⟨e,n1,n2,g⟩:=h
 have:bh m'.boxes=bh m.boxes:=iY n2 n1 g
 unfold bc
 rw [this]
 rw [e]
theorem eqB.gG (h:eqB m m')(code:List Ln)(ans:List Int)(bound:Int):aO code ans bound m'=aO code ans bound m:=by
 obtain ⟨e,_⟩:=h
 rw [e];rfl
theorem eqB.next (h:eqB m m')(code:List Ln)(ans:List Int):eqB (nextM code ans m) (nextM code ans m'):=by
 obtain ⟨e,n1,n2,g⟩:=h
 obtain ⟨a1,a2,a3,a4,a5,a6,a7,a8⟩:=m
 obtain ⟨b1,b2,b3,b4,b5,b6,b7,b8⟩:=m'
 simp only [ba.mk.injEq] at e
 obtain ⟨rfl,rfl,_,rfl,rfl,rfl,rfl,rfl⟩:=e
 unfold nextM
 generalize ans.getD _ 0=w
 show eqB (eh _ (code.getD b1.toNat .back) w) (eh _ (code.getD b1.toNat .back) w)
 generalize code.getD b1.toNat .back=l
 cases l with
 | count b=>
   refine ⟨rfl,lq n1,lq n2,λk=>?_⟩
   show dG (dP b ((dG b3 b).getD 0 + 1) b3) k=dG (dP b ((dG a3 b).getD 0 + 1) a3) k
   rw [n9,n9,g,g]
 | ask p q j=>
   unfold eh jm
   dsimp only
   split<;>exact ⟨rfl,n1,n2,g⟩
 | row p=>exact ⟨rfl,n1,n2,g⟩
 | jump j=>exact ⟨rfl,n1,n2,g⟩
 | call p j n=>exact ⟨rfl,n1,n2,g⟩
 | back=>exact ⟨rfl,n1,n2,g⟩
 | add n=>exact ⟨rfl,n1,n2,g⟩
 | tell p n=>exact ⟨rfl,n1,n2,g⟩
theorem mh (n:(ks m.boxes).Nodup):eqB m (bc m):=⟨rfl,n,mw n,λk=>sA⟩
def bC (code:List Ln)(ans:List Int):Nat->ba
 | 0=>m0
 | n + 1=>bc (nextM code ans (bC code ans n))
theorem j8 (code:List Ln)(ans:List Int):∀n,eqB (c6 code ans n) (bC code ans n)
 | 0=>⟨rfl,List.nodup_nil,List.nodup_nil,λk=>rfl⟩
 | n + 1=>by
   have h:=(j8 code ans n).next code ans
   have e:=h.sort
   have n1:=h.2.1
   show eqB (nextM code ans (c6 code ans n)) (bc (nextM code ans (bC code ans n)))
   rw [e]
   exact mh n1
theorem tm (code:List Ln)(ans:List Int)(n:Nat):bc (c6 code ans n)=bc (bC code ans n):=((j8 code ans n).sort).symm
theorem ic:bh []=[]:=by
 have h:(bh []).length=0:=by unfold bh sortI;rw [List.length_map,List.length_mergeSort];rfl
 exact List.length_eq_zero_iff.mp h
theorem rK (code:List Ln)(ans:List Int):∀n,bc (bC code ans n)=bC code ans n
 | 0=>by show {m0 with boxes:=bh []}=m0;rw [ic];rfl
 | n + 1=>by
   have h:=(j8 code ans n).next code ans
   show bc (bc (nextM code ans (bC code ans n)))=bc (nextM code ans (bC code ans n))
   exact (mh h.2.2.1).sort
theorem qz (D:List (Int×Int)):(bh D).length=D.length:=by unfold bh sortI;rw [List.length_map,List.length_mergeSort,List.length_map]
structure Kp (code:List Ln) (k:Nat) (m:ba):Prop where
 a0:0<=m.at_
 a1:m.at_<=code.length
 u:0<=m.used
 r:m.rows.length<=k
 fs:∃f0 fr,m.frames=f0::fr/\∀f∈fr,0<=f.1/\f.1<=(code.length:Int)
 fl:m.frames.length<=k + 1
 t:m.told.length<=k
 b:m.boxes.length<=k
 nd:(ks m.boxes).Nodup
theorem Kp.good {code:List Ln}{k:Nat}(h:Kp code k m)(hk:k < 60):Good code m:=by
 obtain ⟨f0,fr,e,_⟩:=h.fs
 have h1:=h.r;have h2:=h.fl;have h3:=h.t;have h4:=h.b
 exact ⟨h.a0,h.a1,h.u,⟨by omega,by omega,by omega,by omega,by rw [e];exact List.cons_ne_nil _ _⟩,h.nd,by omega⟩
theorem g9 {v:Int}(h:eD v "tuple" n=true):0<=v/\v < n:=by
 rw [eD,if_neg (by decide)] at h
 simp at h
 omega
theorem Ln.ok.jump (h:(Ln.jump j).ok n):0<=j/\j < n:=g9 (h (.int j,"tuple") (by simp [Ln.ns,Ln.dj]))
theorem Ln.ok.ask {p q:Int}(h:(Ln.ask p q j).ok n):0<=j/\j < n:=g9 (h (.int j,"tuple") (by simp [Ln.ns,Ln.dj]))
theorem Ln.ok.call {p c:Int}(h:(Ln.call p j c).ok n):0<=j/\j < n:=g9 (h (.int j,"tuple") (by simp [Ln.ns,Ln.dj]))
theorem Bi (xs:List (Int×Int×Int))(g d:Int×Int×Int):(xs++[g]).getLastD d=g:=by simp
theorem AV (xs:List (Int×Int×Int))(g:Int×Int×Int):(xs++[g]).dropLast=xs:=List.dropLast_concat
theorem cc (f0:Int×Int×Int)(gs:List (Int×Int×Int))(g:Int×Int×Int):f0::gs.concat g=(f0::gs)++[g]:=by rw [List.concat_eq_append];rfl
theorem wc {code:List Ln}{fr:List (Int×Int×Int)}{f0:Int×Int×Int}(h:∀f∈fr,0<=f.1/\f.1<=(code.length:Int))(x:Int):∃g0 gr,(f0::fr).dropLast++[(((f0::fr).getLastD (0,0,0)).1,x,((f0::fr).getLastD (0,0,0)).2.2)]=g0::gr/\∀f∈gr,0<=f.1/\f.1<=(code.length:Int):=by
 rcases List.eq_nil_or_concat fr with rfl | ⟨gs,g,rfl⟩
 ·exact ⟨_,[],rfl,λf hf=>by cases hf⟩
 ·have e1:(f0::gs.concat g).dropLast=f0::gs:=by rw [cc];exact AV _ _
  have e2:(f0::gs.concat g).getLastD (0,0,0)=g:=by rw [cc];exact Bi _ _ _
  rw [e1,e2]
  refine ⟨f0,gs++[(g.1,x,g.2.2)],rfl,λf hf=>?_⟩
  rcases List.mem_append.mp hf with q | q
  ·exact h f (by simp [q])
  ·rw [List.mem_singleton.mp q];exact h g (by simp)
theorem Kp.next {code:List Ln}{ans:List Int}{bound:Int}{k:Nat}(ck:dt code)(h:Kp code k m)(hs:aO code ans bound m=none):Kp code (k + 1) (nextM code ans m):=by
 obtain ⟨a0,a1,u,r,⟨f0,fr,ef,hfr⟩,fl,ht,hb,nd⟩:=h
 unfold aO at hs
 by_cases h1:m.at_=code.length∨m.idle≥1000
 ·rw [if_pos h1] at hs;cases hs
 rw [if_neg h1] at hs
 have hlt:m.at_ < code.length:=by omega
 have hok:(lnAt code m).ok code.length:=ck.ok _ (by
  show code.getD m.at_.toNat .back∈code
  rw [List.getD_eq_getElem?_getD,List.getElem?_eq_getElem (by omega)]
  exact List.getElem_mem _)
 have hbk:(lnAt code m).k="back"->m.frames.length≠1:=λhk z=>by
  rw [eB] at hs
  by_cases q1:dN (lnAt code m)=true/\(m.rows.length:Int)≥bound
  ·rw [if_pos q1] at hs;cases hs
  ·rw [if_neg q1] at hs
   by_cases q2:(lnAt code m).k="ask"/\m.used≥(ans.length:Int)
   ·rw [if_pos q2] at hs;cases hs
   ·rw [if_neg q2,if_pos ⟨hk,z⟩] at hs;cases hs
 unfold nextM
 generalize lnAt code m=l at hok hbk
 generalize ans.getD m.used.toNat 0=w
 have ffs:∃f0 fr,m.frames=f0::fr/\∀f∈fr,0<=f.1/\f.1<=(code.length:Int):=⟨f0,fr,ef,hfr⟩
 have fset:∀x,∃g0 gr,m.frames.dropLast++[((m.frames.getLastD (0,0,0)).1,x,(m.frames.getLastD (0,0,0)).2.2)]=g0::gr/\∀f∈gr,0<=f.1/\f.1<=(code.length:Int):=λx=>by rw [ef];exact wc hfr x
 have fln:∀x,(m.frames.dropLast++[((m.frames.getLastD (0,0,0)).1,x,(m.frames.getLastD (0,0,0)).2.2)]).length<=k + 1 + 1:=λx=>by
  rw [List.length_append,List.length_dropLast,List.length_singleton];omega
 cases l with
 | row p=>exact ⟨by show 0<=m.at_ + 1;omega,by show m.at_ + 1<=_;omega,u,by show (m.rows++[p]).length<=_;rw [List.length_append,List.length_singleton];omega,ffs,by show m.frames.length<=_;omega,by show m.told.length<=_;omega,by show m.boxes.length<=_;omega,nd⟩
 | ask p q j=>
   have hj:=hok.ask
   unfold eh jm
   dsimp only
   split
   ·exact ⟨by show 0<=m.at_ + 1;omega,by show m.at_ + 1<=_;omega,by show 0<=m.used + 1;omega,by show (m.rows++[p]).length<=_;rw [List.length_append,List.length_singleton];omega,ffs,by show m.frames.length<=_;omega,by show m.told.length<=_;omega,by show m.boxes.length<=_;omega,nd⟩
   ·exact ⟨hj.1,by show j<=_;omega,by show 0<=m.used + 1;omega,by show (m.rows++[q]).length<=_;rw [List.length_append,List.length_singleton];omega,ffs,by show m.frames.length<=_;omega,by show m.told.length<=_;omega,by show m.boxes.length<=_;omega,nd⟩
 | jump j=>
   have hj:=hok.jump
   exact ⟨hj.1,by show j<=_;omega,u,by show m.rows.length<=_;omega,ffs,by show m.frames.length<=_;omega,by show m.told.length<=_;omega,by show m.boxes.length<=_;omega,nd⟩
 | call p j n=>
   have hj:=hok.call
   refine ⟨hj.1,by show j<=_;omega,u,by show (m.rows++[p]).length<=_;rw [List.length_append,List.length_singleton];omega,⟨f0,fr++[(m.at_ + 1,0,m.chain)],?_,λf hf=>?_⟩,by show (m.frames++[(m.at_ + 1,0,m.chain)]).length<=_;rw [List.length_append,List.length_singleton];omega,by show m.told.length<=_;omega,by show m.boxes.length<=_;omega,nd⟩
   ·show m.frames++[(m.at_ + 1,0,m.chain)]=_
    rw [ef];rfl
   ·rcases List.mem_append.mp hf with q | q
    ·exact hfr f q
    ·rw [List.mem_singleton.mp q];exact ⟨by show 0<=m.at_ + 1;omega,by show m.at_ + 1<=_;omega⟩
 | back=>
   have hne:=hbk rfl
   rcases List.eq_nil_or_concat fr with rfl | ⟨gs,g,rfl⟩
   ·rw [ef] at hne;exact absurd rfl hne
   ·have e1:m.frames.dropLast=f0::gs:=by rw [ef,cc];exact AV _ _
    have e2:m.frames.getLastD (0,0,0)=g:=by rw [ef,cc];exact Bi _ _ _
    have hg:=hfr g (by simp)
    refine ⟨by show 0<=(m.frames.getLastD (0,0,0)).1;rw [e2];exact hg.1,by show (m.frames.getLastD (0,0,0)).1<=_;rw [e2];exact hg.2,u,by show m.rows.length<=_;omega,⟨f0,gs,e1,λf hf=>hfr f (by simp [hf])⟩,by show m.frames.dropLast.length<=_;rw [List.length_dropLast];omega,by show m.told.length<=_;omega,by show m.boxes.length<=_;omega,nd⟩
 | count b=>
   refine ⟨by show 0<=m.at_ + 1;omega,by show m.at_ + 1<=_;omega,u,by show m.rows.length<=_;omega,ffs,by show m.frames.length<=_;omega,by show m.told.length<=_;omega,?_,lq nd⟩
   show (dP b _ m.boxes).length<=_
   have hk:(ks (dP b ((dG m.boxes b).getD 0 + 1) m.boxes)).length=(dP b ((dG m.boxes b).getD 0 + 1) m.boxes).length:=List.length_map ..
   rw [← hk,tH]
   have hl:(ks m.boxes).length=m.boxes.length:=List.length_map ..
   split
   ·omega
   ·rw [List.length_append,List.length_singleton];omega
 | add n=>exact ⟨by show 0<=m.at_ + 1;omega,by show m.at_ + 1<=_;omega,u,by show m.rows.length<=_;omega,fset _,fln _,by show m.told.length<=_;omega,by show m.boxes.length<=_;omega,nd⟩
 | tell p n=>exact ⟨by show 0<=m.at_ + 1;omega,by show m.at_ + 1<=_;omega,u,by show m.rows.length<=_;omega,fset _,fln _,by show (m.told++[_]).length<=_;rw [List.length_append,List.length_singleton];omega,by show m.boxes.length<=_;omega,nd⟩
theorem A4 {code:List Ln}:Kp code 0 m0:=⟨by decide,by show (0:Int)<=_;omega,by decide,Nat.le_refl _,⟨_,[],rfl,λf hf=>by cases hf⟩,Nat.le_refl _,Nat.le_refl _,Nat.le_refl _,List.nodup_nil⟩
theorem Kp.sort {code:List Ln}{k:Nat}(h:Kp code k m):Kp code k (bc m):=⟨h.a0,h.a1,h.u,h.r,h.fs,h.fl,h.t,by show (bh m.boxes).length<=k;rw [qz];exact h.b,mw h.nd⟩
theorem pM {code:List Ln}{ans:List Int}{bound:Int}(ck:dt code):∀k,(∀i,i < k->aO code ans bound (bC code ans i)=none)->Kp code k (bC code ans k)
 | 0,_=>A4
 | k + 1,h=>((pM ck k λi hi=>h i (by omega)).next ck (h k (by omega))).sort
theorem ue {code:List Ln}{ans:List Int}{bound:Int}(ck:dt code):∀k,(∀i,i < k->aO code ans bound (c6 code ans i)=none)->Kp code k (c6 code ans k)
 | 0,_=>A4
 | k + 1,h=>(ue ck k λi hi=>h i (by omega)).next ck (h k (by omega))
abbrev xj (m:ba)(af ab at_ ar:Addr):List V:=[.int m.at_,.ref af,.ref ab,.ref at_,.int m.chain,.ref ar,.int m.used,.int m.idle]
def gv (p af ab at_ ar:Addr)(m:ba):kT where
 fp:=[p,af,ab,at_,ar]
 R:=λ_ H R v=>v= .ref p/\[p,af,ab,at_,ar].Nodup/\ML m/\H p=some (.tup (xj m af ab at_ ar))/\(∃vs,H af=some (.lst vs)/\bE R vs (l3 m.frames))/\(∃vs,H ab=some (.lst vs)/\bE R vs (aZ m.boxes))/\(∃vs,H at_=some (.lst vs)/\bE R vs (l3 m.told))/\H ar=some (.lst (m.rows.map V.int))
 loc:=λhH hR ⟨e,nd,z,hp,⟨vf,h1,h2⟩,⟨vb,h3,h4⟩,⟨vt,h5,h6⟩,h7⟩=>⟨e,nd,z,(hH p (by simp)).trans hp,⟨vf,(hH af (by simp)).trans h1,h2.mono hR⟩,⟨vb,(hH ab (by simp)).trans h3,h4.mono hR⟩,⟨vt,(hH at_ (by simp)).trans h5,h6.mono hR⟩,(hH ar (by simp)).trans h7⟩
 has:=λ⟨e,nd,z,hp,⟨vf,h1,h2⟩,⟨vb,h3,h4⟩,⟨vt,h5,h6⟩,h7⟩ c hc=>by
  simp only [List.mem_cons,List.not_mem_nil,or_false] at hc
  rcases hc with rfl | rfl | rfl | rfl | rfl
  ·rw [hp];exact Option.some_ne_none _
  ·rw [h1];exact Option.some_ne_none _
  ·rw [h3];exact Option.some_ne_none _
  ·rw [h5];exact Option.some_ne_none _
  ·rw [h7];exact Option.some_ne_none _
structure SC (H0 R:Hp) (m:ba) (p af ab at_ ar:Addr) (vf vb vt:List V):Prop where
 new:∀b∈[p,af,ab,at_,ar],H0 b=none
 nd:[af,ab,at_,ar].Nodup
 p:R p=some (.tup (xj m af ab at_ ar))
 f:R af=some (.lst vf)
 b:R ab=some (.lst vb)
 t:R at_=some (.lst vt)
 r:R ar=some (.lst (m.rows.map V.int))
 nf:bE R vf (l3 m.frames)
 nb:bE R vb (aZ m.boxes)
 nt:bE R vt (l3 m.told)
theorem NS.sc {H0 R:Hp}{p af ab at_ ar:Addr}{tf tb tt:List Addr}(h:NS H0 R m p af ab at_ ar tf tb tt):SC H0 R m p af ab at_ ar (tf.map V.ref) (tb.map V.ref) (tt.map V.ref):=by
 have e1:(m.frames.map t3).map tupI=l3 m.frames:=by rw [List.map_map];rfl
 have e2:(m.told.map t3).map tupI=l3 m.told:=by rw [List.map_map];rfl
 have e3:(m.boxes.map pr).map tupI=aZ m.boxes:=by rw [List.map_map];rfl
 exact ⟨h.new,h.nd,h.p,h.f,h.b,h.t,h.r,.of (e1▸h.nf.pv),.of (e3▸h.nb.pv),.of (e2▸h.nt.pv)⟩
theorem jq {R:Hp}:∀{us:List V} {ns:List Int},bE R us (ns.map PV.int)->us=ns.map V.int
 | _,[],.nil=>rfl
 | _,_::_,.cons h t=>by cases h;rw [jq t];rfl
theorem iK {R R2:Hp}(hR:∀b us,R b=some (.tup us)->us.length < 8->R2 b=some (.tup us)):∀{vs:List V} {fs:List (List Int)},(∀f∈fs,f.length < 8)->bE R vs (fs.map tupI)->bE R2 vs (fs.map tupI)
 | _,[],_,.nil=>.nil
 | _,f::fs,hl,.cons h t=>by
   cases h with
   | tup hb hu=>
     have e:=jq hu
     subst e
     exact .cons (.tup (hR _ _ hb (by rw [List.length_map];exact hl f List.mem_cons_self)) (gp _)) (iK hR (λg hg=>hl g (List.mem_cons_of_mem _ hg)) t)
theorem qo {K:PySem.W.Frag}{H R H' R':Hp}{p af ab at_ ar:Addr}{vf vb vt:List V}(s:aw R H)(xx:Ext H R H' R')(c:SC H R' m p af ab at_ ar vf vb vt)(z:ML m):∃R2,Ext H R H' R2/\(∀b∈[p,af,ab,at_,ar],R2 b=none)/\(gv p af ab at_ ar m).R K H' R2 (.ref p):=by
 have nf:af≠p:=λe=>by have h:=c.f;rw [e,c.p] at h;cases h
 have nb:ab≠p:=λe=>by have h:=c.b;rw [e,c.p] at h;cases h
 have nt:at_≠p:=λe=>by have h:=c.t;rw [e,c.p] at h;cases h
 have nr:ar≠p:=λe=>by have h:=c.r;rw [e,c.p] at h;cases h
 have hnd:[p,af,ab,at_,ar].Nodup:=List.nodup_cons.mpr ⟨by simp [Ne.symm nf,Ne.symm nb,Ne.symm nt,Ne.symm nr],c.nd⟩
 have hup:∀b us,R' b=some (.tup us)->us.length < 8->(λb=>if b∈[p,af,ab,at_,ar] then none else R' b) b=some (.tup us):=λb us q hl=>by
  refine (if_neg λw=>?_).trans q
  simp only [List.mem_cons,List.not_mem_nil,or_false] at w
  rcases w with rfl | rfl | rfl | rfl | rfl
  ·rw [c.p] at q;cases q;exact absurd (show 8 < 8 from hl) (by decide)
  ·rw [c.f] at q;cases q
  ·rw [c.b] at q;cases q
  ·rw [c.t] at q;cases q
  ·rw [c.r] at q;cases q
 have e1:(m.frames.map t3).map tupI=l3 m.frames:=by rw [List.map_map];rfl
 have e2:(m.told.map t3).map tupI=l3 m.told:=by rw [List.map_map];rfl
 have e3:(m.boxes.map pr).map tupI=aZ m.boxes:=by rw [List.map_map];rfl
 have l3':∀xs:List (Int×Int×Int),∀f∈xs.map t3,f.length < 8:=λxs f hf=>by
  obtain ⟨y,_,rfl⟩:=List.mem_map.mp hf;show 3 < 8;decide
 have l2':∀f∈m.boxes.map pr,f.length < 8:=λf hf=>by
  obtain ⟨y,_,rfl⟩:=List.mem_map.mp hf;show 2 < 8;decide
 refine ⟨λb=>if b∈[p,af,ab,at_,ar] then none else R' b,⟨xx.h,λb o q=>?_,λb o q=>?_,λb hb=>?_⟩,λb hb=>if_pos hb,rfl,hnd,z,xx.s _ _ c.p,⟨vf,xx.s _ _ c.f,?_⟩,⟨vb,xx.s _ _ c.b,?_⟩,⟨vt,xx.s _ _ c.t,?_⟩,xx.s _ _ c.r⟩
 ·refine (if_neg λw=>?_).trans (xx.r b o q)
  have h:=s b o q
  rw [c.new b w] at h;cases h
 ·have q:(if b∈[p,af,ab,at_,ar] then none else R' b)=some o:=q
  by_cases w:b∈[p,af,ab,at_,ar]
  ·rw [if_pos w] at q;cases q
  ·rw [if_neg w] at q;exact xx.s b o q
 ·exact (if_neg λw=>hb (c.new b w)).trans (xx.old b hb)
 ·exact e1▸iK hup (l3' _) (e1.symm▸c.nf)
 ·exact e3▸iK hup l2' (e3.symm▸c.nb)
 ·exact e2▸iK hup (l3' _) (e2.symm▸c.nt)
def yL (p af ab at_ ar:Addr)(m:ba):kT where
 fp:=[p,af,ab,at_,ar]
 R:=λ_ H _ v=>v= .ref p/\[p,af,ab,at_,ar].Nodup/\ML m/\H p=some (.tup (xj m af ab at_ ar))/\H af≠none/\H ab≠none/\H at_≠none/\H ar=some (.lst (m.rows.map V.int))
 loc:=λhH _ ⟨e,nd,z,hp,h1,h3,h5,h7⟩=>⟨e,nd,z,(hH p (by simp)).trans hp,by rw [hH af (by simp)];exact h1,by rw [hH ab (by simp)];exact h3,by rw [hH at_ (by simp)];exact h5,(hH ar (by simp)).trans h7⟩
 has:=λ⟨e,nd,z,hp,h1,h3,h5,h7⟩ c hc=>by
  simp only [List.mem_cons,List.not_mem_nil,or_false] at hc
  rcases hc with rfl | rfl | rfl | rfl | rfl
  ·rw [hp];exact Option.some_ne_none _
  ·exact h1
  ·exact h3
  ·exact h5
  ·rw [h7];exact Option.some_ne_none _
end
section
variable {X:Cx}{Γ Γ1:Ga}{N:Ga->Prop}{T:RT}
theorem Bx (i:Nat){S:cI}{x y:Str}{k:Nat}{p p1 p2 pos:Pos}{m:ba}(C:aV X.prog X.w X.K X.mg X.base x k (bg S X.K))(hr:bj k X.A)(hS:S X.K [] (kK m))(z:ML m)(h:∀a b c d e,N (Γ.set i (.ob (gv a b c d e m))))
 (hg:Gl X x:=by rfl) (hdb:(x==("__debug__":Str))=false:=by decide) (hN:X.N.Nodup:=by first | assumption | decide) (hi:X.N[i]?=some y:=by rfl) (hx:Loc X.env.scope y:=by first | exact Or.inl rfl | exact Or.inr rfl)
 (hs:swapsWith (.Call (.Name x p) [] [] p2) (some (.Name y p1)) pos.line X.env=pure false:=by rfl) (hf:X.fn y=true∨X.env.scope.names.lookup y=some .local:=by first | exact .inl rfl | exact .inr rfl):W1 X (.Assign [.Name y p1] (.Call (.Name x p) [] [] p2) pos) Γ N T:=λσ H0 R0 H R E D dn dr=>by
 obtain ⟨f,fd,pn,F,hm,hk,hb⟩:=C.ex
 refine sS (eP hN hi hx (my F hr hg hm hk hb .nil gP hdb) hs hf) ?_
 refine ⟨R,[],_,E.sub,.nil,hS,λv H' R' xx t=>?_⟩
 obtain ⟨p,af,ab,at_,ar,tf,tb,tt,rfl,n⟩:=t
 obtain ⟨R2,x2,hno,hB⟩:=qo (K:=X.K) E.sub xx n.sc z
 refine dn _ H' R2 _ ((E.grow x2).setG (en:=.ob (gv p af ab at_ ar m)) i ⟨⟨.ref p,rfl,hB⟩,hno⟩ (λb hb=>E.ext.h.free (n.new b hb)) λb hb j e _ qj w=>?_) x2.r (h p af ab at_ ar)
 exact (Ent.dD (E.ent j e qj) w).1 (n.new b hb)
theorem xH (i:Nat){y:Str}{p1 p2 p3 p4 bp cp pos:Pos}{j1 j2:Nat}{p af ab at_ ar:Addr}{m:ba}(hz:m.frames.length < sizeLine)(hΓ:Γ[i]?=some (.ob (gv p af ab at_ ar m)))(hn:N (Γ.set i (.ob (yL p af ab at_ ar m))))
 (hN:X.N[i]?=some y:=by rfl) (hv:cL X.env.scope y:=by first | exact Or.inl rfl | exact Or.inr (Or.inl rfl) | exact Or.inr (Or.inr rfl)) (hd:(y==("__debug__":Str))=false:=by decide) (hcd:(y==("__classdict__":Str))=false:=by decide)
 (hsw:swapsWith (.Call (.Attribute (.Subscript (.Name y p1) (.Constant (.int 1) j1 p2) p3) "append" bp) [.Constant (.int 0) j2 p4] [] cp) none pos.line X.env=pure false:=by rfl)
 (hbase:attributeBase (.Subscript (.Name y p1) (.Constant (.int 1) j1 p2) p3) "append" X.env (eval (.Subscript (.Name y p1) (.Constant (.int 1) j1 p2) p3) X.env)=eval (.Subscript (.Name y p1) (.Constant (.int 1) j1 p2) p3) X.env:=by rfl)
 (hfew:((backTo cp (starEach [.Constant (.int 0) j2 p4] X.env)).all (λx=> !x.1)&&(backToKw cp (keywordEach [] X.env)).all (λx=>x.1.isSome)&&decide ([Expr.Constant (.int 0) j2 p4].length + ([]:List Keyword).length + (if ([]:List Keyword).isEmpty then 0 else 1) < 30))=true:=by rfl)
 (hline:(bp.endLine==cp.line)=true:=by rfl) (hs:starEach [.Constant (.int 0) j2 p4] X.env=(false,eval (.Constant (.int 0) j2 p4) X.env)::starEach [] X.env:=by rfl):W1 X (.Expr (.Call (.Attribute (.Subscript (.Name y p1) (.Constant (.int 1) j1 p2) p3) "append" bp) [.Constant (.int 0) j2 p4] [] cp) pos) Γ N T:=λσ H0 R0 H R E D dn dr=>by
 obtain ⟨⟨v,ea,rfl,nd,z,hp,⟨vf,h1,h2⟩,⟨vb,h3,h4⟩,⟨vt,h5,h6⟩,h7⟩,hR⟩:=E.ent i _ hΓ
 refine sS (eC (lr PySem.F.plainAttrs_list PySem.F.slot_list_append PySem.F.type_list_append fW (iJ mD (bM hN hv hd hcd) gZ (λ_ _=>rfl)) (aH gZ br hs) hbase hfew hline hs rfl) hsw) ?_
 have nd0:=nd
 simp only [List.nodup_cons,List.mem_cons,List.not_mem_nil,or_false,not_or] at nd0
 refine ⟨.ref p,at_of ea,p,_,1,.ref af,rfl,rfl,bL.of hp,rfl,.inl ⟨rfl,vf,bz.of h1⟩,af,vf,_,rfl,rfl,h1,by rw [h2.pair.length,List.length_map];exact hz,?_⟩
 refine dn σ _ R _ (E.js (B':=yL p af ab at_ ar m) hΓ (a:=af) (by show af∈[p,af,ab,at_,ar];simp) ⟨⟨.ref p,ea,rfl,nd,z,?_,?_,?_,?_,?_⟩,hR⟩ λb hb=>hb) (aw.refl _) hn
 ·rw [aE nd0.1.1];exact hp
 ·rw [aF];exact Option.some_ne_none _
 ·rw [aE (Ne.symm nd0.2.1.1),h3];exact Option.some_ne_none _
 ·rw [aE (Ne.symm nd0.2.1.2.1),h5];exact Option.some_ne_none _
 ·rw [aE (Ne.symm nd0.2.1.2.2)];exact h7
end
section
variable {X:Cx}{Γ Γ1:Ga}{N:Ga->Prop}{T:RT}
variable {m:ba}{p af ab at_ ar:Addr}
theorem tI {K:PySem.W.Frag}{H R:Hp}(s:aw R H)(h:(gv p af ab at_ ar m).R K H R (.ref p)):cb H (.ref p) (.tup (aX m)):=by
 obtain ⟨_,nd,z,hp,⟨vf,h1,h2⟩,⟨vb,h3,h4⟩,⟨vt,h5,h6⟩,h7⟩:=h
 exact .tup hp (.cons (.int _) (.cons (.lst h1 (h2.mono s) (by simpa using z.f)) (.cons (.lst h3 (h4.mono s) (by simpa using z.b)) (.cons (.lst h5 (h6.mono s) (by simpa using z.t)) (.cons (.int _) (.cons (.lst h7 (gp _) (by simpa using z.r)) (.cons (.int _) (.cons (.int _) .nil))))))))
theorem tP {i:Nat}(hΓ:Γ[i]?=some (.ob (gv p af ab at_ ar m)))(σ:St)(H0 R0 H R:Hp)(E:av X.K σ H0 R0 H R Γ):av X.K σ H H H H ((Γ.map fj).set i (.im aj (.tup (aX m)))):=by
 obtain ⟨⟨v,ea,hB⟩,hR⟩:=E.ent i _ hΓ
 have e:v= .ref p:=hB.1
 subst e
 exact E.frz.ua (i:=i) (e0:=.no) (by rw [List.getElem?_map,hΓ];rfl) ⟨.ref p,ea,tI E.sub hB⟩ λb w=>by cases w
theorem yQ (i:Nat){y:Str}{p1 p2 p3 p4 bp cp pos:Pos}{j1 j2:Nat}(hz:m.rows.length < sizeLine)(hΓ:Γ[i]?=some (.ob (yL p af ab at_ ar m)))(hn:N (Γ.set i .no))
 (hN:X.N[i]?=some y:=by rfl) (hv:cL X.env.scope y:=by first | exact Or.inl rfl | exact Or.inr (Or.inl rfl) | exact Or.inr (Or.inr rfl)) (hd:(y==("__debug__":Str))=false:=by decide) (hcd:(y==("__classdict__":Str))=false:=by decide)
 (hsw:swapsWith (.Call (.Attribute (.Subscript (.Name y p1) (.Constant (.int 5) j1 p2) p3) "append" bp) [.Constant (.int 0) j2 p4] [] cp) none pos.line X.env=pure false:=by rfl)
 (hbase:attributeBase (.Subscript (.Name y p1) (.Constant (.int 5) j1 p2) p3) "append" X.env (eval (.Subscript (.Name y p1) (.Constant (.int 5) j1 p2) p3) X.env)=eval (.Subscript (.Name y p1) (.Constant (.int 5) j1 p2) p3) X.env:=by rfl)
 (hfew:((backTo cp (starEach [.Constant (.int 0) j2 p4] X.env)).all (λx=> !x.1)&&(backToKw cp (keywordEach [] X.env)).all (λx=>x.1.isSome)&&decide ([Expr.Constant (.int 0) j2 p4].length + ([]:List Keyword).length + (if ([]:List Keyword).isEmpty then 0 else 1) < 30))=true:=by rfl)
 (hline:(bp.endLine==cp.line)=true:=by rfl) (hs:starEach [.Constant (.int 0) j2 p4] X.env=(false,eval (.Constant (.int 0) j2 p4) X.env)::starEach [] X.env:=by rfl):W1 X (.Expr (.Call (.Attribute (.Subscript (.Name y p1) (.Constant (.int 5) j1 p2) p3) "append" bp) [.Constant (.int 0) j2 p4] [] cp) pos) Γ N T:=λσ H0 R0 H R E D dn dr=>by
 obtain ⟨⟨v,ea,rfl,nd,z,hp,h1,h3,h5,h7⟩,hR⟩:=E.ent i _ hΓ
 refine sS (eC (lr PySem.F.plainAttrs_list PySem.F.slot_list_append PySem.F.type_list_append fW (iJ mD (bM hN hv hd hcd) gZ (λ_ _=>rfl)) (aH gZ br hs) hbase hfew hline hs rfl) hsw) ?_
 refine ⟨.ref p,at_of ea,p,_,5,.ref ar,rfl,rfl,bL.of hp,rfl,.inl ⟨rfl,_,bz.of h7⟩,ar,_,_,rfl,rfl,h7,by rw [List.length_map];exact hz,?_⟩
 exact dn σ _ R _ (E.se (en:=.no) hΓ (a:=ar) (by show ar∈[p,af,ab,at_,ar];simp) trivial λb hb=>by cases hb) (aw.refl _) hn
theorem vE {H R H' R':Hp}{tf tb tt:List Addr}(s:aw R H)(sh:aw H H')(sr:aw R' H')(n:NS H R' m p af ab at_ ar tf tb tt)(z:ML m):∃R2,Ext H R H' R2/\cb R2 (.ref p) (.tup (aX m)):=by
 refine ⟨λb=>if H b=none then R' b else R b,⟨sh,λb o q=>?_,λb o q=>?_,λb hb=>if_neg hb⟩,?_⟩
 ·exact (if_neg λw=>by rw [s b o q] at w;cases w).trans q
 ·have q:(if H b=none then R' b else R b)=some o:=q
  by_cases w:H b=none
  ·rw [if_pos w] at q;exact sr b o q
  ·rw [if_neg w] at q;exact sh b o (s b o q)
 ·have up:∀{b:Addr} {o:HO},H b=none->R' b=some o->(λb=>if H b=none then R' b else R b) b=some o:=λh q=>(if_pos h).trans q
  have nt:∀{us:List Addr} {gs:List (List Int)},bO H R' us gs->bO H (λb=>if H b=none then R' b else R b) us gs:=λh=>Paired.map (λ_ _ ⟨a,b⟩=>⟨a,up a b⟩) h
  have nw:=n.new
  exact NS.pv (H0:=H) ⟨nw,n.nd,up (nw p (by simp)) n.p,up (nw af (by simp)) n.f,up (nw ab (by simp)) n.b,up (nw at_ (by simp)) n.t,up (nw ar (by simp)) n.r,nt n.nf,nt n.nb,nt n.nt⟩ z
def uq (o:Option Str)(m:ba):PV:=match o with
 | some x=>.str x
 | none=>.tup (aX m)
theorem yv (i j:Nat){y st:Str}{k:Nat}{e0 e2 e3:Expr}{p ps p1 p2 pos:Pos}{code:List Ln}{ans:List Int}{bound:Int}{a1 a2 a3 a4 a5:Addr}(C:aV X.prog X.w X.K X.mg X.base "step" k (bg zp X.K))(hr:bj k X.A)(h0:EV X e0 Γ (ak aj) (aK code) Γ)(h2:EV X e2 Γ (ak ag) ans Γ)(h3:EV X e3 Γ ag bound Γ)(hΓ:Γ[j]?=some (.ob (gv a1 a2 a3 a4 a5 m)))
 (ck:dt code) (ha:dX ans=true) (hb0:0<=bound) (g:Good code m) (h64:aO code ans bound m=none->(nextM code ans m).boxes.length < 64) (z:aO code ans bound m=none->ML (bc (nextM code ans m))) (h:N (Γ.set i (.im aj (uq (aO code ans bound m) (bc (nextM code ans m))))))
 (hg:Gl X "step":=by rfl) (he0:starEach [e0,.Name st ps,e2,e3] X.env=(false,eval e0 X.env)::starEach [.Name st ps,e2,e3] X.env:=by rfl) (he1:starEach [.Name st ps,e2,e3] X.env=(false,eval (.Name st ps) X.env)::starEach [e2,e3] X.env:=by rfl) (he2:starEach [e2,e3] X.env=(false,eval e2 X.env)::starEach [e3] X.env:=by rfl) (he3:starEach [e3] X.env=(false,eval e3 X.env)::starEach [] X.env:=by rfl) (hpl:(backTo p2 (starEach [.Name st ps,e2,e3] X.env)).any (·.1)=false:=by rfl)
 (hNj:X.N[j]?=some st:=by rfl) (hvj:cL X.env.scope st:=by first | exact Or.inl rfl | exact Or.inr (Or.inl rfl) | exact Or.inr (Or.inr rfl)) (hdj:(st==("__debug__":Str))=false:=by decide) (hcj:(st==("__classdict__":Str))=false:=by decide)
 (hN:X.N.Nodup:=by first | assumption | decide) (hi:X.N[i]?=some y:=by rfl) (hx:Loc X.env.scope y:=by first | exact Or.inl rfl | exact Or.inr rfl)
 (hs:swapsWith (.Call (.Name "step" p) [e0,.Name st ps,e2,e3] [] p2) (some (.Name y p1)) pos.line X.env=pure false:=by rfl) (hf:X.fn y=true∨X.env.scope.names.lookup y=some .local:=by first | exact .inl rfl | exact .inr rfl):
 W1 X (.Assign [.Name y p1] (.Call (.Name "step" p) [e0,.Name st ps,e2,e3] [] p2) pos) Γ N T:=λσ H0 R0 H R E D dn dr=>by
 obtain ⟨f,fd,pn,F,hm,hk,hb⟩:=C.ex
 refine sS (eP hN hi hx (iM F hr hg hm hk hb .nil gP (aH aN (aH (bM hNj hvj hdj hcj) (aH aN (aH aN br he3) he2) he1) he0) (by decide) he0 hpl) hs hf) ?_
 refine h0 σ H0 R0 H R E _ λv0 H1 R1 E1 s1 q1=>?_
 obtain ⟨⟨v,ea,hB⟩,_⟩:=E1.ent j _ hΓ
 have e:v= .ref a1:=hB.1
 subst e
 refine ⟨.ref a1,at_of ea,h2 σ H0 R0 H1 R1 E1 _ λv2 H2 R2 E2 s2 q2=>h3 σ H0 R0 H2 R2 E2 _ λv3 H3 R3 E3 s3 q3=>?_⟩
 obtain ⟨⟨v',ea',hB'⟩,_⟩:=E3.ent j _ hΓ
 have e:v'= .ref a1:=hB'.1
 subst e
 refine ⟨H3,[⟨ak aj,aK code⟩,⟨aj,.tup (aX m)⟩,⟨ak ag,ans⟩,⟨ag,bound⟩],_,aw.refl _,.cons ((ak aj).mono (s2.trans (s3.trans E3.sub)) q1) (.cons (tI E3.sub hB') (.cons ((ak ag).mono (s3.trans E3.sub) q2) (.cons (ag.mono E3.sub q3) .nil))),⟨code,m,ans,bound,rfl,ck,ha,hb0,g,h64,rfl⟩,λu H' R' xx t=>?_⟩
 cases hst:aO code ans bound m with
 | some w=>
   rw [hst] at t h
   have t:u= .str w:=t
   subst t
   have E4:=E3.grow (⟨xx.h,aw.refl _,λb o q=>xx.h b o (E3.sub b o q),λ_ _=>rfl⟩:Ext H3 R3 H' R3)
   exact dn _ H' R3 _ (E4.set i (r:=aj) (x:=.str w) (.str w)) (s1.trans (s2.trans s3)) h
 | none=>
   rw [hst] at t h
   obtain ⟨p,af,ab,at_,ar,tf,tb,tt,rfl,n⟩:=t
   obtain ⟨R4,x4,hv4⟩:=vE E3.sub xx.h xx.s n (z hst)
   exact dn _ H' R4 _ ((E3.grow x4).set i (r:=aj) (x:=.tup (aX (bc (nextM code ans m)))) hv4) (s1.trans (s2.trans (s3.trans x4.r))) h
end
theorem ig {K:PySem.W.Frag}{R:Hp}{v:V}{xs:List PV}(h:aj.R K R v (.tup xs)):∃a vs,v= .ref a/\R a=some (.tup vs)/\bE R vs xs:=by
 cases h with
 | tup h t=>exact ⟨_,_,rfl,h,t⟩
theorem cC {R:Hp}{vs:List V}{x:PV}{xs:List PV}(h:bE R vs (x::xs)):∃v us,vs=v::us/\cb R v x/\bE R us xs:=by
 cases h with
 | cons h t=>exact ⟨_,_,rfl,h,t⟩
section
variable {X:Cx}{Γ Γ1:Ga}{N:Ga->Prop}{T:RT}
variable {x1 x2:Str}{p1 p2 tp pos:Pos}{e:Expr}{y1 y2:PV}
theorem yP (i1 i2:Nat){k:Nat}(he:EV X e Γ aj (.tup [y1,y2]) Γ1)(h:N ((Γ1.set i1 (.im aj y1)).set i2 (.im aj y2)))
 (hc:X.calm=true:=by rfl) (hN:X.N.Nodup:=by first | assumption | decide)
 (h1:X.N[i1]?=some x1:=by rfl) (l1:Loc X.env.scope x1:=by first | exact Or.inl rfl | exact Or.inr rfl) (f1:X.fn x1=true∨X.env.scope.names.lookup x1=some .local:=by first | exact .inl rfl | exact .inr rfl)
 (h2:X.N[i2]?=some x2:=by rfl) (l2:Loc X.env.scope x2:=by first | exact Or.inl rfl | exact Or.inr rfl) (f2:X.fn x2=true∨X.env.scope.names.lookup x2=some .local:=by first | exact .inl rfl | exact .inr rfl)
 (hs:swapsWithSole [.Tuple [.Name x1 p1,.Name x2 p2] k tp] e pos.line X.env=pure false:=by rfl) (hw:swappedStores [.Tuple [.Name x1 p1,.Name x2 p2] k tp] e X.env=pure none:=by rfl) (ho:(assignEach [.Tuple [.Name x1 p1,.Name x2 p2] k tp] X.env).map (·.2)=[assign (.Tuple [.Name x1 p1,.Name x2 p2] k tp) X.env]:=by rfl):W1 X (.Assign [.Tuple [.Name x1 p1,.Name x2 p2] k tp] e pos) Γ N T:=λσ H0 R0 H R E D dn dr=>by
 refine sS (j9 aN (jR hc (cj (cy hN h1 l1 f1) (cj (cy hN h2 l2 f2) iN))) hs hw ho) (he σ H0 R0 H R E _ λv H1 R1 E1 s1 q1=>?_)
 obtain ⟨a,vs,rfl,ha,pp⟩:=ig q1
 obtain ⟨v1,t1,rfl,g1,pp⟩:=cC pp
 obtain ⟨v2,t2,rfl,g2,pp⟩:=cC pp
 cases pp
 exact ⟨a,_,rfl,bL.of (E1.sub _ _ ha),rfl,_,_,rfl,_,_,rfl,rfl,dn _ H1 R1 _ ((E1.set i1 (r:=aj) g1).set i2 (r:=aj) g2) s1 h⟩
theorem w6 (i1 i2 i3:Nat){x3:Str}{k:Nat}{p3:Pos}{y3:PV}(he:EV X e Γ aj (.tup [y1,y2,y3]) Γ1)(h:N (((Γ1.set i1 (.im aj y1)).set i2 (.im aj y2)).set i3 (.im aj y3)))
 (hc:X.calm=true:=by rfl) (hN:X.N.Nodup:=by first | assumption | decide)
 (h1:X.N[i1]?=some x1:=by rfl) (l1:Loc X.env.scope x1:=by first | exact Or.inl rfl | exact Or.inr rfl) (f1:X.fn x1=true∨X.env.scope.names.lookup x1=some .local:=by first | exact .inl rfl | exact .inr rfl)
 (h2:X.N[i2]?=some x2:=by rfl) (l2:Loc X.env.scope x2:=by first | exact Or.inl rfl | exact Or.inr rfl) (f2:X.fn x2=true∨X.env.scope.names.lookup x2=some .local:=by first | exact .inl rfl | exact .inr rfl)
 (h3:X.N[i3]?=some x3:=by rfl) (l3:Loc X.env.scope x3:=by first | exact Or.inl rfl | exact Or.inr rfl) (f3:X.fn x3=true∨X.env.scope.names.lookup x3=some .local:=by first | exact .inl rfl | exact .inr rfl)
 (hs:swapsWithSole [.Tuple [.Name x1 p1,.Name x2 p2,.Name x3 p3] k tp] e pos.line X.env=pure false:=by rfl) (hw:swappedStores [.Tuple [.Name x1 p1,.Name x2 p2,.Name x3 p3] k tp] e X.env=pure none:=by rfl) (ho:(assignEach [.Tuple [.Name x1 p1,.Name x2 p2,.Name x3 p3] k tp] X.env).map (·.2)=[assign (.Tuple [.Name x1 p1,.Name x2 p2,.Name x3 p3] k tp) X.env]:=by rfl):W1 X (.Assign [.Tuple [.Name x1 p1,.Name x2 p2,.Name x3 p3] k tp] e pos) Γ N T:=λσ H0 R0 H R E D dn dr=>by
 refine sS (j9 aN (jR hc (cj (cy hN h1 l1 f1) (cj (cy hN h2 l2 f2) (cj (cy hN h3 l3 f3) iN)))) hs hw ho) (he σ H0 R0 H R E _ λv H1 R1 E1 s1 q1=>?_)
 obtain ⟨a,vs,rfl,ha,pp⟩:=ig q1
 obtain ⟨v1,t1,rfl,g1,pp⟩:=cC pp
 obtain ⟨v2,t2,rfl,g2,pp⟩:=cC pp
 obtain ⟨v3,t3,rfl,g3,pp⟩:=cC pp
 cases pp
 exact ⟨a,_,rfl,bL.of (E1.sub _ _ ha),rfl,_,_,rfl,_,_,rfl,_,_,rfl,rfl,dn _ H1 R1 _ (((E1.set i1 (r:=aj) g1).set i2 (r:=aj) g2).set i3 (r:=aj) g3) s1 h⟩
theorem yZ (i1 i2 i3 i4 i5 i6 i7 i8:Nat){x3 x4 x5 x6 x7 x8:Str}{k:Nat}{p3 p4 p5 p6 p7 p8:Pos}{y3 y4 y5 y6 y7 y8:PV}(he:EV X e Γ aj (.tup [y1,y2,y3,y4,y5,y6,y7,y8]) Γ1)(h:N ((((((((Γ1.set i1 (.im aj y1)).set i2 (.im aj y2)).set i3 (.im aj y3)).set i4 (.im aj y4)).set i5 (.im aj y5)).set i6 (.im aj y6)).set i7 (.im aj y7)).set i8 (.im aj y8)))
 (hc:X.calm=true:=by rfl) (hN:X.N.Nodup:=by first | assumption | decide)
 (h1:X.N[i1]?=some x1:=by rfl) (l1:Loc X.env.scope x1:=by first | exact Or.inl rfl | exact Or.inr rfl) (f1:X.fn x1=true∨X.env.scope.names.lookup x1=some .local:=by first | exact .inl rfl | exact .inr rfl)
 (h2:X.N[i2]?=some x2:=by rfl) (l2:Loc X.env.scope x2:=by first | exact Or.inl rfl | exact Or.inr rfl) (f2:X.fn x2=true∨X.env.scope.names.lookup x2=some .local:=by first | exact .inl rfl | exact .inr rfl)
 (h3:X.N[i3]?=some x3:=by rfl) (l3:Loc X.env.scope x3:=by first | exact Or.inl rfl | exact Or.inr rfl) (f3:X.fn x3=true∨X.env.scope.names.lookup x3=some .local:=by first | exact .inl rfl | exact .inr rfl)
 (h4:X.N[i4]?=some x4:=by rfl) (l4:Loc X.env.scope x4:=by first | exact Or.inl rfl | exact Or.inr rfl) (f4:X.fn x4=true∨X.env.scope.names.lookup x4=some .local:=by first | exact .inl rfl | exact .inr rfl)
 (h5:X.N[i5]?=some x5:=by rfl) (l5:Loc X.env.scope x5:=by first | exact Or.inl rfl | exact Or.inr rfl) (f5:X.fn x5=true∨X.env.scope.names.lookup x5=some .local:=by first | exact .inl rfl | exact .inr rfl)
 (h6:X.N[i6]?=some x6:=by rfl) (l6:Loc X.env.scope x6:=by first | exact Or.inl rfl | exact Or.inr rfl) (f6:X.fn x6=true∨X.env.scope.names.lookup x6=some .local:=by first | exact .inl rfl | exact .inr rfl)
 (h7:X.N[i7]?=some x7:=by rfl) (l7:Loc X.env.scope x7:=by first | exact Or.inl rfl | exact Or.inr rfl) (f7:X.fn x7=true∨X.env.scope.names.lookup x7=some .local:=by first | exact .inl rfl | exact .inr rfl)
 (h8:X.N[i8]?=some x8:=by rfl) (l8:Loc X.env.scope x8:=by first | exact Or.inl rfl | exact Or.inr rfl) (f8:X.fn x8=true∨X.env.scope.names.lookup x8=some .local:=by first | exact .inl rfl | exact .inr rfl)
 (hs:swapsWithSole [.Tuple [.Name x1 p1,.Name x2 p2,.Name x3 p3,.Name x4 p4,.Name x5 p5,.Name x6 p6,.Name x7 p7,.Name x8 p8] k tp] e pos.line X.env=pure false:=by rfl) (hw:swappedStores [.Tuple [.Name x1 p1,.Name x2 p2,.Name x3 p3,.Name x4 p4,.Name x5 p5,.Name x6 p6,.Name x7 p7,.Name x8 p8] k tp] e X.env=pure none:=by rfl) (ho:(assignEach [.Tuple [.Name x1 p1,.Name x2 p2,.Name x3 p3,.Name x4 p4,.Name x5 p5,.Name x6 p6,.Name x7 p7,.Name x8 p8] k tp] X.env).map (·.2)=[assign (.Tuple [.Name x1 p1,.Name x2 p2,.Name x3 p3,.Name x4 p4,.Name x5 p5,.Name x6 p6,.Name x7 p7,.Name x8 p8] k tp) X.env]:=by rfl):W1 X (.Assign [.Tuple [.Name x1 p1,.Name x2 p2,.Name x3 p3,.Name x4 p4,.Name x5 p5,.Name x6 p6,.Name x7 p7,.Name x8 p8] k tp] e pos) Γ N T:=λσ H0 R0 H R E D dn dr=>by
 refine sS (j9 aN (jR hc (cj (cy hN h1 l1 f1) (cj (cy hN h2 l2 f2) (cj (cy hN h3 l3 f3) (cj (cy hN h4 l4 f4) (cj (cy hN h5 l5 f5) (cj (cy hN h6 l6 f6) (cj (cy hN h7 l7 f7) (cj (cy hN h8 l8 f8) iN))))))))) hs hw ho) (he σ H0 R0 H R E _ λv H1 R1 E1 s1 q1=>?_)
 obtain ⟨a,vs,rfl,ha,pp⟩:=ig q1
 obtain ⟨v1,t1,rfl,g1,pp⟩:=cC pp
 obtain ⟨v2,t2,rfl,g2,pp⟩:=cC pp
 obtain ⟨v3,t3,rfl,g3,pp⟩:=cC pp
 obtain ⟨v4,t4,rfl,g4,pp⟩:=cC pp
 obtain ⟨v5,t5,rfl,g5,pp⟩:=cC pp
 obtain ⟨v6,t6,rfl,g6,pp⟩:=cC pp
 obtain ⟨v7,t7,rfl,g7,pp⟩:=cC pp
 obtain ⟨v8,t8,rfl,g8,pp⟩:=cC pp
 cases pp
 exact ⟨a,_,rfl,bL.of (E1.sub _ _ ha),rfl,_,_,rfl,_,_,rfl,_,_,rfl,_,_,rfl,_,_,rfl,_,_,rfl,_,_,rfl,_,_,rfl,rfl,dn _ H1 R1 _ ((((((((E1.set i1 (r:=aj) g1).set i2 (r:=aj) g2).set i3 (r:=aj) g3).set i4 (r:=aj) g4).set i5 (r:=aj) g5).set i6 (r:=aj) g6).set i7 (r:=aj) g7).set i8 (r:=aj) g8) s1 h⟩
end
section
variable {P:Program}{w:World}{K:PySem.W.Frag}{mg:Str->Option Value}{base:Heap}{f:Addr}{fd:FuncData}{C:Addr}
def Bd:cI:=λK ps T=>∃(D:List (Int×Int)) (b:Int),ps=[⟨ak aj,aZ D⟩,⟨ag,b⟩]/\D.length < 62/\(ks D).Nodup/\bh D=D/\T=dc K aj (· = .lst (aZ (bh (dP b ((dG D b).getD 0 + 1) D))))
abbrev tY:Stmt:=top mK
abbrev nNR:List Str:=["_law_code","_law_state","_law_answers","_law_at","_law_frames","_law_boxes","_law_heard","_law_chain","_law_rows","_law_used","_law_idle_here","_law_line_here","_law_back","_law_total","_law_kept","_law_near_here","_law_row","_law_to"]
theorem xV:aU nNR ["_law_code","_law_state","_law_answers"] (aq tY):=⟨rfl,rfl,rfl,by decide +kernel,rfl,by decide +kernel,by decide +kernel⟩
def Bk:cI:=λK ps T=>∃(code:List Ln) (m:ba) (ans:List Int),ps=[⟨ak aj,aK code⟩,⟨aj,.tup (aX m)⟩,⟨ak ag,ans⟩]/\Good code m/\bc m=m/\m.at_ < code.length/\((lnAt code m).k="ask"->0<=m.used/\m.used < ans.length)/\(∀a∈ans,a=0∨a=1)/\T=dc K aj (· = .tup (aX (bc (nextM code ans m))))
theorem rR {α:Type}(xs:List α)(y:α):cut (xs++[y]) none (some (-1))=xs:=by
 unfold cut
 simp [HT.sIx]
 rw [show (-1 + ((xs.length:Int) + 1)).toNat=xs.length by omega]
 exact List.take_left' rfl
theorem zJ (M:bZ K mg)(F:bX K "_law_near" "_law_near" tY f fd)(CB:aV P w K mg base "_law_box" 1 (bg Bd K))(hm:mg "_law_near"=some (.ref f))(hb:Binds K fd ["_law_code","_law_state","_law_answers"] []):aV P w K mg base "_law_near" 2 (bg Bk K):=by
 have nd:=xV.nd
 refine cN F xV hm hb (λqs T ⟨_,_,_,e,_⟩=>by rw [e];rfl) (λcdv A outer s H E qs T hr hS=>?_)
 obtain ⟨code,m,ans,rfl,g,hso,hlt,hu,h01,rfl⟩:=hS
 change WS _ _ [.im (ak aj) (aK code),.im aj (.tup (aX m)),.im (ak ag) ans,.no,.no,.no,.no,.no,.no,.no,.no,.no,.no,.no,.no,.no,.no,.no] _ _
 have hbx:bh m.boxes=m.boxes:=congrArg ba.boxes hso
 have hat:=code_at g.a0 hlt
 obtain ⟨fr,q,hg⟩:∃fr q,m.frames=fr++[q]:=⟨m.frames.dropLast,m.frames.getLast g.ok.ne,(List.dropLast_concat_getLast g.ok.ne).symm⟩
 have hgl:m.frames.getLastD (0,0,0)=q:=by rw [hg];simp
 have hgd:m.frames.dropLast=fr:=by rw [hg];simp
 have big:(100000:Nat) + 1<=sizeLine:=by decide
 have hrz:(cD m.rows).length + 1<=sizeLine:=by have:=g.ok.r;rw [List.length_map];omega
 have hfz:(l3 m.frames).length + 1<=sizeLine:=by have:=g.ok.f;rw [List.length_map];omega
 have htz:(l3 m.told).length + 1<=sizeLine:=by have:=g.ok.t;rw [List.length_map];omega
 have hcl:cut (l3 m.frames) none (some (-1))=l3 fr:=by rw [hg,← dB];exact rR _ _
 have hcz:(cut (l3 m.frames) none (some (-1))).length + 1<=sizeLine:=by rw [hcl];have:=g.ok.f;rw [hg,List.length_append] at this;rw [List.length_map];omega
 have hnx:nextM code ans m=eh m (lnAt code m) (ans.getD m.used.toNat 0):=rfl
 rw [hnx]
 change WS _ _ _ _ _
 have hat:cM (aK code) m.at_=some (da (lnAt code m)):=hat
 generalize lnAt code m=ln at hat hu
 refine ai (yZ 3 4 5 6 7 8 9 10 (aa 1 rfl) ?_)
 change WS _ _ [.im (ak aj) (aK code),.im aj (.tup (aX m)),.im (ak ag) ans,.im aj (.int m.at_),.im aj (.lst (l3 m.frames)),.im aj (.lst (aZ m.boxes)),.im aj (.lst (l3 m.told)),.im aj (.int m.chain),.im aj (.lst (cD m.rows)),.im aj (.int m.used),.im aj (.int m.idle),.no,.no,.no,.no,.no,.no,.no] _ _
 refine ai (bw 11 (cn (aa 0 rfl) (EV.iP (n:=m.at_) (aa 3 rfl)) hat) ?_)
 refine ai (w6 12 13 14 (y1:=.int q.1) (y2:=.int q.2.1) (y3:=.int q.2.2) (cn (EV.lP (xs:=l3 m.frames) (aa 4 rfl)) (cX ae) (by rw [hg];exact iI)) ?_)
 refine ai (bw 15 (aR (ah (EV.pI (bW (EV.iP (n:=m.at_) (aa 3 rfl)) ae)) (ah (aa 4 rfl) (ah (aa 5 rfl) (ah (aa 6 rfl) (ah (aa 7 rfl) (ah (aa 8 rfl) (ah (aa 9 rfl) (ah (EV.pI (bW (EV.iP (n:=m.idle) (aa 10 rfl)) ae)) aA)))))))) (by show 8<=sizeLine;decide)) ?_)
 change WS _ _ [.im (ak aj) (aK code),.im aj (.tup (aX m)),.im (ak ag) ans,.im aj (.int m.at_),.im aj (.lst (l3 m.frames)),.im aj (.lst (aZ m.boxes)),.im aj (.lst (l3 m.told)),.im aj (.int m.chain),.im aj (.lst (cD m.rows)),.im aj (.int m.used),.im aj (.int m.idle),.im aj (da ln),.im aj (.int q.1),.im aj (.int q.2.1),.im aj (.int q.2.2),.im aj (.tup [.int (m.at_ + 1),.lst (l3 m.frames),.lst (aZ m.boxes),.lst (l3 m.told),.int m.chain,.lst (cD m.rows),.int m.used,.int (m.idle + 1)]),.no,.no] _ _
 cases ln with
 | row p=>
   refine ai (aD (ao aI (EV.sP (x:="row") (az (aa 11 rfl) ae rfl)) aJ) (λ_=>?_) (λh=>absurd (show ("row":Str)="row" from rfl) (of_decide_eq_false h)))
   refine ay (bB (aR (ah (EV.pI (bW (EV.iP (n:=m.at_) (aa 3 rfl)) ae)) (ah (aa 4 rfl) (ah (aa 5 rfl) (ah (aa 6 rfl) (ah (aa 7 rfl) (ah (EV.pL (bb.im (du (EV.lP (xs:=cD m.rows) (aa 8 rfl)) (bb.im (aY (ah (az (aa 11 rfl) ae rfl) aA) (by show 1<=sizeLine;decide))) hrz))) (ah (aa 9 rfl) (ah (EV.pI ae) aA)))))))) (by show 8<=sizeLine;decide)) ?_)
   rw [fO]
   show PV.tup _= .tup (aX (bc _))
   simp only [eh,bc,aX,hbx,dN,Ln.k]
   rfl
 | jump j=>
   refine ai (aD (ao aI (EV.sP (x:="jump") (az (aa 11 rfl) ae rfl)) aJ) (λh=>absurd (show ("jump":Str)="row" from of_decide_eq_true h) (by decide)) (λ_=>aG ?_))
   refine ai (aD (ao aI (EV.sP (x:="jump") (az (aa 11 rfl) ae rfl)) aJ) (λh=>absurd (show ("jump":Str)="ask" from of_decide_eq_true h) (by decide)) (λ_=>aG ?_))
   refine ai (aD (ao aI (EV.sP (x:="jump") (az (aa 11 rfl) ae rfl)) aJ) (λh=>absurd (show ("jump":Str)="call" from of_decide_eq_true h) (by decide)) (λ_=>aG ?_))
   refine ai (aD (ao aI (EV.sP (x:="jump") (az (aa 11 rfl) ae rfl)) aJ) (λ_=>?_) (λh=>absurd (show ("jump":Str)="jump" from rfl) (of_decide_eq_false h)))
   refine ay (bB (eJ (aR (ah (az (aa 11 rfl) ae rfl) aA) (by show 1<=sizeLine;decide)) (EV.cast (y':=.tup [PV.lst (l3 m.frames),PV.lst (aZ m.boxes),PV.lst (l3 m.told),PV.int m.chain,PV.lst (cD m.rows),PV.int m.used,PV.int (m.idle + 1)]) (eX (aa 15 rfl) (c8 ae) c9 (by intro h;first | exact absurd (show (1:Nat)=0 from h.1) (by decide) | exact absurd (show (8:Nat)=8 from h.2) (by decide))) rfl) (hz:=by first | (show 8<=sizeLine;decide) | (show 3<=sizeLine;decide) | (show 2<=sizeLine;decide))) ?_)
   show PV.tup _= .tup (aX (bc _))
   simp only [eh,bc,aX,hbx,dN,Ln.k]
   rfl
 | back=>
   refine ai (aD (ao aI (EV.sP (x:="back") (az (aa 11 rfl) ae rfl)) aJ) (λh=>absurd (show ("back":Str)="row" from of_decide_eq_true h) (by decide)) (λ_=>aG ?_))
   refine ai (aD (ao aI (EV.sP (x:="back") (az (aa 11 rfl) ae rfl)) aJ) (λh=>absurd (show ("back":Str)="ask" from of_decide_eq_true h) (by decide)) (λ_=>aG ?_))
   refine ai (aD (ao aI (EV.sP (x:="back") (az (aa 11 rfl) ae rfl)) aJ) (λh=>absurd (show ("back":Str)="call" from of_decide_eq_true h) (by decide)) (λ_=>aG ?_))
   refine ai (aD (ao aI (EV.sP (x:="back") (az (aa 11 rfl) ae rfl)) aJ) (λh=>absurd (show ("back":Str)="jump" from of_decide_eq_true h) (by decide)) (λ_=>aG ?_))
   refine ai (aD (ao aI (EV.sP (x:="back") (az (aa 11 rfl) ae rfl)) aJ) (λ_=>?_) (λh=>absurd (show ("back":Str)="back" from rfl) (of_decide_eq_false h)))
   refine ay (bB (eJ (aR (ah (aa 12 rfl) (ah (EV.pL (bb.im (ir (EV.lP (xs:=l3 m.frames) (aa 4 rfl)) c9 (c8 (cX ae))))) (ah (aa 5 rfl) (ah (aa 6 rfl) (ah (aa 14 rfl) aA))))) (by show 5<=sizeLine;decide)) (EV.cast (y':=.tup [PV.lst (cD m.rows),PV.int m.used,PV.int (m.idle + 1)]) (eX (aa 15 rfl) (c8 ae) c9 (by intro h;first | exact absurd (show (5:Nat)=0 from h.1) (by decide) | exact absurd (show (8:Nat)=8 from h.2) (by decide))) rfl) (hz:=by first | (show 8<=sizeLine;decide) | (show 3<=sizeLine;decide) | (show 2<=sizeLine;decide))) ?_)
   rw [hcl]
   show PV.tup _= .tup (aX (bc _))
   simp only [eh,bc,aX,hbx,dN,Ln.k,hgl,hgd]
   rfl
 | call p j n=>
   refine ai (aD (ao aI (EV.sP (x:="call") (az (aa 11 rfl) ae rfl)) aJ) (λh=>absurd (show ("call":Str)="row" from of_decide_eq_true h) (by decide)) (λ_=>aG ?_))
   refine ai (aD (ao aI (EV.sP (x:="call") (az (aa 11 rfl) ae rfl)) aJ) (λh=>absurd (show ("call":Str)="ask" from of_decide_eq_true h) (by decide)) (λ_=>aG ?_))
   refine ai (aD (ao aI (EV.sP (x:="call") (az (aa 11 rfl) ae rfl)) aJ) (λ_=>?_) (λh=>absurd (show ("call":Str)="call" from rfl) (of_decide_eq_false h)))
   refine ai (bw 4 (EV.pL (bb.im (du (EV.lP (xs:=l3 m.frames) (aa 4 rfl)) (bb.im (aY (ah (aR (ah (EV.pI (bW (EV.iP (n:=m.at_) (aa 3 rfl)) ae)) (ah (EV.pI ae) (ah (aa 7 rfl) aA))) cm) aA) (by show 1<=sizeLine;decide))) hfz))) ?_)
   refine ay (bB (aR (ah (az (aa 11 rfl) ae rfl) (ah (aa 4 rfl) (ah (aa 5 rfl) (ah (aa 6 rfl) (ah (EV.pI (bW (EV.iP (n:=m.chain) (aa 7 rfl)) (EV.iP (n:=n) (az (aa 11 rfl) ae rfl)))) (ah (EV.pL (bb.im (du (EV.lP (xs:=cD m.rows) (aa 8 rfl)) (bb.im (aY (ah (az (aa 11 rfl) ae rfl) aA) (by show 1<=sizeLine;decide))) hrz))) (ah (aa 9 rfl) (ah (EV.pI ae) aA)))))))) (by show 8<=sizeLine;decide)) ?_)
   rw [fO,show l3 m.frames++[PV.tup [.int (m.at_ + 1),.int 0,.int m.chain]]=l3 (m.frames++[(m.at_ + 1,0,m.chain)]) from dB (p:=(m.at_ + 1,0,m.chain))]
   show PV.tup _= .tup (aX (bc _))
   simp only [eh,bc,aX,hbx,dN,Ln.k,oR]
   rfl
 | count b=>
   refine ai (aD (ao aI (EV.sP (x:="count") (az (aa 11 rfl) ae rfl)) aJ) (λh=>absurd (show ("count":Str)="row" from of_decide_eq_true h) (by decide)) (λ_=>aG ?_))
   refine ai (aD (ao aI (EV.sP (x:="count") (az (aa 11 rfl) ae rfl)) aJ) (λh=>absurd (show ("count":Str)="ask" from of_decide_eq_true h) (by decide)) (λ_=>aG ?_))
   refine ai (aD (ao aI (EV.sP (x:="count") (az (aa 11 rfl) ae rfl)) aJ) (λh=>absurd (show ("count":Str)="call" from of_decide_eq_true h) (by decide)) (λ_=>aG ?_))
   refine ai (aD (ao aI (EV.sP (x:="count") (az (aa 11 rfl) ae rfl)) aJ) (λh=>absurd (show ("count":Str)="jump" from of_decide_eq_true h) (by decide)) (λ_=>aG ?_))
   refine ai (aD (ao aI (EV.sP (x:="count") (az (aa 11 rfl) ae rfl)) aJ) (λh=>absurd (show ("count":Str)="back" from of_decide_eq_true h) (by decide)) (λ_=>aG ?_))
   refine ai (aD (ao aI (EV.sP (x:="count") (az (aa 11 rfl) ae rfl)) aJ) (λ_=>?_) (λh=>absurd (show ("count":Str)="count" from rfl) (of_decide_eq_false h)))
   refine ay (bB (eJ (eJ (EV.cast (y':=.tup [PV.int (m.at_ + 1),PV.lst (l3 m.frames)]) (eX (aa 15 rfl) c9 (c8 ae) (by intro h;first | exact absurd (show (0:Nat)=0 from h.1) (by decide) | exact absurd (show (2:Nat)=8 from h.2) (by decide))) rfl) (aR (ah (bI CB hr (au (EV.lP (xs:=aZ m.boxes) (aa 5 rfl)) (au (EV.iP (n:=b) (az (aa 11 rfl) ae rfl)) aP)) ⟨m.boxes,b,rfl,by have:=g.b;omega,g.nd,hbx,rfl⟩) aA) (by show 1<=sizeLine;decide)) (hz:=by first | (show 8<=sizeLine;decide) | (show 3<=sizeLine;decide) | (show 2<=sizeLine;decide))) (EV.cast (y':=.tup [PV.lst (l3 m.told),PV.int m.chain,PV.lst (cD m.rows),PV.int m.used,PV.int (m.idle + 1)]) (eX (aa 15 rfl) (c8 ae) c9 (by intro h;first | exact absurd (show (3:Nat)=0 from h.1) (by decide) | exact absurd (show (8:Nat)=8 from h.2) (by decide))) rfl) (hz:=by first | (show 8<=sizeLine;decide) | (show 3<=sizeLine;decide) | (show 2<=sizeLine;decide))) ?_)
   show PV.tup _= .tup (aX (bc _))
   simp only [eh,bc,aX,dN,Ln.k]
   rfl
 | add n=>
   refine ai (aD (ao aI (EV.sP (x:="add") (az (aa 11 rfl) ae rfl)) aJ) (λh=>absurd (show ("add":Str)="row" from of_decide_eq_true h) (by decide)) (λ_=>aG ?_))
   refine ai (aD (ao aI (EV.sP (x:="add") (az (aa 11 rfl) ae rfl)) aJ) (λh=>absurd (show ("add":Str)="ask" from of_decide_eq_true h) (by decide)) (λ_=>aG ?_))
   refine ai (aD (ao aI (EV.sP (x:="add") (az (aa 11 rfl) ae rfl)) aJ) (λh=>absurd (show ("add":Str)="call" from of_decide_eq_true h) (by decide)) (λ_=>aG ?_))
   refine ai (aD (ao aI (EV.sP (x:="add") (az (aa 11 rfl) ae rfl)) aJ) (λh=>absurd (show ("add":Str)="jump" from of_decide_eq_true h) (by decide)) (λ_=>aG ?_))
   refine ai (aD (ao aI (EV.sP (x:="add") (az (aa 11 rfl) ae rfl)) aJ) (λh=>absurd (show ("add":Str)="back" from of_decide_eq_true h) (by decide)) (λ_=>aG ?_))
   refine ai (aD (ao aI (EV.sP (x:="add") (az (aa 11 rfl) ae rfl)) aJ) (λh=>absurd (show ("add":Str)="count" from of_decide_eq_true h) (by decide)) (λ_=>aG ?_))
   refine ai (aD (ao aI (EV.sP (x:="add") (az (aa 11 rfl) ae rfl)) aJ) (λ_=>?_) (λh=>absurd (show ("add":Str)="add" from rfl) (of_decide_eq_false h)))
   refine ay (bB (eJ (eJ (EV.cast (y':=.tup [PV.int (m.at_ + 1)]) (eX (aa 15 rfl) c9 (c8 ae) (by intro h;first | exact absurd (show (0:Nat)=0 from h.1) (by decide) | exact absurd (show (1:Nat)=8 from h.2) (by decide))) rfl) (aR (ah (EV.pL (bb.im (du (bb.im (ir (EV.lP (xs:=l3 m.frames) (aa 4 rfl)) c9 (c8 (cX ae)))) (bb.im (aY (ah (aR (ah (aa 12 rfl) (ah (EV.pI (bW (EV.iP (n:=q.2.1) (aa 13 rfl)) (EV.iP (n:=n) (az (aa 11 rfl) ae rfl)))) (ah (aa 14 rfl) aA))) cm) aA) (by show 1<=sizeLine;decide))) hcz))) aA) (by show 1<=sizeLine;decide)) (hz:=by first | (show 8<=sizeLine;decide) | (show 3<=sizeLine;decide) | (show 2<=sizeLine;decide))) (EV.cast (y':=.tup [PV.lst (aZ m.boxes),PV.lst (l3 m.told),PV.int m.chain,PV.lst (cD m.rows),PV.int m.used,PV.int (m.idle + 1)]) (eX (aa 15 rfl) (c8 ae) c9 (by intro h;first | exact absurd (show (2:Nat)=0 from h.1) (by decide) | exact absurd (show (8:Nat)=8 from h.2) (by decide))) rfl) (hz:=by first | (show 8<=sizeLine;decide) | (show 3<=sizeLine;decide) | (show 2<=sizeLine;decide))) ?_)
   rw [hcl,show l3 fr++[PV.tup [.int q.1,.int (q.2.1 + n),.int q.2.2]]=l3 (fr++[(q.1,q.2.1 + n,q.2.2)]) from dB (p:=(q.1,q.2.1 + n,q.2.2))]
   show PV.tup _= .tup (aX (bc _))
   simp only [eh,bc,aX,hbx,dN,Ln.k,hgl,hgd]
   rfl
 | tell p n=>
   refine ai (aD (ao aI (EV.sP (x:="tell") (az (aa 11 rfl) ae rfl)) aJ) (λh=>absurd (show ("tell":Str)="row" from of_decide_eq_true h) (by decide)) (λ_=>aG ?_))
   refine ai (aD (ao aI (EV.sP (x:="tell") (az (aa 11 rfl) ae rfl)) aJ) (λh=>absurd (show ("tell":Str)="ask" from of_decide_eq_true h) (by decide)) (λ_=>aG ?_))
   refine ai (aD (ao aI (EV.sP (x:="tell") (az (aa 11 rfl) ae rfl)) aJ) (λh=>absurd (show ("tell":Str)="call" from of_decide_eq_true h) (by decide)) (λ_=>aG ?_))
   refine ai (aD (ao aI (EV.sP (x:="tell") (az (aa 11 rfl) ae rfl)) aJ) (λh=>absurd (show ("tell":Str)="jump" from of_decide_eq_true h) (by decide)) (λ_=>aG ?_))
   refine ai (aD (ao aI (EV.sP (x:="tell") (az (aa 11 rfl) ae rfl)) aJ) (λh=>absurd (show ("tell":Str)="back" from of_decide_eq_true h) (by decide)) (λ_=>aG ?_))
   refine ai (aD (ao aI (EV.sP (x:="tell") (az (aa 11 rfl) ae rfl)) aJ) (λh=>absurd (show ("tell":Str)="count" from of_decide_eq_true h) (by decide)) (λ_=>aG ?_))
   refine ai (aD (ao aI (EV.sP (x:="tell") (az (aa 11 rfl) ae rfl)) aJ) (λh=>absurd (show ("tell":Str)="add" from of_decide_eq_true h) (by decide)) (λ_=>aG ?_))
   refine ai (bw 6 (EV.pL (bb.im (du (EV.lP (xs:=l3 m.told) (aa 6 rfl)) (bb.im (aY (ah (aR (ah (az (aa 11 rfl) ae rfl) (ah (aa 7 rfl) (ah (aa 13 rfl) aA))) cm) aA) (by show 1<=sizeLine;decide))) htz))) ?_)
   refine ay (bB (eJ (aR (ah (EV.pI (bW (EV.iP (n:=m.at_) (aa 3 rfl)) ae)) (ah (EV.pL (bb.im (du (bb.im (ir (EV.lP (xs:=l3 m.frames) (aa 4 rfl)) c9 (c8 (cX ae)))) (bb.im (aY (ah (aR (ah (aa 12 rfl) (ah (az (aa 11 rfl) ae rfl) (ah (aa 14 rfl) aA))) cm) aA) (by show 1<=sizeLine;decide))) hcz))) (ah (aa 5 rfl) (ah (aa 6 rfl) aA)))) (by show 4<=sizeLine;decide)) (EV.cast (y':=.tup [PV.int m.chain,PV.lst (cD m.rows),PV.int m.used,PV.int (m.idle + 1)]) (eX (aa 15 rfl) (c8 ae) c9 (by intro h;first | exact absurd (show (4:Nat)=0 from h.1) (by decide) | exact absurd (show (8:Nat)=8 from h.2) (by decide))) rfl) (hz:=by first | (show 8<=sizeLine;decide) | (show 3<=sizeLine;decide) | (show 2<=sizeLine;decide))) ?_)
   rw [hcl,show l3 fr++[PV.tup [.int q.1,.int n,.int q.2.2]]=l3 (fr++[(q.1,n,q.2.2)]) from dB (p:=(q.1,n,q.2.2)),show l3 m.told++[PV.tup [.int p,.int m.chain,.int q.2.1]]=l3 (m.told++[(p,m.chain,q.2.1)]) from dB (p:=(p,m.chain,q.2.1))]
   show PV.tup _= .tup (aX (bc _))
   simp only [eh,bc,aX,hbx,dN,Ln.k,hgl,hgd]
   rfl
 | ask p z j=>
   have hu1:=hu rfl
   have ha:=h01 (ans.getD m.used.toNat 0) (by rw [List.getD_eq_getElem?_getD,List.getElem?_eq_getElem (by omega)];exact List.getElem_mem _)
   refine ai (aD (ao aI (EV.sP (x:="ask") (az (aa 11 rfl) ae rfl)) aJ) (λh=>absurd (show ("ask":Str)="row" from of_decide_eq_true h) (by decide)) (λ_=>aG ?_))
   refine ai (aD (ao aI (EV.sP (x:="ask") (az (aa 11 rfl) ae rfl)) aJ) (λ_=>?_) (λh=>absurd (show ("ask":Str)="ask" from rfl) (of_decide_eq_false h)))
   refine ai (yP 16 17 (y1:=.int (if ans.getD m.used.toNat 0=1 then p else z)) (y2:=.int (if ans.getD m.used.toNat 0=1 then m.at_ + 1 else j)) (cn (bb.im (aY (ah (aR (ah (az (aa 11 rfl) ae rfl) (ah (az (aa 11 rfl) ae rfl) aA)) (by show 2<=sizeLine;decide)) (ah (aR (ah (az (aa 11 rfl) ae rfl) (ah (EV.pI (bW (EV.iP (n:=m.at_) (aa 3 rfl)) ae)) aA)) (by show 2<=sizeLine;decide)) aA)) (by show 2<=sizeLine;decide))) (cn (aa 2 rfl) (EV.iP (n:=m.used) (aa 9 rfl)) (fX 0 hu1.1 hu1.2)) (by rcases ha with e | e<;>rw [e]<;>rfl)) ?_)
   refine ay (bB (aR (ah (aa 17 rfl) (ah (aa 4 rfl) (ah (aa 5 rfl) (ah (aa 6 rfl) (ah (aa 7 rfl) (ah (EV.pL (bb.im (du (EV.lP (xs:=cD m.rows) (aa 8 rfl)) (bb.im (aY (ah (aa 16 rfl) aA) (by show 1<=sizeLine;decide))) hrz))) (ah (EV.pI (bW (EV.iP (n:=m.used) (aa 9 rfl)) ae)) (ah (EV.pI ae) aA)))))))) (by show 8<=sizeLine;decide)) ?_)
   rw [fO]
   show PV.tup _= .tup (aX (bc _))
   simp only [eh,jm,bc,aX,dN,Ln.k]
   by_cases e:ans.getD m.used.toNat 0=1
   ·simp only [if_pos e,hbx];rfl
   ·simp only [if_neg e,hbx];rfl
end
end K1
namespace Fc
open PySem PySem.W PyProof.Rows
section
variable {n:Nat}{k:Nat->Int}{s:Shared}
variable {p:Array Nat}{i:Nat}
abbrev pR (n:Nat)(k:Nat->Int)(i j:Nat)(C:Bool->Shared->Prop)(s:Shared):Prop:=i < n/\j < n/\C (decide (k i < k j)) s
theorem lD {α:Type}{cmp:Nat->Nat->(Bool->Shared->Prop)->Shared->Prop}{Q:α->Shared->Prop}(hc:∀i j C,i < n->j < n->C (decide (k i < k j)) s->cmp i j C s):∀t:KasT α,t.kasWp (pR n k) Q s->t.kasWp cmp Q s
 | .ret _,h=>h
 | .ask i j f,⟨h1,h2,h3⟩=>hc i j _ h1 h2 (lD hc (f (decide (k i < k j))) h3)
structure PI (n:Nat) (p:Array Nat):Prop where
 size:p.size=n
 perm:p.toList.Perm (List.range n)
theorem PI.lt (h:PI n p)(hi:i < n):p.getD i 0 < n:=by
 have hs:i < p.size:=by rw [h.size];exact hi
 have e:p.getD i 0=p[i]:=by simp [Array.getD,hs]
 rw [e]
 exact List.mem_range.mp (h.perm.mem_iff.mp (by simp))
abbrev kk (k:Nat->Int)(p:Array Nat)(i:Nat):Int:=k (p.getD i 0)
def dR (k:Nat->Int)(p:Array Nat)(m:Nat):Prop:=∀i j,i<=j->j < m->kk k p i<=kk k p j
theorem dR.next {a:Nat}(h:dR k p a)(h1:1<=a)(hn:¬kk k p a < kk k p (a - 1)):dR k p (a + 1):=by
 intro i j hij hj
 by_cases e:j < a
 ·exact h i j hij e
 ·have e2:j=a:=by omega
  subst e2
  by_cases e3:i=j
  ·rw [e3];exact Int.le_refl _
  ·have:=h i (j - 1) (by omega) (by omega)
   omega
theorem uz {p:Array Nat}(hp:PI n p){Q:Nat->Shared->Prop}:∀f a:Nat,1<=a->a + f=n->dR k p a->(∀r,a<=r->r<=n->dR k p r->(r < n->kk k p r < kk k p (r - 1))->Q r s)->(kas_asc p f a).kasWp (pR n k) Q s
 | 0,a,h1,hf,hs,h=>h a (Nat.le_refl _) (by omega) hs (λz=>absurd z (by omega))
 | f + 1,a,h1,hf,hs,h=>by
   refine ⟨hp.lt (by omega),hp.lt (by omega),?_⟩
   by_cases q:kk k p a < kk k p (a - 1)
   ·rw [decide_eq_true q]
    exact h a (Nat.le_refl _) (by omega) hs λ_=>q
   ·rw [decide_eq_false q]
    exact uz hp f (a + 1) (by omega) (by omega) (hs.next h1 q) λr h2 h3 h4 h5=>h r (by omega) h3 h4 h5
theorem kz {p:Array Nat}(hp:PI n p){K:Nat}(hK:K < n)(hs:dR k p K){Q:Nat->Shared->Prop}(h:∀l,l<=K->(∀i,i < l->kk k p i<=kk k p K)->(∀i,l<=i->i < K->kk k p K < kk k p i)->Q l s):∀f l r:Nat,l<=r->r<=K->r - l<=f->(∀i,i < l->kk k p i<=kk k p K)->(∀i,r<=i->i < K->kk k p K < kk k p i)->(kas_place p K f l r).kasWp (pR n k) Q s
 | 0,l,r,h1,h2,h3,h4,h5=>h l (by omega) h4 λi q=>h5 i (by omega)
 | f + 1,l,r,h1,h2,h3,h4,h5=>by
   unfold kas_place
   by_cases e:l≥r
   ·rw [if_pos e]
    exact h l (by omega) h4 λi q=>h5 i (by omega)
   ·rw [if_neg e]
    refine ⟨hp.lt hK,hp.lt (by omega),?_⟩
    by_cases q:kk k p K < kk k p ((l + r) / 2)
    ·rw [decide_eq_true q]
     refine kz hp hK hs h f l ((l + r) / 2) (by omega) (by omega) (by omega) h4 λi a b=>?_
     have:=hs ((l + r) / 2) i a b
     omega
    ·rw [decide_eq_false q]
     refine kz hp hK hs h f ((l + r) / 2 + 1) r (by omega) (by omega) (by omega) (λi a=>?_) h5
     have:=hs i ((l + r) / 2) (by omega) (by omega)
     omega
theorem xw (p:Array Nat)(i:Nat):p.getD i 0=(p[i]?).getD 0:=by
 by_cases h:i < p.size
 ·simp [Array.getD,h]
 ·simp [Array.getD,h]
theorem kO {K d:Nat}(hs:K < p.size)(hd:d<=K)(i:Nat):kk k (bubble p K d) i=if i=K - d then kk k p K else if K - d < i/\i<=K then kk k p (i - 1) else kk k p i:=by
 simp only [kk,xw]
 rw [getElem?_bubble hs d hd i]
 by_cases e:i=K - d
 ·rw [if_pos e,if_pos e]
 ·rw [if_neg e,if_neg e]
  by_cases e2:K - d < i/\i<=K
  ·rw [if_pos e2,if_pos e2]
  ·rw [if_neg e2,if_neg e2]
theorem PI.bubble (h:PI n p)(K d:Nat):PI n (bubble p K d):=⟨by rw [bubble_size];exact h.size,(Array.perm_iff_toList_perm.mp (bubble_perm p K d)).trans h.perm⟩
theorem uc {Q:Array Nat->Shared->Prop}(h:∀p,PI n p->dR k p n->Q p s):∀(f:Nat) (p:Array Nat) (K:Nat),K + f=n->PI n p->dR k p K->(kas_bin f p K).kasWp (pR n k) Q s
 | 0,p,K,h1,hp,hs=>h p hp (by rw [← h1];exact hs)
 | f + 1,p,K,h1,hp,hs=>by
   show (KasT.bind _ _).kasWp _ _ _
   rw [KasT.kasWp_bind]
   refine kz hp (by omega) hs (λl hl hlo hhi=>?_) K 0 K (Nat.zero_le _) (Nat.le_refl _) (by omega) (λi hi=>by omega) (λi a b=>by omega)
   refine uc h f _ (K + 1) (by omega) (hp.bubble K (K - l)) λi j hij hj=>?_
   have hsz:K < p.size:=by rw [hp.size];omega
   rw [kO hsz (by omega),kO hsz (by omega),show K - (K - l)=l by omega]
   repeat' split
   all_goals first
    | (exfalso;omega)
    | exact Int.le_refl _
    | exact hlo _ (by omega)
    | exact Int.le_of_lt (hhi _ (by omega) (by omega))
    | exact hs _ _ (by omega) (by omega)
theorem fQ:PI n (List.toArray (List.range n)):=⟨by simp,by simp⟩
theorem i9 (h:i < n):(List.toArray (List.range n)).getD i 0=i:=by simp [Array.getD,h]
theorem gL (h:i < n):kk k (List.toArray (List.range n)) i=k i:=congrArg k (i9 h)
theorem xC (h2:2<=n)(hd:∀i j,i < n->j < n->k i=k j->i=j)(ha:∀i j,i<=j->j + 1 < n->k i<=k j){Q:Array Nat->Shared->Prop}(h:∀p,PI n p->dR k p n->Q p s):(kas_sort n).kasWp (pR n k) Q s:=by
 unfold kas_sort
 rw [KasT.kasWp_bind]
 unfold kas_count
 rw [KasT.kasWp_bind]
 refine uz fQ (n - 1) 1 (by omega) (by omega) (λi j hij hj=>by rw [show i=j by omega];exact Int.le_refl _) λr h3 h4 h5 h6=>?_
 by_cases e:r=n
 ·subst e
  rw [if_pos (by simp)]
  show (if r < r then _ else _:KasT (Array Nat)).kasWp _ _ _
  rw [if_neg (Nat.lt_irrefl _)]
  exact h _ fQ h5
 ·have hrn:r < n:=by omega
  rw [if_neg (by simpa using e)]
  by_cases q:r > 1
  ·rw [if_pos q]
   refine ⟨fQ.lt (by omega),fQ.lt (by omega),?_⟩
   have hlt:k 0 < k (r - 1):=by
    have a1:=h5 0 (r - 1) (by omega) (by omega)
    rw [gL (by omega),gL (by omega)] at a1
    have a2:k 0≠k (r - 1):=λz=>by have:=hd 0 (r - 1) (by omega) (by omega) z;omega
    omega
   rw [i9 (by omega),i9 (by omega),decide_eq_true hlt]
   show (if r < n then _ else _:KasT (Array Nat)).kasWp _ _ _
   rw [if_pos hrn]
   have em:max r 1=r:=by omega
   rw [em]
   exact uc h _ _ _ (by omega) fQ h5
  ·have hr1:r=1:=by omega
   subst hr1
   have hlt:=h6 hrn
   rw [gL (by omega),gL (by omega)] at hlt
   have hn2:n=2:=by
    by_cases z:n=2
    ·exact z
    ·have:=ha 0 1 (by omega) (by omega)
     have:k 1 < k 0:=hlt
     omega
   subst hn2
   rw [if_neg (by decide)]
   show Q (kas_rev (List.toArray (List.range 2)) 0 2) s
   have e:kas_rev (List.toArray (List.range 2)) 0 2= #[1,0]:=by decide
   rw [e]
   refine h _ ⟨rfl,by decide⟩ λi j hij hj=>?_
   have hlt:k 1 < k 0:=hlt
   have:i=0/\j=0∨i=0/\j=1∨i=1/\j=1:=by omega
   rcases this with ⟨rfl,rfl⟩ | ⟨rfl,rfl⟩ | ⟨rfl,rfl⟩
   ·exact Int.le_refl _
   ·exact Int.le_of_lt hlt
   ·exact Int.le_refl _
end
theorem rn {ks:List Int}(nd:ks.Nodup){i j:Nat}(hi:i < ks.length)(hj:j < ks.length)(q:ks.getD i 0=ks.getD j 0):i=j:=by
 have e:ks[i]=ks[j]:=by simpa [List.getD_eq_getElem?_getD,hi,hj] using q
 have:=List.pairwise_iff_getElem.mp nd
 rcases Nat.lt_trichotomy i j with z | z | z
 ·exact absurd e (this i j hi hj z)
 ·exact z
 ·exact absurd e.symm (this j i hj hi z)
section
variable {prog:Program}{w:World}{A:Around}{E:Value->Shared->Prop}{s:Shared}
variable {vs:List Value}{h:Heap}
def cE (h:Heap)(v:Value)(k:Int):Prop:=∃p o m t n u,v= .ref p/\h.get? p=some o/\o.cls= .type "tuple"/\o.data= .seq #[.int k t,.int n u] m
theorem cE.kept {h':Heap}{v:Value}{k:Int}(hk:∀b o,h.get? b=some o->o.cls= .type "tuple"->h'.get? b=some o):cE h v k->cE h' v k:=λ⟨p,o,m,t,n,u,e,a,b,c⟩=>⟨p,o,m,t,n,u,e,hk _ _ a b,b,c⟩
theorem jY {h':Heap}{ks:List Int}(hk:∀b o,h.get? b=some o->o.cls= .type "tuple"->h'.get? b=some o)(x:Paired (cE h) vs ks):Paired (cE h') vs ks:=by
 induction x with
 | nil=>exact .nil
 | cons a _ ih=>exact .cons (a.kept hk) ih
theorem pk {ks:List Int}(x:Paired (cE h) vs ks):∃fs,KatTups h vs fs/\fs.length=ks.length/\∀v∈fs,∃n t,v=Value.int n t:=by
 induction x with
 | nil=>exact ⟨[],.nil,rfl,λv hv=>by cases hv⟩
 | cons a _ ih=>
   obtain ⟨fs,h1,h2,h3⟩:=ih
   obtain ⟨p,o,m,t,n,u,rfl,a,b,c⟩:=a
   refine ⟨_::fs,.cons a b c rfl h1,by simp [h2],λv hv=>?_⟩
   rcases List.mem_cons.mp hv with rfl | hv
   ·exact ⟨_,_,rfl⟩
   ·exact h3 v hv
theorem qa {ks:List Int}(x:Paired (cE h) vs ks):∀i,i < vs.length->cE h (vs.getD i .none) (ks.getD i 0):=by
 induction x with
 | nil=>intro i hi;cases hi
 | cons a _ ih=>
   intro i hi
   cases i with
   | zero=>exact a
   | succ i=>exact ih i (by simpa using hi)
theorem lg {ks:List Int}(hv:Paired (cE s.heap) vs ks)(nd:ks.Nodup)(i j:Nat)(C:Bool->Shared->Prop)(hi:i < vs.length)(hj:j < vs.length)(h:C (decide (ks.getD i 0 < ks.getD j 0)) s):kas_ask prog w A (tuples' true) vs i j C s:=by
 have hl:vs.length=ks.length:=hv.length
 obtain ⟨p,o,m,t,n,u,e1,a1,b1,c1⟩:=qa hv i hi
 obtain ⟨p',o',m',t',n',u',e2,a2,b2,c2⟩:=qa hv j hj
 unfold kas_ask
 rw [e1,e2]
 refine kat_lt a1 c1 a2 c2 (kat_cons (wpAny_eqBool_int ?_))
 by_cases q:ks.getD i 0=ks.getD j 0
 ·rw [q,beq_self_eq_true]
  refine kat_yes (kat_cons (wpAny_eqBool_int ?_))
  have ij:i=j:=rn nd (by omega) (by omega) q
  subst ij
  rw [e1] at e2
  cases e2
  rw [a1] at a2
  cases a2
  rw [c1] at c2
  cases c2
  rw [beq_self_eq_true]
  refine kat_yes (kat_nil ?_)
  rw [show decide (ks.getD i 0 < ks.getD i 0)=false from decide_eq_false (Int.lt_irrefl _)] at h
  exact h
 ·have e:(ks.getD i 0==ks.getD j 0)=false:=by simpa using q
  rw [e]
  exact kat_no (oneLt_int h)
theorem lC {ks:List Int}(h:ks.dropLast.Pairwise (· <=·))(i j:Nat)(hij:i<=j)(hj:j + 1 < ks.length):ks.getD i 0<=ks.getD j 0:=by
 by_cases e:i=j
 ·rw [e];exact Int.le_refl _
 ·have z1:i < ks.length:=by omega
  have z2:j < ks.length:=by omega
  have y1:i < ks.dropLast.length:=by rw [List.length_dropLast];omega
  have y2:j < ks.dropLast.length:=by rw [List.length_dropLast];omega
  have:=List.pairwise_iff_getElem.mp h i j y1 y2 (by omega)
  simpa [List.getD_eq_getElem?_getD,z1,z2,List.getElem_dropLast] using this
theorem sU {ks:List Int}{p:Array Nat}{n:Nat}(hp:p.size=n)(hs:dR (λi=>ks.getD i 0) p n):(p.toList.map λi=>ks.getD i 0).Pairwise (· <=·):=by
 rw [List.pairwise_iff_getElem]
 intro i j hi hj hij
 simp only [List.length_map,Array.length_toList] at hi hj
 have:=hs i j (by omega) (by omega)
 simpa [kk,Array.getD,hi,hj] using this
theorem jW {a:Addr}{ks:List Int}{n:Nat}{P:Fin->Shared->Prop}(ho:s.heap.get? a=some (seqObj "list" vs.toArray n))(hv:Paired (cE s.heap) vs ks)(nd:ks.Nodup)(asc:ks.dropLast.Pairwise (· <=·))(h64:vs.length < 64)
 (h:∀q:List Nat,q.Perm (List.range vs.length)->(q.map λi=>ks.getD i 0).Pairwise (· <=·)->P (.done (.ret .none)) {s with heap:=sortedHeap s.heap a vs (q.map λi=>vs.getD i Value.none).toArray}):
 wpAny (model prog w) A (Builtin.«list.sort» ⟨[.ref a],[]⟩) P E s:=by
 rw [list_sort_plain]
 have ha:a < s.heap.objs.size:=Heap.lt_size ho
 refine wpAny_bind (listItems_at ho rfl ?_)
 refine wpAny_bind (listUpdate_at ho rfl ?_)
 obtain ⟨e1,ho1⟩:∃e1,(s.heap.update a (Obj.mapSeq λ_=> #[])).get? a=some (seqObj "list" #[] e1):=⟨_,get?_update_seq ho (λ_=> #[])⟩
 refine wpAny_bind (seqEpoch_at ho1 rfl ?_)
 refine wpAny_bind (wpAny_newTuple ?_)
 refine wpAny_bind (wpAny_newList ?_)
 refine wpAny_holding ?_
 have ho6:(((s.heap.update a (Obj.mapSeq λ_=> #[])).push (seqObj "tuple" vs.toArray 0)).push (seqObj "list" #[] 0)).get? a=some (seqObj "list" #[] e1):=by
  rw [Heap.get?_push_ne _ _ _ (by rw [size_push',Heap.size_update];exact Nat.ne_of_lt (Nat.lt_succ_of_lt ha)),Heap.get?_push_ne _ _ _ (by rw [Heap.size_update];exact Nat.ne_of_lt ha)]
  exact ho1
 have keep:∀b o,s.heap.get? b=some o->o.cls= .type "tuple"->(((s.heap.update a (Obj.mapSeq λ_=> #[])).push (seqObj "tuple" vs.toArray 0)).push (seqObj "list" #[] 0)).get? b=some o:=λb o q hc=>by
  have hb:b≠a:=λe=>by rw [e,ho] at q;cases q;exact absurd (show (Value.type "list")= .type "tuple" from hc) (by decide)
  exact Heap.get?_push_of_some _ (Heap.get?_push_of_some _ (by rw [Heap.get?_update_ne _ _ _ _ hb];exact q))
 have hv':=jY keep hv
 show wpAny (model prog w) A _ P E {s with heap:=((s.heap.update a (Obj.mapSeq λ_=> #[])).push (seqObj "tuple" vs.toArray 0)).push (seqObj "list" #[] 0)}
 dsimp only
 have hsz:vs.toArray.size=vs.length:=by simp
 have hlk:vs.length=ks.length:=hv.length
 by_cases h2:vs.toArray.size < 2
 ·rw [if_pos h2,if_pos h2]
  refine wpAny_bind (wpAny_pure ?_)
  rw [StateT.run_pure]
  refine wpAny_bind (wpAny_pure ?_)
  dsimp only
  refine wpAny_bind (seqEpoch_at ho6 rfl ?_)
  refine wpAny_bind (listUpdate_at ho6 rfl ?_ (hsz2:=by rw [Array.size_map];show (pairsOf vs).size<=_;rw [pairsOf_size,sizeLine_eq];omega))
  simp only [bne_self_eq_false,Bool.false_eq_true,if_false]
  refine wpAny_pure ?_
  have e:(arrOf (SortSt.mk' general' (vs.toArray.zip vs.toArray) #[] 7 none)).map (·.2)=((List.range vs.length).map λi=>vs.getD i Value.none).toArray:=by
   show (vs.toArray.zip vs.toArray).map (·.2)=_
   refine Array.ext (by simp) λi h1 h2=>?_
   have hi:i < vs.length:=by simpa using h1
   simp [hi]
  have:=h (List.range vs.length) (List.Perm.refl _) (by
   match ks,hlk with
   | [],e=>rw [show vs.length=0 from e];exact .nil
   | [k],e=>rw [show vs.length=1 from e];exact List.pairwise_singleton _ _
   | _::_::_,e=>rw [hsz,e] at h2;simp at h2;omega)
  rw [← e] at this
  exact this
 ·rw [if_neg h2,if_neg h2]
  have h2':2<=vs.length:=by rw [← hsz];omega
  obtain ⟨fs,t1,t2,t3⟩:=pk hv'
  refine wpAny_bind (kat_kind (T:=.type "int") t1 (by omega) (λv hm=>?_) (by decide) ?_)
  ·obtain ⟨n,t,rfl⟩:=t3 v hm
   exact Looks.of_pure rfl
  refine wpAny_bind (wpAny_mono (kat_run (Q:=λst' s'=>∃p:Array Nat,p.size=vs.length/\arrOf st'=p.map (kas_item (vs.toArray.zip vs.toArray))/\failedOf st'=none/\(s'={s with heap:=((s.heap.update a (Obj.mapSeq λ_=> #[])).push (seqObj "tuple" vs.toArray 0)).push (seqObj "list" #[] 0)}/\PI vs.length p/\dR (λi=>ks.getD i 0) p vs.length))
   (G:=λp s'=>s'={s with heap:=((s.heap.update a (Obj.mapSeq λ_=> #[])).push (seqObj "tuple" vs.toArray 0)).push (seqObj "list" #[] 0)}/\PI vs.length p/\dR (λi=>ks.getD i 0) p vs.length)
   rfl h2' h64 (λp' st' s' a1 a2 a3 a4=>⟨p',a1,a2,a3,a4⟩) (lD (n:=vs.length) (k:=λi=>ks.getD i 0) (λi j C hi hj hC=>lg (s:={s with heap:=((s.heap.update a (Obj.mapSeq λ_=> #[])).push (seqObj "tuple" vs.toArray 0)).push (seqObj "list" #[] 0)}) hv' nd i j C hi hj hC) _ (xC h2' (λi j hi hj q=>?_) (λi j hij hj=>lC asc i j hij (by omega)) λp q1 q2=>⟨rfl,q1,q2⟩))) ?_ λ_ _ e=>e)
  ·exact rn nd (by omega) (by omega) q
  rintro ⟨⟨⟩,st'⟩ s' ⟨p,hp,har,hf,rfl,hI,hS⟩
  dsimp only
  have hout:=kat_snds (ks:=vs) (vs:=vs) rfl har
  rw [hout]
  refine wpAny_bind (seqEpoch_at ho6 rfl ?_)
  refine wpAny_bind (listUpdate_at ho6 rfl ?_ (hsz2:=by rw [List.size_toArray,List.length_map,Array.length_toList,hp,sizeLine_eq];omega))
  rw [hf]
  simp only [bne_self_eq_false,Bool.false_eq_true,if_false]
  exact wpAny_pure (h p.toList hI.perm (sU hp hS))
theorem lR {l:Addr}{ks:List Int}{Q:Value->Shared->Prop}(hl:s.heap.IsList l vs.toArray)(hv:Paired (cE s.heap) vs ks)(nd:ks.Nodup)(asc:ks.dropLast.Pairwise (· <=·))(h64:vs.length < 64)
 (h:∀q:List Nat,q.Perm (List.range vs.length)->(q.map λi=>ks.getD i 0).Pairwise (· <=·)->Q (.ref (s.heap.objs.size + 1)) {s with heap:=sortedAll s.heap vs (q.map λi=>vs.getD i Value.none).toArray}):
 wpAny (model prog w) A (call (.builtin "sorted") [.ref l]) Q E s:=by
 refine Calls.call_function_entry kind_sorted plain_sorted entry_sorted (args_sorted1 _) ?_
 unfold Builtin.«sorted»
 refine wpAny_bind (m:=checkCount "sorted" 1 1 _) (wpAny_pure ?_)
 refine wpAny_bind (collect_list hl ?_ (by rw [sizeLine_eq];omega))
 refine wpAny_bind (wpAny_newList ?_ (by rw [sizeLine_eq];omega))
 have hsz:((s.heap.push (seqObj "list" #[] 0)).update s.heap.objs.size (Obj.mapSeq (· ++vs.toArray))).objs.size=s.heap.objs.size + 1:=by
  rw [Heap.size_update,size_push']
 have hoL:(((s.heap.push (seqObj "list" #[] 0)).update s.heap.objs.size (Obj.mapSeq (· ++vs.toArray))).push (seqObj "list" vs.toArray 0)).get? (s.heap.objs.size + 1)=some (seqObj "list" vs.toArray 0):=by
  rw [← hsz];exact Heap.get?_push_size _ rfl
 have keep:∀b o,s.heap.get? b=some o->(((s.heap.push (seqObj "list" #[] 0)).update s.heap.objs.size (Obj.mapSeq (· ++vs.toArray))).push (seqObj "list" vs.toArray 0)).get? b=some o:=λb o q=>by
  have hlt:b < s.heap.objs.size:=Heap.lt_size q
  rw [Heap.get?_push_ne _ _ _ (by rw [hsz];exact Nat.ne_of_lt (Nat.lt_succ_of_lt hlt)),Heap.get?_update_ne _ _ _ _ (Nat.ne_of_lt hlt),Heap.get?_push_ne _ _ _ (Nat.ne_of_lt hlt)]
  exact q
 show wpAny _ _ _ _ _ {s with heap:=((s.heap.push (seqObj "list" #[] 0)).update s.heap.objs.size (Obj.mapSeq (· ++vs.toArray))).push (seqObj "list" vs.toArray 0)}
 rw [hsz]
 refine wpAny_bind (wpAny_holding (wpAny_call_entry slot_list_sort ⟨_,hoL,rfl⟩ entry_list_sort (jW (s:={s with heap:=((s.heap.push (seqObj "list" #[] 0)).update s.heap.objs.size (Obj.mapSeq (· ++vs.toArray))).push (seqObj "list" vs.toArray 0)}) hoL (jY (λb o q _=>keep b o q) hv) nd asc h64 λq a1 a2=>⟨_,rfl,?_⟩) (args_list_sort _)))
 exact wpAny_pure ⟨_,rfl,h q a1 a2⟩
end
end Fc
namespace Fc
open PySem L2 PyProof.Rows
section
variable {X:Cx}{Γ Γ1:Ga}
theorem pK {vs:List V}{us:List Value}(r:Vals vs us):∀i,i < vs.length->RelV (vs.getD i (.int 0)) (us.getD i .none):=by
 induction r with
 | nil=>intro i h;cases h
 | cons a _ ih=>
   intro i hi
   cases i with
   | zero=>exact a
   | succ i=>exact ih i (by simpa using hi)
theorem kM {vs:List V}{us:List Value}(r:Vals vs us):∀q:List Nat,(∀i∈q,i < vs.length)->Vals (q.map λi=>vs.getD i (.int 0)) (q.map λi=>us.getD i .none)
 | [],_=>.nil
 | i::q,h=>.cons (pK r i (h i List.mem_cons_self)) (kM r q λj hj=>h j (List.mem_cons_of_mem _ hj))
theorem lA:dg X (.builtin "sorted") (λxs H Q=>∃(p:Addr) (vs:List V) (D:List (Int×Int)) (R:Hp),xs=[.ref p]/\bz X.K H p vs/\aw R H/\bE R vs (aZ D)/\(D.map (·.1)).Nodup/\(D.map (·.1)).dropLast.Pairwise (· <=·)/\D.length < 64/\∀q:List Nat,q.Perm (List.range D.length)->(q.map λi=>(D.map (·.1)).getD i 0).Pairwise (· <=·)->∀d,H d=none->Q (.ref d) (upd H d (.lst (q.map λi=>vs.getD i (.int 0))))):=by
 intro pins s σ H xs us Q I r h
 obtain ⟨p,vs,D,R,rfl,hq,sR,pp,nd,asc,h64,q⟩:=h
 obtain ⟨u,rfl,rx⟩:=vals1 r
 cases rx
 obtain ⟨its,r',pl,hz⟩:=I.list hq
 have hlv:vs.length=D.length:=by rw [pp.pair.length,List.length_map]
 have hl:its.length=D.length:=by rw [← r'.length,hlv]
 have hP:Paired (cE s.heap) its (D.map (·.1)):=by
  have key:∀{vs:List V} {D:List (Int×Int)} {its:List Value},bE R vs (aZ D)->Vals vs its->Paired (cE s.heap) its (D.map (·.1)):=by
   intro vs D
   induction D generalizing vs with
   | nil=>intro its h1 h2;cases h1;cases h2;exact .nil
   | cons e D ih=>
     intro its h1 h2
     cases h1 with
     | cons a1 t1=>
       cases h2 with
       | cons a2 t2=>
         refine .cons ?_ (ih t1 t2)
         cases a1 with
         | @tup a us _ ha hu=>
           obtain rfl:_=Value.ref a:=a2
           obtain ⟨ys,ry,tp,_⟩:=I.tuple (bL.of (K:=X.K) (sR _ _ ha))
           cases hu with
           | cons h1 t1=>cases t1 with
             | cons h2 t2=>
               cases t2;cases h1;cases h2
               obtain ⟨u1,u2,rfl,w1,w2⟩:=vals2 ry
               obtain ⟨t1,rfl⟩:=w1
               obtain ⟨t2,rfl⟩:=w2
               obtain ⟨o,ho,hc,n,hd⟩:=tp
               exact ⟨a,o,n,t1,_,t2,rfl,ho,hc,hd⟩
  exact key pp r'
 refine lR pl.isList hP nd asc (by rw [hl];exact h64) λp q1 q2=>?_
 rw [hl] at q1
 obtain ⟨e,he⟩:=sortedAll_at s.heap its (p.map λi=>its.getD i Value.none).toArray
 have hn:H (s.heap.objs.size + 1)=none:=I.hok.fresh (Nat.le_succ _)
 have hml:(p.map λi=>vs.getD i (.int 0)).length=D.length:=by rw [List.length_map,q1.length_eq,List.length_range]
 exact ⟨.ref _,_,I.laid (a:=s.heap.objs.size + 1) (o:=.lst (p.map λi=>vs.getD i (.int 0))) (t':=s.toks) (λb o=>sortedAll_old) (Nat.le_succ _) ⟨by rw [hml];exact Nat.le_trans (Nat.le_of_lt h64) (by decide),_,e,kM r' p (λi hi=>by rw [hlv];exact List.mem_range.mp (q1.mem_iff.mp hi)),he⟩,rfl,q p q1 q2 _ hn⟩
end
end Fc
namespace K1
open PySem L2 Fc
open PySem.Spec hiding Row
open PyProof.Rows hiding St
section
variable {D:List (Int×Int)}
theorem An (nd:(ks D).Nodup){p:Int×Int}(h:p∈D):dG D p.1=some p.2:=by
 induction D with
 | nil=>cases h
 | cons e D ih=>
   obtain ⟨a,b⟩:=e
   have nd':=List.nodup_cons.mp nd
   rcases List.mem_cons.mp h with rfl | h
   ·rw [dG,if_pos rfl]
   ·rw [dG,if_neg λz=>nd'.1 (by show a∈ks D;rw [z];exact List.mem_map.mpr ⟨p,h,rfl⟩)]
    exact ih nd'.2 h
theorem pE (nd:(ks D).Nodup){q:List Nat}(q1:q.Perm (List.range D.length))(q2:(q.map λi=>(ks D).getD i 0).Pairwise (· <=·)):(q.map λi=>D.getD i (0,0))=bh D:=by
 have hin:∀i∈q,i < D.length:=λi hi=>List.mem_range.mp (q1.mem_iff.mp hi)
 have hk:ks (q.map λi=>D.getD i (0,0))=q.map λi=>(ks D).getD i 0:=by
  unfold ks
  rw [List.map_map]
  refine List.map_congr_left λi hi=>?_
  have:=hin i hi
  simp [this]
 have hp:(q.map λi=>D.getD i (0,0)).Perm D:=by
  have e:((List.range D.length).map λi=>D.getD i (0,0))=D:=by
   apply List.ext_getElem
   ·simp
   ·intro i h1 h2
    simp [h2]
  exact (q1.map _).trans (by rw [e])
 have hs:ks (q.map λi=>D.getD i (0,0))=sortI (ks D):=by
  refine jf (hp.map _) ?_
  show (ks (q.map λi=>D.getD i (0,0))).Pairwise (· <=·)
  rw [hk];exact q2
 have:∀L:List (Int×Int),(∀p∈L,p∈D)->L=(ks L).map λk=>(k,(dG D k).getD 0):=by
  intro L
  induction L with
  | nil=>intro _;rfl
  | cons e L ih=>
    intro h
    show e::L=_
    rw [show ks (e::L)=e.1::ks L from rfl,List.map_cons,An nd (h e List.mem_cons_self)]
    rw [← ih λp hp=>h p (List.mem_cons_of_mem _ hp)]
    rfl
 rw [this _ λp hp'=>hp.mem_iff.mp hp',hs]
 rfl
theorem sI {R:Hp}{vs:List V}(h:bE R vs (aZ D)):∀i,i < D.length->cb R (vs.getD i (.int 0)) (tupI [(D.getD i (0,0)).1,(D.getD i (0,0)).2]):=by
 induction D generalizing vs with
 | nil=>intro i hi;cases hi
 | cons e D ih=>
   intro i hi
   cases h with
   | cons a t=>
     cases i with
     | zero=>exact a
     | succ i=>exact ih t i (by simpa using hi)
theorem mH {R:Hp}{vs:List V}{D:List (Int×Int)}(h:bE R vs (aZ D)):∀q:List Nat,(∀i∈q,i < D.length)->Paired (λv x=>cb R v x) (q.map λi=>vs.getD i (.int 0)) (aZ (q.map λi=>D.getD i (0,0)))
 | [],_=>.nil
 | i::q,hq=>.cons (sI h i (hq i List.mem_cons_self)) (mH h q λj hj=>hq j (List.mem_cons_of_mem _ hj))
end
section
variable {X:Cx}{Γ Γ1:Ga}
theorem mP {a:Expr}{p pos:Pos}{D:List (Int×Int)}(hm:X.mg "sorted"=none)(ha:EV X a Γ (ak aj) (aZ D) Γ1)(nd:(ks D).Nodup)(asc:(ks D).dropLast.Pairwise (· <=·))(h64:D.length < 64)(hs:starEach [a] X.env=[(false,eval a X.env)]:=by rfl)(hg:Gl X "sorted":=by rfl):bb X (.Call (.Name "sorted" p) [a] [] pos) Γ aj (aZ (bh D)) Γ1:=by
 intro σ H0 R0 H R E Q q
 refine eS (cG lA hg hm PyProof.Rows.boot_sorted (aH aN br hs) (by decide) (by decide) hs) (ha σ H0 R0 H R E _ λv H1 R1 E1 s1 e1=>?_)
 obtain ⟨p,vs,rfl,hp,pp,z⟩:=e1
 refine ⟨p,vs,D,R1,rfl,bz.of (E1.sub _ _ hp),E1.sub,.of pp,nd,asc,h64,λl q1 q2 d hd=>?_⟩
 have hpp:=mH (.of pp) l λi hi=>List.mem_range.mp (q1.mem_iff.mp hi)
 have e:=pE nd q1 q2
 rw [e] at hpp
 exact q d _ _ R1 (E1.grow (Ext.cS E1.sub hd _)) s1 aF (E1.sub.free hd) (E1.ext.h.free hd) (E1.off hd) hpp (by
  rw [← e,List.length_map,List.length_map,q1.length_eq,List.length_range]
  exact Nat.le_trans (Nat.le_of_lt h64) (by decide))
end
section
variable {D:List (Int×Int)}{b:Int}{K:PySem.W.Frag}{R:Hp}
theorem sk (nd:(ks D).Nodup):((D.filter λp=>decide (p.1=b)).map (·.2)).sum=(dG D b).getD 0:=by
 induction D with
 | nil=>rfl
 | cons e D ih=>
   obtain ⟨a,n⟩:=e
   have nd':=List.nodup_cons.mp nd
   by_cases q:a=b
   ·subst q
    rw [List.filter_cons_of_pos (by simp),dG,if_pos rfl]
    have:(D.filter λp=>decide (p.1=a))=[]:=by
     rw [List.filter_eq_nil_iff]
     intro p hp w
     exact nd'.1 (by rw [← of_decide_eq_true w];exact List.mem_map.mpr ⟨p,hp,rfl⟩)
    rw [this]
    simp
   ·rw [List.filter_cons_of_neg (by simpa using q),dG,if_neg q]
    exact ih nd'.2
theorem h9:ks (D.filter λp=> !decide (p.1=b))=(ks D).filter λk=> !decide (k=b):=by
 unfold ks
 rw [List.filter_map];rfl
theorem qE {k:Int}(h:b≠k):dG (D.filter λp=> !decide (p.1=b)) k=dG D k:=by
 induction D with
 | nil=>rfl
 | cons e D ih=>
   obtain ⟨a,n⟩:=e
   by_cases q:a=b
   ·subst q
    rw [List.filter_cons_of_neg (by simp),dG,if_neg h];exact ih
   ·rw [List.filter_cons_of_pos (by simpa using q),dG,dG,ih]
theorem k9:b∉ks (D.filter λp=> !decide (p.1=b)):=by
 rw [h9]
 intro h
 have:=(List.mem_filter.mp h).2
 simp at this
abbrev hW (D:List (Int×Int))(b:Int):List (Int×Int):=(D.filter λp=> !decide (p.1=b))++[(b,1 + (dG D b).getD 0)]
theorem nE:ks (hW D b)=ks (D.filter λp=> !decide (p.1=b))++[b]:=by
 unfold hW ks
 rw [List.map_append];rfl
theorem nz (nd:(ks D).Nodup):(ks (hW D b)).Nodup:=by
 rw [nE]
 refine List.nodup_append.mpr ⟨?_,by simp,λx hx y hy e=>?_⟩
 ·rw [h9];exact nd.filter _
 ·rw [List.mem_singleton.mp hy] at e
  exact k9 (e▸hx)
theorem tF (hs:bh D=D):(ks (hW D b)).dropLast.Pairwise (· <=·):=by
 rw [nE,List.dropLast_concat,h9]
 have e:ks D=sortI (ks D):=by
  have:=lN (D:=D)
  rw [hs] at this;exact this
 have h:(ks D).Pairwise (· <=·):=by
  rw [e]
  have:=List.pairwise_mergeSort (le:=λ(a b:Int)=>decide (a<=b)) (by intro a b c;simp;omega) (by intro a b;simp;omega) (ks D)
  exact this.imp λh=>by simpa using h
 exact h.filter _
theorem pO (nd:(ks D).Nodup):bh (hW D b)=bh (dP b ((dG D b).getD 0 + 1) D):=by
 refine iY (nz nd) (lq nd) λk=>?_
 unfold hW
 rw [qh k9,n9]
 by_cases q:b=k
 ·rw [if_pos q,if_pos q,Int.add_comm]
 ·rw [if_neg q,if_neg q,qE q]
def uy:Rep (Int×Int):=⟨λ_ H v x=>cb H v (tupI [x.1,x.2]),λs h=>h.mono s⟩
theorem pH {v:V}(h:(ak aj).R K R v (aZ D)):(ak uy).R K R v D:=by
 obtain ⟨a,vs,e,ha,pp,z⟩:=h
 refine ⟨a,vs,e,ha,?_,by rw [List.length_map] at z;exact z⟩
 have:∀{vs:List V} {D:List (Int×Int)},Paired (aj.R K R) vs (aZ D)->Paired (uy.R K R) vs D:=by
  intro vs D
  induction D generalizing vs with
  | nil=>intro h;cases h;exact .nil
  | cons p D ih=>
    intro h
    cases h with
    | cons a t=>exact .cons a (ih t)
 exact this pp
theorem uW {v:V}{x:Int×Int}(h:uy.R K R v x):(gK ag ag).R K R v x:=by
 obtain ⟨a,vs,rfl,ha,pp⟩:=ig (K:=K) h
 obtain ⟨v1,t1,rfl,g1,pp⟩:=cC pp
 obtain ⟨v2,t2,rfl,g2,pp⟩:=cC pp
 cases pp;cases g1;cases g2
 exact ⟨a,_,_,rfl,ha,rfl,rfl⟩
theorem rM {v:V}(h:(ak aj).R K R v (aZ D)):(ak (gK ag ag)).R K R v D:=by
 obtain ⟨a,vs,e,ha,pp,z⟩:=pH h
 exact ⟨a,vs,e,ha,Paired.map (λ_ _ h=>uW h) pp,z⟩
end
section
variable {P:Program}{w:World}{K:PySem.W.Frag}{mg:Str->Option Value}{base:Heap}{f:Addr}{fd:FuncData}{C:Addr}
abbrev nA:Stmt:=top mR
abbrev wJ:List Str:=["_law_boxes","_law_box_here","_law_held"]
theorem zi:aU wJ ["_law_boxes","_law_box_here"] (aq nA):=⟨rfl,rfl,rfl,by decide +kernel,rfl,by decide +kernel,by decide +kernel⟩
theorem Ax (M:bZ K mg)(F:bX K "_law_box" "_law_box" nA f fd)(hm:mg "_law_box"=some (.ref f))(hb:Binds K fd ["_law_boxes","_law_box_here"] []):aV P w K mg base "_law_box" 1 (bg Bd K):=by
 have nd:=zi.nd
 have nd2:List.Nodup [("_law_one":Str),"_law_many","_law_box_here"]:=by decide
 have nd3:List.Nodup [("_law_pair":Str),"_law_box_here"]:=by decide
 refine cN F zi hm hb (λqs T ⟨_,_,e,_⟩=>by rw [e];rfl) (λcdv A outer s H E qs T hr hS=>?_)
 obtain ⟨D,b,rfl,hl,hnd,hso,rfl⟩:=hS
 change WS _ _ [.im (ak aj) (aZ D),.im ag b,.no] _ _
 refine ai (mO 2 (own:=["_law_one","_law_many"]) (fr:=["_law_box_here"]) (ix:=[1]) (ra:=gK ag ag) (rb:=ag) (xs:=D) (p:=λq=>decide (q.1=b)) (f:=λq=>q.2) (cR (so:=aq nA) (N0:=wJ) rfl rfl (λx h=>cx h) (by decide +kernel)) (dE (EV.re (aa 0 rfl) λK R v h=>rM h))
  (λC s H ex=>kg 0 1) (λx=>⟨.inr rfl,.inr rfl,.inl rfl,trivial⟩) (λC s H ex x hx=>mx (ao eu (aa 0 rfl) (aa 2 rfl))) (λC s H ex x hx hf=>aa 1 rfl) ?_)
 have big:(100:Nat)<=sizeLine:=by decide
 change WS _ _ [.im (ak aj) (aZ D),.im ag b,.mu ag ((D.filter λq=>decide (q.1=b)).map λq=>q.2)] _ _
 refine WS.freeze 2 rfl (by rw [List.length_map];exact Nat.le_trans (Nat.le_trans (List.length_filter_le _ _) (by omega)) big) ?_
 change WS _ _ [.im (ak aj) (aZ D),.im ag b,.im (ak ag) ((D.filter λq=>decide (q.1=b)).map λq=>q.2)] _ _
 have hfl:(D.filter λp=> !decide (p.1=b)).length < 62:=Nat.lt_of_le_of_lt (List.length_filter_le _ _) hl
 refine ay (bB (EV.pL (bb.im (mP (D:=hW D b) M.sorted (EV.cast (bb.im (du (bb.im (eF (own:=["_law_pair"]) (fr:=["_law_box_here"]) (ix:=[1]) (ra:=uy) (rb:=aj) (xs:=D) (p:=λq=> !decide (q.1=b)) (f:=λq=>tupI [q.1,q.2]) (cR (so:=aq nA) (N0:=wJ) rfl rfl (λx h=>cx h) (by decide +kernel)) (dE (EV.re (aa 0 rfl) λK R v h=>pH h))
  (λC s H ex=>cF 0) (λx=>⟨.inr rfl,.inl rfl,trivial⟩) (λC s H ex x hx=>mx (ao sN (EV.iP (n:=x.1) (az (EV.re (r':=aj) (y:=tupI [x.1,x.2]) (aa 0 rfl) λK R v h=>h) ae rfl)) (aa 1 rfl))) (λC s H ex x hx hf=>EV.re (r':=aj) (y:=tupI [x.1,x.2]) (aa 0 rfl) λK R v h=>h)))
  (bb.im (aY (ah (aR (ah (EV.pI (aa 1 rfl)) (ah (EV.pI (bW ae (xQ M.sum (aa 2 rfl)))) aA)) (by show 2<=sizeLine;decide)) aA) (by show 1<=sizeLine;decide))) (by
   show _ + 1<=sizeLine
   rw [List.length_map]
   have:(100:Nat)<=sizeLine:=by decide
   omega))) ?_) (nz hnd) (tF hso) (by
   unfold hW
   rw [List.length_append]
   show _ + 1 < 64
   omega)))) ?_)
 ·rw [sk hnd]
  show _=aZ ((D.filter λp=> !decide (p.1=b))++[(b,1 + (dG D b).getD 0)])
  unfold aZ
  rw [List.map_append];rfl
 ·show PV.lst _=PV.lst _
  rw [pO hnd]
end
def jw (H0 R:Hp)(v:V):PV->Prop
 | .lst ys=>∃a us,v= .ref a/\H0 a=none/\R a=some (.lst us)/\bE R us ys
 | y=>cb R v y
theorem jw.mono {H0 R R':Hp}{v:V}(s:aw R R'):∀{x:PV},jw H0 R v x->jw H0 R' v x
 | .lst ys,⟨a,us,h1,h2,h3,h4⟩=>⟨a,us,h1,h2,s _ _ h3,h4.mono s⟩
 | .non,h=>cb.mono s h
 | .bl _,h=>cb.mono s h
 | .int _,h=>cb.mono s h
 | .str _,h=>cb.mono s h
 | .tup _,h=>cb.mono s h
def wI:V->PV->List Addr
 | .ref a,.lst _=>[a]
 | _,_=>[]
def fP:List V->List PV->List Addr
 | v::vs,x::xs=>wI v x++fP vs xs
 | _,_=>[]
theorem qT {F:V->PV->Prop}{vs:List V}{xs:List PV}(h:PySem.Paired F vs xs)(v:V)(x:PV):fP (vs++[v]) (xs++[x])=fP vs xs++wI v x:=by
 induction h with
 | nil=>simp [fP]
 | cons _ _ ih=>rw [List.cons_append,List.cons_append,fP,fP,ih,List.append_assoc]
theorem tD {H0 R:Hp}{vs:List V}{xs:List PV}(h:PySem.Paired (jw H0 R) vs xs):∀b∈fP vs xs,R b≠none:=by
 induction h with
 | nil=>intro b hb;cases hb
 | @cons v x vs xs a t ih=>
   intro b hb
   rw [fP] at hb
   rcases List.mem_append.mp hb with hb | hb
   ·cases x<;>cases v<;>first | (cases hb;done) | skip
    rename_i p ys
    obtain ⟨a',us,e,_,h,_⟩:=a
    cases e
    rw [List.mem_singleton.mp hb,h]
    exact Option.some_ne_none _
   ·exact ih b hb
section
variable {X:Cx}{Γ Γ1:Ga}{N:Ga->Prop}{T:RT}
variable {pos:Pos}{tg iter:Expr}
theorem vA {xs:List PV}(hz:xs.length<=sizeLine)(h:EV X iter Γ aj (.tup xs) Γ1):IV X tg iter Γ aj xs Γ1:=by
 refine ⟨_,xK aN,λσ H0 R0 H R E Rq q=>h σ H0 R0 H R E _ λv H1 R1 E1 s1 e1=>?_⟩
 obtain ⟨a,vs,rfl,ha,pp⟩:=ig e1
 have pp':=pp.pair
 refine ⟨a,rfl,⟨vs,bL.of (E1.sub _ _ ha)⟩,q _ H1 R1 E1 s1 hz λH' R' sR sH i=>⟨λx hx=>?_,λhi=>?_⟩⟩
 ·have hq:bL X.K H' a vs:=bL.of (sH _ _ (sR _ _ ha))
  obtain ⟨v,hv,hr⟩:=cT pp' hx
  refine ⟨⟨vs,v,hq,hv⟩,λv' H2 hy=>?_⟩
  obtain ⟨rfl,hy⟩:=hy
  have:=hy vs hq
  rw [hv] at this
  cases this
  exact ⟨R',Ext.refl sH,cb.mono sR hr⟩
 ·exact ⟨vs,bL.of (sH _ _ (sR _ _ ha)),by rw [pp'.length];exact hi⟩
def CE (X:Cx)(elt:Expr)(Γ:Ga)(x:PV):Prop:=∀(σ:St) (H0 R0 H R:Hp),av X.K σ H0 R0 H R Γ->∀Q:VK,(∀v H2 R2,av X.K σ H0 R0 H2 R2 Γ->aw R R2->jw H0 R2 v x->(∀a∈wI v x,R a=none)->Q v H2)->cQ X elt σ H Q
theorem xl {c a b:Expr}{n:Int}(h1:TV X c Γ false Γ)(h2:EV X b Γ aj (.int n) Γ):CE X (.IfExp c a b pos) Γ (.int n):=λσ H0 R0 H R E Q q=>by
 refine eS (jd iA aN aN) (h1 σ H0 R0 H R E _ λH1 R1 E1 s1=>gJ ?_)
 exact h2 σ H0 R0 H1 R1 E1 _ λv H2 R2 E2 s2 e2=>q v H2 R2 E2 (s1.trans s2) e2 (by intro a ha;cases v<;>cases ha)
theorem yY {c a b:Expr}{ys:List PV}(h1:TV X c Γ true Γ)(h2:bb X a Γ aj ys Γ):CE X (.IfExp c a b pos) Γ (.lst ys):=λσ H0 R0 H R E Q q=>by
 refine eS (jd iA aN aN) (h1 σ H0 R0 H R E _ λH1 R1 E1 s1=>gE ?_)
 refine h2 σ H0 R0 H1 R1 E1 _ λa vs H2 R2 E2 s2 ha hR h0 off pp z=>?_
 have s3:aw R2 (upd R2 a (.lst vs)):=aw.fresh hR _
 refine q (.ref a) H2 (upd R2 a (.lst vs)) (E2.gG ha hR h0 off) (s1.trans (s2.trans s3)) ⟨a,vs,rfl,h0,aF,.of (Paired.map (λ_ _ h=>cb.mono s3 h) pp)⟩ λb hb=>?_
 have hb:b∈[a]:=hb
 rw [List.mem_singleton.mp hb]
 cases eR:R a with
 | none=>rfl
 | some o=>rw [s2 _ _ (s1 _ _ eR)] at hR;cases hR
theorem rm {elt:Expr}{scope:Scope}{cl:List (Str×Addr)}{own fr:List Str}{ix:List Nat}{xs:List PV}{bf:PV->Ga->Ga}
 (S:cz X scope cl own fr ix) (hit:IV X tg iter Γ aj xs Γ1)
 (hb:∀(C:Addr) (s:Shared) (H:Hp) (ex:List Addr),BG (aL X scope cl C (own++fr) s H ex) tg aj bf) (hw:∀x,Wk (bf x (bQ own ix Γ1)) (bQ own ix Γ1))
 (he:∀(C:Addr) (s:Shared) (H:Hp) (ex:List Addr) x,x∈xs->CE (aL X scope cl C (own++fr) s H ex) elt (bf x (bQ own ix Γ1)) x)
 {σ:St} {H0 R0 H R:Hp} {Q:VK} (E:av X.K σ H0 R0 H R Γ) (q:∀H1 R1 H' R' a vs,av X.K σ H0 R0 H1 R1 Γ1->Ext H1 R1 H' R'->PySem.Paired (jw H1 R') vs xs->(fP vs xs).Nodup->H' a=none->Q (.ref a) (upd H' a (.lst vs)))
 (hc:X.calm=true) (hs:∀x,foldedSetIterable iter X.env x=pure x):cQ X (.ListComp elt [⟨tg,iter,[],0⟩] scope pos) σ H Q:=by
 obtain ⟨wi,hi,hit⟩:=hit
 refine eS (kG (g:=λv σ H Q=>∀C s Hh ex,gb (aL X scope cl C (own++fr) s Hh ex) tg v σ H Q) (tc:=λσ H Q=>∀C s Hh ex,gD (aL X scope cl C (own++fr) s Hh ex) [] σ H Q) (te:=λσ H Q=>∀C s Hh ex,cQ (aL X scope cl C (own++fr) s Hh ex) elt σ H Q) hc S hi
  (λC s H ex=>⟨λpins s1 σ H v u Q I r h=>h C s _ ex pins s1 u I r,λpins s1 σ H Q I h=>h C s _ ex pins s1 I,λpins s1 σ H Q I h=>h C s _ ex pins s1 I⟩) hs) ?_
 refine hit σ H0 R0 H R E _ λJ H1 R1 E1 s1 hz src=>?_
 refine ⟨λi m ys σ' H'=>m=xs.length - i/\i<=xs.length/\∃R',av X.K σ' H1 R1 H' R' (bQ own ix Γ1)/\PySem.Paired (jw H1 R') ys (xs.take i)/\(fP ys (xs.take i)).Nodup,⟨_,rfl,Nat.zero_le _,R1,gR E1 own ix,.nil,List.nodup_nil⟩,?_⟩
 rintro i m ys σ' H' ⟨rfl,hle,R',E',pp,nd⟩
 have hys:ys.length<=sizeLine:=by
  rw [pp.length,List.length_take]
  exact Nat.le_trans (Nat.min_le_right _ _) hz
 obtain ⟨sgo,sstop⟩:=src H' R' E'.ext.r E'.sub i
 refine ⟨hys,?_⟩
 by_cases hlt:i < xs.length
 ·obtain ⟨go,yl⟩:=sgo _ (List.getElem?_eq_getElem hlt)
  have hmem:xs[i]∈xs:=List.getElem_mem hlt
  have tk:(xs.take (i + 1))=xs.take i++[xs[i]]:=by rw [List.take_succ,List.getElem?_eq_getElem hlt];rfl
  refine .inr ⟨go,λv H2 hy C s Hh ex=>?_⟩
  obtain ⟨R2,x2,hr⟩:=yl v H2 hy
  refine hb C s Hh ex σ' H1 R1 H2 R2 _ v _ (E'.grow x2) hr _ λσ2 E2=>?_
  intro C s Hh ex
  refine (ej (X:=aL X scope cl C (own++fr) s Hh ex)) σ2 H1 R1 H2 R2 E2 _ λH4 R4 E4 s4=>?_
  rw [if_pos rfl]
  intro C s Hh ex
  refine he C s Hh ex _ hmem σ2 H1 R1 H4 R4 E4 _ λw H5 R5 E5 s5 c5 n5=>?_
  refine ⟨xs.length - (i + 1),by omega,rfl,hlt,R5,E5.weak (hw _),?_,?_⟩
  ·rw [tk]
   exact bN (Paired.map (λ_ _ h=>h.mono (x2.r.trans (s4.trans s5))) pp) (.cons c5 .nil)
  ·rw [tk,qT pp]
   refine List.nodup_append.mpr ⟨nd,?_,λa ha b hb' e=>?_⟩
   ·generalize xs[i]=y
    cases y<;>cases w<;>first | exact List.nodup_nil | exact List.nodup_cons.mpr ⟨List.not_mem_nil,List.nodup_nil⟩
   ·have h1:=tD (Paired.map (λ_ _ h=>h.mono (x2.r.trans s4)) pp:PySem.Paired (jw H1 R4) ys (xs.take i)) a ha
    exact h1 (e▸n5 b hb')
 ·have e:i=xs.length:=by omega
  subst e
  rw [List.take_length] at pp nd
  exact .inl ⟨sstop (Nat.le_refl _),λa ha=>q H1 R1 H' R' a ys E1 E'.ext pp nd ha⟩
def AM (m:ba):RT:=λH0 v _ R'=>∃p af ab at_ ar vf vb vt,v= .ref p/\SC H0 R' m p af ab at_ ar vf vb vt
theorem As {H0 R:Hp}{m:ba}{vs:List V}{l:Addr}(h:PySem.Paired (jw H0 R) vs (aX m))(nd:(fP vs (aX m)).Nodup)(hl:H0 l=none)(hR:R l=some (.tup vs)):∃af ab at_ ar vf vb vt,SC H0 R m l af ab at_ ar vf vb vt:=by
 unfold aX at h nd
 cases h with | cons h1 t=>cases t with | cons h2 t=>cases t with | cons h3 t=>cases t with | cons h4 t=>cases t with | cons h5 t=>cases t with | cons h6 t=>cases t with | cons h7 t=>cases t with | cons h8 t=>
 cases t
 obtain ⟨af,vf,rfl,f1,f2,f3⟩:=h2
 obtain ⟨ab,vb,rfl,b1,b2,b3⟩:=h3
 obtain ⟨at_,vt,rfl,t1,t2,t3⟩:=h4
 obtain ⟨ar,vr,rfl,r1,r2,r3⟩:=h6
 have e1:=h1
 cases e1
 have e5:=h5
 cases e5
 have e7:=h7
 cases e7
 have e8:=h8
 cases e8
 have er:=jq r3
 subst er
 refine ⟨af,ab,at_,ar,vf,vb,vt,λb hb=>?_,nd,hR,f2,b2,t2,r2,f3,b3,t3⟩
 simp only [List.mem_cons,List.not_mem_nil,or_false] at hb
 rcases hb with rfl | rfl | rfl | rfl | rfl
 ·exact hl
 ·exact f1
 ·exact b1
 ·exact t1
 ·exact r1
theorem yb {elt:Expr}{scope:Scope}{p p2 pos2:Pos}{cl:List (Str×Addr)}{own fr:List Str}{ix:List Nat}{m:ba}{bf:PV->Ga->Ga}(hm:X.mg "tuple"=none)
 (S:cz X scope cl own fr ix) (hit:IV X tg iter Γ aj (aX m) Γ1)
 (hb:∀(C:Addr) (s:Shared) (H:Hp) (ex:List Addr),BG (aL X scope cl C (own++fr) s H ex) tg aj bf) (hw:∀x,Wk (bf x (bQ own ix Γ1)) (bQ own ix Γ1))
 (he:∀(C:Addr) (s:Shared) (H:Hp) (ex:List Addr) x,x∈aX m->CE (aL X scope cl C (own++fr) s H ex) elt (bf x (bQ own ix Γ1)) x)
 (hc:X.calm=true:=by rfl) (hs:∀x,foldedSetIterable iter X.env x=pure x:=by intro _;rfl) (hs2:starEach [.ListComp elt [⟨tg,iter,[],0⟩] scope pos] X.env=[(false,eval (.ListComp elt [⟨tg,iter,[],0⟩] scope pos) X.env)]:=by rfl) (hg:Gl X "tuple":=by rfl):
 W1 X (.Return (some (.Call (.Name "tuple" p) [.ListComp elt [⟨tg,iter,[],0⟩] scope pos] [] pos2)) p2) Γ N (AM m):=λσ H0 R0 H R E D dn dr=>by
 refine sS (eA (eW lj hg hm PyProof.Rows.boot_tuple (aH aN br hs2) (by decide) (by decide) hs2)) (rm S hit hb hw he E (λH1 R1 H' R' a vs E1 xx pp nd ha=>?_) hc hs)
 refine ⟨a,vs,rfl,.inl ⟨bz.of aF,λl hl=>?_⟩⟩
 have E2:=E1.grow xx
 have xm:=Ext.cS E2.sub ha (.lst vs)
 have E3:=E2.grow xm
 have x4:=Ext.fresh E3.sub hl (.tup vs)
 have hl':H' l=none:=by
  by_cases e:l=a
  ·rw [e,aF] at hl;cases hl
  ·rw [aE e] at hl;exact hl
 obtain ⟨af,ab,at_,ar,vf,vb,vt,sc⟩:=As (H0:=H1) (R:=upd R' l (.tup vs)) (Paired.map (λ_ _ h=>h.mono x4.r) pp) nd (xx.h.free hl') aF
 exact dr _ _ _ (E3.ext.trans x4) ⟨l,af,ab,at_,ar,vf,vb,vt,rfl,λb hb=>E1.ext.h.free (sc.new b hb),sc.nd,sc.p,sc.f,sc.b,sc.t,sc.r,sc.nf,sc.nb,sc.nt⟩
end
section
variable {P:Program}{w:World}{K:PySem.W.Frag}{mg:Str->Option Value}{base:Heap}{f:Addr}{fd:FuncData}{C:Addr}
abbrev rA:Stmt:=top mf
abbrev AH:List Str:=["_law_state"]
theorem xy:aU AH ["_law_state"] (aq rA):=⟨rfl,rfl,rfl,by decide +kernel,rfl,by decide +kernel,by decide +kernel⟩
def yH:cI:=λK ps T=>∃m:ba,ps=[⟨aj,.tup (aX m)⟩]/\T=AM m
theorem z3 (M:bZ K mg)(F:bX K "_law_copy" "_law_copy" rA f fd)(hm:mg "_law_copy"=some (.ref f))(hb:Binds K fd ["_law_state"] []):aV P w K mg base "_law_copy" 1 (bg yH K):=by
 have nd:=xy.nd
 have nd2:List.Nodup [("_law_part":Str)]:=by decide
 refine cN F xy hm hb (λqs T ⟨_,e,_⟩=>by rw [e];rfl) (λcdv A outer s H E qs T hr hS=>?_)
 obtain ⟨m,rfl,rfl⟩:=hS
 change WS _ _ [.im aj (.tup (aX m))] _ _
 refine ay (yb (own:=["_law_part"]) (fr:=[]) (ix:=[]) M.tuple (cR (so:=aq rA) (N0:=AH) rfl rfl (λx h=>cx h) (by decide +kernel)) (vA (by show 8<=sizeLine;decide) (aa 0 rfl)) (λC s H ex=>cF 0) (λx=>⟨.inr rfl,trivial⟩) (λC s H ex x hx=>?_))
 have key:(∃n,x= .int n)∨∃ys,x= .lst ys:=by
  simp only [aX,List.mem_cons,List.not_mem_nil,or_false] at hx
  rcases hx with rfl | rfl | rfl | rfl | rfl | rfl | rfl | rfl
  ·exact .inl ⟨_,rfl⟩
  ·exact .inr ⟨_,rfl⟩
  ·exact .inr ⟨_,rfl⟩
  ·exact .inr ⟨_,rfl⟩
  ·exact .inl ⟨_,rfl⟩
  ·exact .inr ⟨_,rfl⟩
  ·exact .inl ⟨_,rfl⟩
  ·exact .inl ⟨_,rfl⟩
 rcases key with ⟨n,rfl⟩ | ⟨ys,rfl⟩
 ·exact xl (bA (bV (b:=false) M.isinstance M.list PyProof.Rows.boot_list (EV.iP (n:=n) (aa 0 rfl)) ty_int)) (aa 0 rfl)
 ·exact yY (bA (bV (b:=true) M.isinstance M.list PyProof.Rows.boot_list (aa (r:=aj) (y:=.lst ys) 0 rfl) nP)) (gM (r:=aj) M.list (EV.lP (xs:=ys) (aa 0 rfl)))
end
section
variable {n:Nat}
theorem eL {n:Nat}:∀{xs:List PV},(∀x∈xs,x.deep<=n)->PV.ei xs<=n
 | [],_=>Nat.zero_le _
 | x::xs,h=>by
   rw [PV.ei]
   have h1:=h x List.mem_cons_self
   have h2:=eL (xs:=xs) λy hy=>h y (List.mem_cons_of_mem _ hy)
   omega
theorem rq (ns:List Int):PV.ei (ns.map PV.int)<=0:=eL λx hx=>by
 obtain ⟨n,_,rfl⟩:=List.mem_map.mp hx
 exact Nat.le_refl _
theorem ni (xs:List (Int×Int×Int)):(PV.lst (l3 xs)).deep<=2:=by
 rw [PV.deep]
 have:=eL (n:=1) (xs:=l3 xs) λx hx=>by
  obtain ⟨n,_,rfl⟩:=List.mem_map.mp hx
  exact Nat.le_refl _
 omega
theorem r9 (D:List (Int×Int)):(PV.lst (aZ D)).deep<=2:=by
 rw [PV.deep]
 have:=eL (n:=1) (xs:=aZ D) λx hx=>by
  obtain ⟨n,_,rfl⟩:=List.mem_map.mp hx
  exact Nat.le_refl _
 omega
theorem nJ (ns:List Int):(PV.lst (cD ns)).deep<=1:=by
 rw [PV.deep]
 have:=rq ns
 have e:PV.ei (cD ns)<=0:=this
 omega
theorem v9 (m:ba):(PV.tup (aX m)).deep<=3:=by
 rw [PV.deep]
 have:=eL (n:=2) (xs:=aX m) λx hx=>by
  simp only [aX,List.mem_cons,List.not_mem_nil,or_false] at hx
  rcases hx with rfl | rfl | rfl | rfl | rfl | rfl | rfl | rfl
  ·exact Nat.zero_le _
  ·exact ni _
  ·exact r9 _
  ·exact ni _
  ·exact Nat.zero_le _
  ·exact Nat.le_trans (nJ _) (by decide)
  ·exact Nat.zero_le _
  ·exact Nat.zero_le _
 omega
theorem ql (code:List Ln):(PV.lst (aK code)).deep<=2:=by
 rw [PV.deep]
 have:=eL (n:=1) (xs:=aK code) λx hx=>by
  obtain ⟨l,_,rfl⟩:=List.mem_map.mp hx
  cases l<;>exact Nat.le_refl _
 omega
def cB (n:Nat):List Ln:=List.replicate n (.add 1)++[.back]
def cW (k:Nat):ba:=⟨k,[(-1,k,0)],[],[],0,[],0,k⟩
theorem jl (n:Nat):(cB n).length=n + 1:=by unfold cB;simp
theorem nC {k:Nat}(h:k < n):(cB n).getD k .back= .add 1:=by
 unfold cB
 rw [List.getD_eq_getElem?_getD,List.getElem?_append_left (by simpa using h),List.getElem?_replicate,if_pos h];rfl
theorem sZ:(cB n).getD n .back= .back:=by
 unfold cB
 rw [List.getD_eq_getElem?_getD,List.getElem?_append_right (by simp),List.length_replicate,Nat.sub_self];rfl
theorem gu {n:Nat}:∀k,k<=n->c6 (cB n) [] k=cW k
 | 0,_=>rfl
 | k + 1,h=>by
   rw [c6,gu k (by omega)]
   show eh (cW k) ((cB n).getD k .back) _=_
   rw [nC (by omega)]
   show (⟨(k:Int) + 1,[(-1,(k:Int) + 1,0)],[],[],0,[],0,(k:Int) + 1⟩:ba)=cW (k + 1)
   unfold cW
   rw [Int.natCast_add,Int.natCast_one]
theorem oN {k:Nat}(h:k < n)(h2:k < 1000):aO (cB n) [] 5 (cW k)=none:=by
 have e1:(cW k).at_=(k:Int):=rfl
 have e2:(cW k).idle=(k:Int):=rfl
 unfold aO
 rw [if_neg (by rw [e1,e2,jl];omega)]
 show eB ((cB n).getD k .back) [] 5 (cW k)=none
 rw [nC h];rfl
theorem nV (h:n < 1000):aO (cB n) [] 5 (cW n)=some ("ended":Str):=by
 have e1:(cW n).at_=(n:Int):=rfl
 have e2:(cW n).idle=(n:Int):=rfl
 unfold aO
 rw [if_neg (by rw [e1,e2,jl];omega)]
 show eB ((cB n).getD n .back) [] 5 (cW n)=_
 rw [sZ];rfl
theorem oz:aO (cB n) [] 5 (cW 1000)=some ("astray":Str):=by
 unfold aO
 rw [if_pos (.inr (by decide))]
theorem pB {k:Nat}(h:k<=n):Good (cB n) (cW k):=by
 have e1:(cW k).at_=(k:Int):=rfl
 exact ⟨by rw [e1];omega,by rw [e1,jl];omega,Int.le_refl _,⟨(by decide:(0:Nat) < 100000),(by decide:(1:Nat) < 100000),(by decide:(0:Nat) < 100000),(by decide:(0:Nat) < 100000),by unfold cW;simp⟩,List.nodup_nil,(by decide:(0:Nat) < 60)⟩
theorem uH:dt (cB n):=⟨by unfold cB;simp,λl hl=>by
 unfold cB at hl
 rcases List.mem_append.mp hl with h | h
 ·rw [List.eq_of_mem_replicate h]
  intro q hq
  have hq:q∈([PV.int 1].zip (Ln.add 1).dj):=hq
  rw [show [PV.int 1].zip (Ln.add 1).dj=[(PV.int 1,("any":Str))] from rfl] at hq
  rw [List.mem_singleton.mp hq];rfl
 ·rw [List.mem_singleton.mp h]
  intro q hq
  have hq:q∈([]:List (PV×Str)):=hq
  cases hq⟩
def gO (k:Nat):ba:=⟨0,[(-1,0,0)],[],[],0,[],0,k⟩
theorem ia:∀k,c6 [.jump 0] [] k=gO k
 | 0=>rfl
 | k + 1=>by
   rw [c6,ia k]
   show (⟨0,[(-1,0,0)],[],[],0,[],0,(k:Int) + 1⟩:ba)=gO (k + 1)
   unfold gO
   rw [Int.natCast_add,Int.natCast_one]
theorem qG {k:Nat}(h:k < 1000):aO [.jump 0] [] 5 (gO k)=none:=by
 have e2:(gO k).idle=(k:Int):=rfl
 have e1:(gO k).at_=0:=rfl
 unfold aO
 rw [if_neg (by rw [e1,e2];show¬((0:Int)=((1:Nat):Int)∨_);omega)];rfl
theorem tq:aO [.jump 0] [] 5 (gO 1000)=some ("astray":Str):=by
 unfold aO
 rw [if_pos (.inr (by decide))]
theorem rZ (k:Nat):Good [.jump 0] (gO k):=⟨Int.le_refl _,by show (0:Int)<=((1:Nat):Int);omega,Int.le_refl _,⟨(by decide:(0:Nat) < 100000),(by decide:(1:Nat) < 100000),(by decide:(0:Nat) < 100000),(by decide:(0:Nat) < 100000),by unfold gO;simp⟩,List.nodup_nil,(by decide:(0:Nat) < 60)⟩
theorem wR:dt [.jump 0]:=⟨by simp,λl hl=>by
 rw [List.mem_singleton.mp hl]
 intro q hq
 have hq:q∈([PV.int 0].zip (Ln.jump 0).dj):=hq
 rw [show [PV.int 0].zip (Ln.jump 0).dj=[(PV.int 0,("tuple":Str))] from rfl] at hq
 rw [List.mem_singleton.mp hq];rfl⟩
end
section
variable {P:Program}{w:World}{K:PySem.W.Frag}{mg:Str->Option Value}{base:Heap}{f:Addr}{fd:FuncData}{C:Addr}
abbrev qH:Stmt:=top mJ
abbrev nID:List Str:=["_law_number","_law_many","_law_most","_law_last"]
theorem yN:aU nID ["_law_number"] (aq qH):=⟨rfl,rfl,rfl,by decide +kernel,rfl,by decide +kernel,by decide +kernel⟩
def AZ:cI:=λK ps T=>∃n:Int,ps=[⟨ag,n⟩]/\T=dc K bU (· =true)
abbrev lE (x:Str)(k:Int)(j:Int)(i:Int):PV:=.tup [.str x,.tup [.int k,.lst [.tup [.int (-1),.int j,.int 0]],.lst [],.lst [],.int 0,.lst [],.int 0,.int i]]
theorem je {α:Type}(x:α):∀n:Nat,(List.replicate n [x]).flatten=List.replicate n x
 | 0=>rfl
 | n + 1=>by rw [List.replicate_succ,List.replicate_succ,List.flatten_cons,je x n];rfl
theorem sC (n:Nat):∃(k:Nat) (x:Str),(k:Int)=(if (1000:Int) < n then 1000 else (n:Int))/\k<=n/\k<=1000/\x=(if (n:Int) > 999 then ("astray":Str) else "ended")/\aO (cB n) [] 5 (cW k)=some x:=by
 by_cases h:n < 1000
 ·exact ⟨n,"ended",by rw [if_neg (by omega)],Nat.le_refl _,by omega,by rw [if_neg (by omega)],nV h⟩
 ·exact ⟨1000,"astray",by by_cases q:(1000:Int) < n<;>simp only [q,if_true,if_false]<;>omega,by omega,Nat.le_refl _,by rw [if_pos (by omega)],oz⟩
theorem zV (M:bZ K mg)(CR:aV P w K mg base "run_code" 5 (bg xo K))(F:bX K "_law_idle" "_law_idle" qH f fd)(hm:mg "_law_idle"=some (.ref f))(hb:Binds K fd ["_law_number"] []):aV P w K mg base "_law_idle" 6 (bg AZ K):=by
 have nd:=yN.nd
 refine cN F yN hm hb (λqs T ⟨_,e,_⟩=>by rw [e];rfl) (λcdv A outer s H E qs T hr hS=>?_)
 obtain ⟨number,rfl,rfl⟩:=hS
 have hu:(A.deeper (envOfC "_law_idle" (aq qH) s.heap.objs.size f cdv)).units + 4 < cLine:=Nat.lt_of_le_of_lt (Nat.add_le_add_left (by decide:4<=64) _) hr.units
 change WS _ _ [.im ag number,.no,.no,.no] _ _
 obtain ⟨n,hn,n1,n2⟩:∃n:Nat,(990:Int) + number % 21=(n:Int)/\990<=n/\n<=1010:=⟨(990 + number % 21).toNat,by omega,by omega,by omega⟩
 obtain ⟨k,x,hk,kn,k1,hx,hst⟩:=sC n
 have big:(100000:Nat)<=sizeLine:=by decide
 refine ai (bw 1 (bW ae (bD (aa 0 rfl) ae (by decide))) ?_)
 rw [hn]
 refine ai (bw 2 (nG M.min (au (aa 1 rfl) (au ae aP))) ?_)
 rw [← hk]
 change WS _ _ [.im ag number,.im ag (n:Int),.im ag (k:Int),.no] _ _
 have hcode:(List.replicate (n:Int).toNat [da (.add 1)]).flatten++[da .back]=aK (cB n):=by
  rw [show (n:Int).toNat=n by omega]
  unfold aK cB
  rw [List.map_append,List.map_replicate,je];rfl
 refine ai (bw 3 (bI CR hr (au (EV.cast (bb.im (du (bb.im (vm (k:=(n:Int)) (bb.im (aY (ah (aR (ah (EV.pS aJ) (ah (EV.pI ae) aA)) (by show 2<=sizeLine;decide)) aA) (by show 1<=sizeLine;decide))) (aa 1 rfl) (by omega) (by omega) (by show 1 * _<=sizeLine;omega))) (bb.im (aY (ah (aR (ah (EV.pS aJ) aA) (by show 1<=sizeLine;decide)) aA) (by show 1<=sizeLine;decide))) (by
  show _ + 1<=sizeLine
  rw [je,List.length_replicate];omega))) hcode) (au (bb.im (aY (r:=ag) aA (Nat.zero_le _))) (au ae aP))) ⟨cB n,[],5,k,x,rfl,uH,rfl,by decide,λi hi=>by rw [gu i (by omega)];exact pB (by omega),λi hi=>by rw [gu i (by omega)];exact oN (by omega) (by omega),by rw [gu k kn];exact hst,rfl⟩) ?_)
 have hval:PV.tup [.str x,.tup (aX (bc (c6 (cB n) [] k)))]=lE x k k k:=by
  rw [gu k kn]
  show PV.tup [.str x,.tup [.int k,.lst [.tup [.int (-1),.int k,.int 0]],.lst (aZ (bh [])),.lst [],.int 0,.lst [],.int 0,.int k]]=_
  rw [ic];rfl
 rw [hval]
 change WS _ _ [.im ag number,.im ag (n:Int),.im ag (k:Int),.im aj (lE x k k k)] _ _
 have hat:cM [PV.str "ended",PV.str "astray"] (if decide ((999:Int) < (n:Int))=true then 1 else 0)=some (.str x):=by
  rw [hx]
  by_cases q:(999:Int) < (n:Int)
  ·rw [decide_eq_true q,if_pos rfl,if_pos q];rfl
  ·rw [decide_eq_false q,if_neg (by decide),if_neg q];rfl
 refine ai (aD (ao (jJ (x:=lE x k k k) (.inl ⟨_,rfl⟩) hu) (aa 3 rfl) (aR (ah (cn (bb.im (aY (ah (EV.pS aJ) (ah (EV.pS aJ) aA)) (by show 2<=sizeLine;decide))) (vN M.int (eT tu (aa 1 rfl) ae)) hat) (ah (aR (ah (EV.pI (aa 2 rfl)) (ah (EV.pL (bb.im (aY (ah (aR (ah (EV.pI (cX ae)) (ah (EV.pI (aa 2 rfl)) (ah (EV.pI ae) aA))) cm) aA) (by show 1<=sizeLine;decide)))) (ah (EV.pL (bb.im (aY aA (Nat.zero_le _)))) (ah (EV.pL (bb.im (aY aA (Nat.zero_le _)))) (ah (EV.pI ae) (ah (EV.pL (bb.im (aY aA (Nat.zero_le _)))) (ah (EV.pI ae) (ah (EV.pI (aa 2 rfl)) aA)))))))) (by show 8<=sizeLine;decide)) aA)) (by show 2<=sizeLine;decide))) (λh=>absurd h (by decide)) (λ_=>aG ?_))
 have hv2:PV.tup [.str "astray",.tup (aX (bc (c6 [.jump 0] [] 1000)))]=lE "astray" 0 0 1000:=by
  rw [ia]
  show PV.tup [.str "astray",.tup [.int 0,.lst [.tup [.int (-1),.int 0,.int 0]],.lst (aZ (bh [])),.lst [],.int 0,.lst [],.int 0,.int 1000]]=_
  rw [ic];rfl
 refine ay (bB (eT (mj (x:=lE "astray" 0 0 1000) (.inl ⟨_,rfl⟩) hu) (EV.cast (bI CR hr (au (bb.im (aY (ah (aR (ah (EV.pS aJ) (ah (EV.pI ae) aA)) (by show 2<=sizeLine;decide)) aA) (by show 1<=sizeLine;decide))) (au (bb.im (aY (r:=ag) aA (Nat.zero_le _))) (au ae aP))) ⟨[.jump 0],[],5,1000,"astray",rfl,wR,rfl,by decide,λi hi=>by rw [ia];exact rZ i,λi hi=>by rw [ia];exact qG hi,by rw [ia];exact tq,rfl⟩) hv2) (aR (ah (EV.pS aJ) (ah (aR (ah (EV.pI ae) (ah (EV.pL (bb.im (aY (ah (aR (ah (EV.pI (cX ae)) (ah (EV.pI ae) (ah (EV.pI ae) aA))) cm) aA) (by show 1<=sizeLine;decide)))) (ah (EV.pL (bb.im (aY aA (Nat.zero_le _)))) (ah (EV.pL (bb.im (aY aA (Nat.zero_le _)))) (ah (EV.pI ae) (ah (EV.pL (bb.im (aY aA (Nat.zero_le _)))) (ah (EV.pI ae) (ah (EV.pI ae) aA)))))))) (by show 8<=sizeLine;decide)) aA)) (by show 2<=sizeLine;decide))) rfl)
end
section
variable {X:Cx}{Γ Γ1:Ga}{N:Ga->Prop}{T:RT}{α:Type}
theorem tE (i:Nat){S:cI}{x y:Str}{k:Nat}{e:Expr}{es:List Expr}{p p1 p2 pos:Pos}{ps:List Pk}{r:Rep α}{Pd:List α->Prop}(C:aV X.prog X.w X.K X.mg X.base x k (bg S X.K))(hr:bj k X.A)(ha:HA X (e::es) Γ ps Γ1)(hS:S X.K ps (wU X.K r Pd))(h:∀ys,Pd ys->N (Γ1.set i (.mu r ys)))
 (hg:Gl X x:=by rfl) (hdb:(x==("__debug__":Str))=false:=by decide) (he:starEach (e::es) X.env=(false,eval e X.env)::starEach es X.env:=by rfl) (hpl:(backTo p2 (starEach es X.env)).any (·.1)=false:=by rfl)
 (hN:X.N.Nodup:=by first | assumption | decide) (hi:X.N[i]?=some y:=by rfl) (hx:Loc X.env.scope y:=by first | exact Or.inl rfl | exact Or.inr rfl)
 (hs:swapsWith (.Call (.Name x p) (e::es) [] p2) (some (.Name y p1)) pos.line X.env=pure false:=by rfl) (hf:X.fn y=true∨X.env.scope.names.lookup y=some .local:=by first | exact .inl rfl | exact .inr rfl):
 W1 X (.Assign [.Name y p1] (.Call (.Name x p) (e::es) [] p2) pos) Γ N T:=λσ H0 R0 H R E D dn dr=>
 sS (eP hN hi hx aN hs hf) (fL C hr ha hS E (λH1 R1 v H' R' E1 s1 xx t=>by
  obtain ⟨a,vs,zs,rfl,h0,h1,h2,p,z,hp⟩:=t
  exact dn _ H' R' _ ((E1.grow xx).sO (u:=.lst vs) (en:=.mu r zs) i ⟨a,vs,rfl,h1,h2,p⟩ (E1.ext.h.free h0) λj e _ q w=>E1.off h0 j e q w) (s1.trans xx.r) (h zs hp)) hg hdb he hpl)
theorem BM (i:Nat){x y:Str}{k:Nat}{e:Expr}{p p1 p2 pos:Pos}{m:ba}(C:aV X.prog X.w X.K X.mg X.base x k (bg yH X.K))(hr:bj k X.A)(ha:EV X e Γ aj (.tup (aX m)) Γ1)(z:ML m)(h:∀a b c d e,N (Γ1.set i (.ob (gv a b c d e m))))
 (hg:Gl X x:=by rfl) (hdb:(x==("__debug__":Str))=false:=by decide) (he:starEach [e] X.env=(false,eval e X.env)::starEach [] X.env:=by rfl) (hpl:(backTo p2 (starEach [] X.env)).any (·.1)=false:=by rfl)
 (hN:X.N.Nodup:=by first | assumption | decide) (hi:X.N[i]?=some y:=by rfl) (hx:Loc X.env.scope y:=by first | exact Or.inl rfl | exact Or.inr rfl)
 (hs:swapsWith (.Call (.Name x p) [e] [] p2) (some (.Name y p1)) pos.line X.env=pure false:=by rfl) (hf:X.fn y=true∨X.env.scope.names.lookup y=some .local:=by first | exact .inl rfl | exact .inr rfl):
 W1 X (.Assign [.Name y p1] (.Call (.Name x p) [e] [] p2) pos) Γ N T:=λσ H0 R0 H R E D dn dr=>
 sS (eP hN hi hx aN hs hf) (fL C hr (au (hs:=he) ha aP) ⟨m,rfl,rfl⟩ E (λH1 R1 v H' R' E1 s1 xx t=>by
  obtain ⟨p,af,ab,at_,ar,vf,vb,vt,rfl,n⟩:=t
  obtain ⟨R2,x2,hno,hB⟩:=qo (K:=X.K) E1.sub xx n z
  refine dn _ H' R2 _ ((E1.grow x2).setG (en:=.ob (gv p af ab at_ ar m)) i ⟨⟨.ref p,rfl,hB⟩,hno⟩ (λb hb=>E1.ext.h.free (n.new b hb)) λb hb j e _ qj w=>?_) (s1.trans x2.r) (h p af ab at_ ar)
  exact (Ent.dD (E1.ent j e qj) w).1 (n.new b hb)) hg hdb he hpl)
end
end K1
namespace K1
open PySem L2 Fc
open PySem.Spec hiding Row
open PyProof.Rows hiding St
open PySem.Builtin.Int (intBits)
section
variable {d:List Int}
abbrev wD (d:List Int)(many k:Int):Ln:=dU (d.getD (2 + k).toNat 0 + 5040 * d.getD (22 + k).toNat 0) many
def codeL (d:List Int)(many:Int):List Ln:=((ups 0 many.toNat).filter λ_=>true).map (wD d many)
def ansL (d:List Int):List Int:=((ups 0 (d.getD 1 0 % 13).toNat).filter λ_=>true).map λk=>d.getD (45 + k).toNat 0 % 2
theorem fI.at (h:fI 80 d)(i:Int)(h0:0<=i)(h1:i < 80):cM d i=some (d.getD i.toNat 0):=fX 0 h0 (by rw [h.l];exact h1)
theorem fI.nn (h:fI 80 d)(i:Nat):0<=d.getD i 0:=by
 rw [List.getD_eq_getElem?_getD]
 by_cases q:i < d.length
 ·rw [List.getElem?_eq_getElem q];exact (h.b _ (List.getElem_mem q)).1
 ·rw [List.getElem?_eq_none (by omega)];exact Int.le_refl _
theorem iw (d:List Int)(many:Int):(codeL d many).length=many.toNat:=by unfold codeL;rw [List.length_map,List.filter_eq_self.mpr (λ_ _=>rfl),dh]
theorem rJ {many:Int}(h:fI 80 d)(h1:0 < many):dt (codeL d many):=by
 refine ⟨λe=>?_,λl hl=>?_⟩
 ·have:=congrArg List.length e
  rw [iw] at this
  simp at this;omega
 ·obtain ⟨k,_,rfl⟩:=List.mem_map.mp hl
  rw [iw,show ((many.toNat:Nat):Int)=many by omega]
  refine vF ?_ h1
  have a1:=h.nn (2 + k).toNat
  have a2:=h.nn (22 + k).toNat
  omega
theorem uN (d:List Int):∀a∈ansL d,a=0∨a=1:=λa ha=>by
 obtain ⟨k,_,rfl⟩:=List.mem_map.mp ha
 omega
theorem rH (d:List Int):(ansL d).length=(d.getD 1 0 % 13).toNat:=by unfold ansL;rw [List.length_map,List.filter_eq_self.mpr (λ_ _=>rfl),dh]
theorem uX {ans:List Int}(h:∀a∈ans,a=0∨a=1):dX ans=true:=by
 unfold dX
 rw [List.all_eq_true]
 intro b hb
 obtain ⟨a,ha,rfl⟩:=List.mem_map.mp hb
 have:=h a (List.mem_filter.mp ha).1
 rcases this with rfl | rfl<;>rfl
theorem lV {ans:List Int}{b:Int}(h:b=2∨b= -1):dX (ans++[b])=false:=by
 unfold dX
 rw [List.filter_append,List.map_append,List.all_append]
 rcases h with rfl | rfl
 ·rw [show (([(2:Int)].filter λ_=>true).map λa=>decide (0<=a)&&decide (a<=1)).all id=false from rfl,Bool.and_false]
 ·rw [show (([(-1:Int)].filter λ_=>true).map λa=>decide (0<=a)&&decide (a<=1)).all id=false from rfl,Bool.and_false]
end
section
variable {P:Program}{w:World}{K:PySem.W.Frag}{mg:Str->Option Value}{base:Heap}{f:Addr}{fd:FuncData}{C:Addr}
abbrev fE:Stmt:=top yw
abbrev yi:List Str:=["_law_script","_law_draws_here","_law_many","_law_code","_law_answers","_law_bound","_law_wrong","_law_handed","_law_due","_law_state","_law_word","_law_k","_law_near_here","_law_last"]
theorem zk:aU yi ["_law_script"] (aq fE):=⟨rfl,rfl,rfl,by decide +kernel,rfl,by decide +kernel,by decide +kernel⟩
def md:cI:=λK ps T=>∃ns:List Int,ps=[⟨cu,ns⟩]/\ns.length<=63/\(∀n∈ns,intBits n<=2 ^ 20)/\T=dc K bU (· =true)
theorem AD (M:bZ K mg)(CD:aV P w K mg base "_law_draws" 1 (bg Bl K))(CN:aV P w K mg base "_law_line" 1 (bg A7 K))(CX:aV P w K mg base "_law_refused" 6 (bg A8 K))(CI:aV P w K mg base "_law_idle" 6 (bg AZ K))(CB:aV P w K mg base "begun" 1 (bg uB K))(CW:aV P w K mg base "_law_whole_state" 2 (bg AJ K))(CT:aV P w K mg base "_law_still" 1 (bg AO K))(CS:aV P w K mg base "step" 5 (bg zp K))(CR:aV P w K mg base "run_code" 5 (bg xo K))(CE:aV P w K mg base "_law_near" 2 (bg Bk K))(CP:aV P w K mg base "_law_copy" 1 (bg yH K))(F:bX K "law" "law" fE f fd):cJ P w K mg base dJ 7 f fd ["_law_script"] (bg md K):=by
 have nd:=zk.nd
 have nd1:List.Nodup [("_law_k":Str),"_law_draws_here","_law_many"]:=by decide
 have nd2:List.Nodup [("_law_k":Str),"_law_draws_here"]:=by decide
 have CD:=CD.mono (show 1<=6 by decide)
 have CN:=CN.mono (show 1<=6 by decide)
 have CB:=CB.mono (show 1<=6 by decide)
 have CW:=CW.mono (show 2<=6 by decide)
 have CT:=CT.mono (show 1<=6 by decide)
 have CS:=CS.mono (show 5<=6 by decide)
 have CR:=CR.mono (show 5<=6 by decide)
 have CE:=CE.mono (show 2<=6 by decide)
 have CP:=CP.mono (show 1<=6 by decide)
 refine xU F zk (λqs T ⟨_,e,_⟩=>by rw [e];rfl) (λcdv A outer s H E qs T hr hS=>?_)
 obtain ⟨ns,rfl,hnl,hbits,rfl⟩:=hS
 have hu:∀n,n<=8->(A.deeper (envOfC "law" (aq fE) s.heap.objs.size f cdv)).units + n < cLine:=λn hn=>Nat.lt_of_le_of_lt (Nat.add_le_add_left (by omega:n<=64) _) hr.units
 have big:(100000:Nat)<=sizeLine:=by decide
 change WS _ _ [.im cu ns,.no,.no,.no,.no,.no,.no,.no,.no,.no,.no,.no,.no,.no] _ _
 refine ai (tE 1 (Pd:=fI 80) CD hr (au (aa 0 rfl) (au ae aP)) ⟨ns,80,rfl,hnl,hbits,by decide,by decide,rfl⟩ (λd hd=>?_))
 change WS _ _ [.im cu ns,.mu ag d,.no,.no,.no,.no,.no,.no,.no,.no,.no,.no,.no,.no] _ _
 refine WS.freeze 1 rfl (by rw [hd.l];omega) ?_
 refine ai (bw 2 (bW ae (bD (cn (aa 1 rfl) ae (hd.at 0 (by decide) (by decide))) ae (by decide))) ?_)
 obtain ⟨many,hmany,m1,m2⟩:∃many:Int,(1:Int) + d.getD (0:Int).toNat 0 % 20=many/\1<=many/\many<=20:=⟨_,rfl,by omega,by omega⟩
 rw [hmany]
 change WS _ _ [.im cu ns,.im (ak ag) d,.im ag many,.no,.no,.no,.no,.no,.no,.no,.no,.no,.no,.no] _ _
 have hin:∀k,k∈ups 0 many.toNat->0<=k/\k < 20:=λk hk=>by have:=kD.mp hk;omega
 refine ai (mO 3 (own:=["_law_k"]) (fr:=["_law_draws_here","_law_many"]) (ix:=[1,2]) (ra:=ag) (rb:=aj) (xs:=ups 0 many.toNat) (p:=λ_=>true) (f:=λk=>da (wD d many k)) (cR (so:=aq fE) (N0:=yi) rfl rfl (λx h=>cx h) (by decide +kernel)) (eV M.range (aa 2 rfl) ⟨by omega,by omega⟩)
  (λC s H ex=>cF 0) (λx=>⟨.inr rfl,.inl rfl,.inl rfl,trivial⟩) (λC s H ex x hx=>ej) (λC s H ex k hx hf=>bI CN hr (au (bW (cn (aa 1 rfl) (bW ae (aa 0 rfl)) (hd.at (2 + k) (by have:=hin k hx;omega) (by have:=hin k hx;omega))) (yu ae (cn (aa 1 rfl) (bW ae (aa 0 rfl)) (hd.at (22 + k) (by have:=hin k hx;omega) (by have:=hin k hx;omega))) (.inl ⟨by decide,by decide⟩))) (au (aa 2 rfl) aP)) ⟨_,_,rfl,by omega,rfl⟩) ?_)
 have hcode:(((ups 0 many.toNat).filter λ_=>true).map λk=>da (wD d many k))=aK (codeL d many):=by
  unfold aK codeL
  rw [List.map_map];rfl
 rw [hcode]
 have ck:=rJ hd (show 0 < many by omega)
 have hcl:(codeL d many).length<=20:=by rw [iw];omega
 generalize codeL d many=code at ck hcl
 change WS _ _ [.im cu ns,.im (ak ag) d,.im ag many,.mu aj (aK code),.no,.no,.no,.no,.no,.no,.no,.no,.no,.no] _ _
 refine WS.freeze 3 rfl (by rw [List.length_map];omega) ?_
 have hdm:=λi=>hd.nn i
 have hin2:∀k,k∈ups 0 (d.getD 1 0 % 13).toNat->0<=k/\k < 13:=λk hk=>by have:=kD.mp hk;omega
 refine ai (mO 4 (own:=["_law_k"]) (fr:=["_law_draws_here"]) (ix:=[1]) (ra:=ag) (rb:=ag) (xs:=ups 0 (d.getD 1 0 % 13).toNat) (p:=λ_=>true) (f:=λk=>d.getD (45 + k).toNat 0 % 2) (cR (so:=aq fE) (N0:=yi) rfl rfl (λx h=>cx h) (by decide +kernel)) (eV M.range (bD (cn (aa 1 rfl) ae (hd.at 1 (by decide) (by decide))) ae (by decide)) ⟨by have:=hdm (1:Int).toNat;omega,by omega⟩)
  (λC s H ex=>cF 0) (λx=>⟨.inr rfl,.inl rfl,trivial⟩) (λC s H ex x hx=>ej) (λC s H ex k hx hf=>bD (cn (aa 1 rfl) (bW ae (aa 0 rfl)) (hd.at (45 + k) (by have:=hin2 k hx;omega) (by have:=hin2 k hx;omega))) ae (by decide)) ?_)
 have h01:=uN d
 have hal:(ansL d).length<=13:=by rw [rH];omega
 change WS _ _ [.im cu ns,.im (ak ag) d,.im ag many,.im (ak aj) (aK code),.mu ag (ansL d),.no,.no,.no,.no,.no,.no,.no,.no,.no] _ _
 generalize ansL d=ans at h01 hal
 refine WS.freeze 4 rfl (by omega) ?_
 refine ai (bw 5 (bD (cn (aa 1 rfl) ae (hd.at 60 (by decide) (by decide))) ae (by decide)) ?_)
 obtain ⟨bound,hbd,b1⟩:∃bound:Int,d.getD (60:Int).toNat 0 % 31=bound/\0<=bound:=⟨_,rfl,by omega⟩
 rw [hbd]
 change WS _ _ [.im cu ns,.im (ak ag) d,.im ag many,.im (ak aj) (aK code),.im (ak ag) ans,.im ag bound,.no,.no,.no,.no,.no,.no,.no,.no] _ _
 have hans:=uX h01
 refine jD (N1:=λΓ=>Γ=[.im cu ns,.im (ak ag) d,.im ag many,.im (ak aj) (aK code),.im (ak ag) ans,.im ag bound,.no,.no,.no,.no,.no,.no,.no,.no]) (aD (ao eu (bD (cn (aa 1 rfl) ae (hd.at 61 (by decide) (by decide))) ae (by decide)) ae) (λh=>?_) (λh=>aG rfl)) ?_
 ·have hw:d.getD (62:Int).toNat 0 % 2=0∨d.getD (62:Int).toNat 0 % 2=1:=by omega
  obtain ⟨b,hb,hat⟩:∃b:Int,(b=2∨b= -1)/\cM [(2:Int), -1] (d.getD (62:Int).toNat 0 % 2)=some b:=by
   rcases hw with e | e
   ·exact ⟨2,.inl rfl,by rw [e];rfl⟩
   ·exact ⟨-1,.inr rfl,by rw [e];rfl⟩
  refine ai (bw 6 (bb.im (du (aa 4 rfl) (bb.im (aY (ah (cn (bb.im (aY (ah ae (ah (cX ae) aA)) (by show 2<=sizeLine;decide))) (bD (cn (aa 1 rfl) ae (hd.at 62 (by decide) (by decide))) ae (by decide)) hat) aA) (by show 1<=sizeLine;decide))) (by show _ + 1<=sizeLine;omega))) ?_)
  change WS _ _ [.im cu ns,.im (ak ag) d,.im ag many,.im (ak aj) (aK code),.im (ak ag) ans,.im ag bound,.im (ak ag) (ans++[b]),.no,.no,.no,.no,.no,.no,.no] _ _
  refine ai (aD (TW.tv (c7 (bP (bA (bI CX hr (au ae (au (aa 3 rfl) (au (aa 6 rfl) (au (aa 5 rfl) aP)))) ⟨0,code,_,bound,rfl,.inl rfl,ck,.inl (lV hb),rfl⟩))) (λ_=>cU (bP (bA (bI CX hr (au ae (au (aa 3 rfl) (au (aa 6 rfl) (au (aa 5 rfl) aP)))) ⟨1,code,_,bound,rfl,.inr rfl,ck,.inl (lV hb),rfl⟩)))))) (λh=>absurd h (by decide)) (λh=>aG ?_))
  refine ay (aD (TW.tv (c7 (bP (bA (bI CX hr (au ae (au (aa 3 rfl) (au (aa 4 rfl) (au (iz (cX ae) (aa 5 rfl)) aP)))) ⟨0,code,ans, -1 - bound,rfl,.inl rfl,ck,.inr (by omega),rfl⟩))) (λ_=>cU (bP (bA (bI CX hr (au ae (au (aa 3 rfl) (au (aa 4 rfl) (au (iz (cX ae) (aa 5 rfl)) aP)))) ⟨1,code,ans, -1 - bound,rfl,.inr rfl,ck,.inr (by omega),rfl⟩)))))) (λh=>absurd h (by decide)) (λh=>qq (Γ':=[.im cu ns,.im (ak ag) d,.im ag many,.im (ak aj) (aK code),.im (ak ag) ans,.im ag bound,.no,.no,.no,.no,.no,.no,.no,.no]) ⟨.inl rfl,.inl rfl,.inl rfl,.inl rfl,.inl rfl,.inl rfl,.inr rfl,.inl rfl,.inl rfl,.inl rfl,.inl rfl,.inl rfl,.inl rfl,.inl rfl,trivial⟩ rfl))
 rintro _ rfl
 refine ai (aD (TW.tv (fz (ao eu (bD (cn (aa 1 rfl) ae (hd.at 63 (by decide) (by decide))) ae (by decide)) ae) (λ_=>eK (bP (bA (bI CI hr (au (cn (aa 1 rfl) ae (hd.at 64 (by decide) (by decide))) aP) ⟨_,rfl,rfl⟩)))))) (λh=>absurd h (by rw [show (!true)=false from rfl,Bool.and_false];decide)) (λh=>aG ?_))
 refine ai (bw 7 (aR (ah (EV.pL (bb.im (gM M.list (aa 3 rfl)))) (ah (EV.Bb (bb.im (gM M.list (aa 4 rfl)))) aA)) (by show 2<=sizeLine;decide)) ?_)
 refine ai (bw 8 (aR (ah (EV.pI ae) (ah (EV.pL (bb.im (aY (ah (aR (ah (EV.pI (cX ae)) (ah (EV.pI ae) (ah (EV.pI ae) aA))) cm) aA) (by show 1<=sizeLine;decide)))) (ah (EV.pL (bb.im (aY aA (Nat.zero_le _)))) (ah (EV.pL (bb.im (aY aA (Nat.zero_le _)))) (ah (EV.pI ae) (ah (EV.pL (bb.im (aY aA (Nat.zero_le _)))) (ah (EV.pI ae) (ah (EV.pI ae) aA)))))))) (by show 8<=sizeLine;decide)) ?_)
 refine ai (Bx 9 (m:=m0) CB hr ⟨rfl,rfl⟩ ⟨(by show 1<=sizeLine;decide),Nat.zero_le _,Nat.zero_le _,Nat.zero_le _⟩ (λa1 a2 a3 a4 a5=>?_))
 refine ai (bw 10 (EV.pN dC) ?_)
 change WS _ _ [.im cu ns,.im (ak ag) d,.im ag many,.im (ak aj) (aK code),.im (ak ag) ans,.im ag bound,.no,.im aj (.tup [.lst (aK code),.lst (cD ans)]),.im aj (.tup (aX m0)),.ob (gv a1 a2 a3 a4 a5 m0),.im aj .non,.no,.no,.no] _ _
 refine ai (iu (λi Γ=>∃e10 e11 e12 a1 a2 a3 a4 a5,Γ=[.im cu ns,.im (ak ag) d,.im ag many,.im (ak aj) (aK code),.im (ak ag) ans,.im ag bound,.no,.im aj (.tup [.lst (aK code),.lst (cD ans)]),.im aj (.tup (aX (bC code ans i))),.ob (gv a1 a2 a3 a4 a5 (bC code ans i)),e10,e11,e12,.no]/\∀j,j < i->aO code ans bound (bC code ans j)=none) (eV M.range ae ⟨by decide,by decide⟩) (cF 11) ⟨_,_,_,_,_,_,_,_,rfl,λj hj=>absurd hj (Nat.not_lt_zero _)⟩ (λi k Γ hk hΓ=>?_) (λΓ hΓ=>?_))
 ·have hi:i < 60:=(pW hk).1
  obtain ⟨e10,e11,e12,a1,a2,a3,a4,a5,rfl,hno⟩:=hΓ
  have hK:=pM (ans:=ans) (bound:=bound) ck i hno
  have g:=hK.good hi
  have hso:=rK code ans i
  have hdi:=v9 (bC code ans i)
  have hnx:bC code ans (i + 1)=bc (nextM code ans (bC code ans i)):=rfl
  have hits:∀k,k<=i->aO code ans bound (c6 code ans k)=aO code ans bound (bC code ans k):=λk _=>((j8 code ans k).gG code ans bound).symm
  have hds:=tm code ans i
  rw [hso] at hds
  have hKn:aO code ans bound (bC code ans i)=none->Kp code (i + 1) (nextM code ans (bC code ans i)):=λhs=>hK.next ck hs
  have hgi:∀k,k<=i->Good code (c6 code ans k):=λk hk=>(ue (ans:=ans) (bound:=bound) ck k λj hj=>by rw [hits j (by omega)];exact hno j (by omega)).good (by omega)
  have hat1:=hits i (Nat.le_refl _)
  have hni:∀k,k < i->aO code ans bound (c6 code ans k)=none:=λk hk=>by rw [hits k (by omega)];exact hno k hk
  have huS:(A.deeper (envOfC "law" (aq fE) s.heap.objs.size f cdv)).units + (PV.tup (aX (bC code ans i))).deep < cLine:=Nat.lt_of_le_of_lt (Nat.add_le_add_left hdi _) (hu 3 (by decide))
  have huH:(A.deeper (envOfC "law" (aq fE) s.heap.objs.size f cdv)).units + (PV.tup [.lst (aK code),.lst (cD ans)]).deep < cLine:=Nat.lt_of_le_of_lt (Nat.add_le_add_left (by
   have h1:=ql code
   have h2:=nJ ans
   show max _ (max _ 0) + 1<=3
   omega) _) (hu 3 (by decide))
  change WS _ _ [.im cu ns,.im (ak ag) d,.im ag many,.im (ak aj) (aK code),.im (ak ag) ans,.im ag bound,.no,.im aj (.tup [.lst (aK code),.lst (cD ans)]),.im aj (.tup (aX (bC code ans i))),.ob (gv a1 a2 a3 a4 a5 (bC code ans i)),e10,.im ag k,e12,.no] _ _
  refine ai (aD (TV.frz (λσ H0 R0 H R E=>tP (i:=9) rfl σ H0 R0 H R E) (TW.tv (c7 (ao (jJ (x:=.tup (aX (bC code ans i))) (.inl ⟨_,rfl⟩) huS) (aa 9 rfl) (aa 8 rfl)) (λ_=>cU (bP (bA (bI CW hr (au (aa 9 rfl) aP) ⟨bC code ans i,rfl,rfl⟩))))))) (λh=>absurd h (by decide)) (λh=>aG ?_))
  refine ai (bw 10 (bI CT hr (au (aa 3 rfl) (au (aa 8 rfl) (au (aa 4 rfl) (au (aa 5 rfl) aP)))) ⟨code,bC code ans i,ans,bound,rfl,g.a0,g.a1,g.ok.ne,rfl⟩) ?_)
  have hML:aO code ans bound (bC code ans i)=none->ML (bc (nextM code ans (bC code ans i))):=λhs=>by
   have q:=(hKn hs).sort
   have q1:=q.r;have q2:=q.fl;have q3:=q.t;have q4:=q.b
   exact ⟨by omega,by omega,by omega,by omega⟩
  refine ai (yv 12 9 CS hr (EV.lP (az (aa 7 rfl) ae rfl)) (EV.cD (az (aa 7 rfl) ae rfl)) (aa 5 rfl) rfl ck hans b1 g (λhs=>by have q:=(hKn hs).b;omega) hML ?_)
  change WS _ _ [.im cu ns,.im (ak ag) d,.im ag many,.im (ak aj) (aK code),.im (ak ag) ans,.im ag bound,.no,.im aj (.tup [.lst (aK code),.lst (cD ans)]),.im aj (.tup (aX (bC code ans i))),.ob (gv a1 a2 a3 a4 a5 (bC code ans i)),.im aj (oP (aO code ans bound (bC code ans i))),.im ag k,.im aj (uq (aO code ans bound (bC code ans i)) (bc (nextM code ans (bC code ans i)))),.no] _ _
  refine ai (aD (TV.frz (λσ H0 R0 H R E=>tP (i:=9) rfl σ H0 R0 H R E) (TW.tv (c7 (ao (jJ (x:=.tup (aX (bC code ans i))) (.inl ⟨_,rfl⟩) huS) (aa 9 rfl) (aa 8 rfl)) (λ_=>cU (ao (jJ (x:=.tup [.lst (aK code),.lst (cD ans)]) (.inl ⟨_,rfl⟩) huH) (aa 7 rfl) (aR (ah (EV.pL (aa 3 rfl)) (ah (EV.Bb (aa 4 rfl)) aA)) (by show 2<=sizeLine;decide))))))) (λh=>absurd h (by decide)) (λh=>aG ?_))
  cases hst:aO code ans bound (bC code ans i) with
  | some x=>
    rw [hst] at hat1
    refine ai (aD (ao (jI (o:=some x)) (aa 10 rfl) dC) (λ_=>?_) (λh=>absurd (show (!false)=false from h) (by decide)))
    have hlast:PV.tup [.str x,.tup (aX (bc (c6 code ans i)))]= .tup [.str x,.tup (aX (bC code ans i))]:=by rw [hds]
    refine ai (bw 13 (EV.cast (bI CR hr (au (EV.lP (xs:=aK code) (az (aa 7 rfl) ae rfl)) (au (EV.cD (xs:=ans) (az (aa 7 rfl) ae rfl)) (au (aa 5 rfl) aP))) ⟨code,ans,bound,i,x,rfl,ck,hans,b1,hgi,hni,hat1,rfl⟩) hlast) ?_)
    have huL:(A.deeper (envOfC "law" (aq fE) s.heap.objs.size f cdv)).units + (PV.tup [.str x,.tup (aX (bC code ans i))]).deep < cLine:=Nat.lt_of_le_of_lt (Nat.add_le_add_left (by
     show max 0 (max (PV.tup (aX (bC code ans i))).deep 0) + 1<=4
     omega) _) (hu 4 (by decide))
    refine ay (bB (fG (eT (aI (x:=x) (y:=x)) (EV.sP (x:=x) (aa 12 rfl)) (EV.sP (x:=x) (aa 10 rfl))) (λ_=>fG (bV (b:=true) M.isinstance M.tuple PyProof.Rows.boot_tuple (aa 13 rfl) j5) (λ_=>gj (eT (mj (x:=.tup [.str x,.tup (aX (bC code ans i))]) (.inl ⟨_,rfl⟩) huL) (aa 13 rfl) (aR (ah (aa 10 rfl) (ah (aa 8 rfl) aA)) (by show 2<=sizeLine;decide)))))) ?_)
    rw [decide_eq_true rfl];rfl
  | none=>
    obtain ⟨hlt,hask⟩:=gH g hst
    refine ai (aD (ao (jI (o:=none)) (aa 10 rfl) dC) (λh=>absurd h (by decide)) (λ_=>aG ?_))
    refine ai (bw 8 (bI CE hr (au (aa 3 rfl) (au (aa 8 rfl) (au (aa 4 rfl) aP))) ⟨code,bC code ans i,ans,rfl,g,hso,hlt,hask,h01,rfl⟩) ?_)
    have zf:=g.ok.f
    have zr:=g.ok.r
    refine ai (xH 9 (by omega) rfl ?_)
    refine ai (yQ 9 (p:=a1) (af:=a2) (ab:=a3) (at_:=a4) (ar:=a5) (m:=bC code ans i) (by omega) rfl ?_)
    refine ai (BM 9 (m:=bc (nextM code ans (bC code ans i))) CP hr (aa 12 rfl) (hML hst) (λc1 c2 c3 c4 c5=>?_))
    refine ay (aD (bP (bA (bV (b:=true) M.isinstance M.tuple PyProof.Rows.boot_tuple (aa (r:=aj) (y:=.tup (aX (bc (nextM code ans (bC code ans i))))) 12 rfl) j5))) (λh=>absurd h (by decide)) (λ_=>aG ?_))
    refine ⟨_,_,_,c1,c2,c3,c4,c5,rfl,λj hj=>?_⟩
    by_cases e:j=i
    ·rw [e];exact hst
    ·exact hno j (by omega)
 ·exact ay (bB m8 rfl)
end
section
variable {K:PySem.W.Frag}{mg:Str->Option Value}{h:Heap}{w:World}{f:Addr}
def oh (K:PySem.W.Frag)(mg:Str->Option Value):Prop:=∃C fi fdi,cq K C fns/\Mk K C fi/\mg "Machine"=some (.ref C)/\bX K "__init__" "Machine.__init__" kX fi fdi/\Binds K fdi ["self","state"] []
structure Top (P:Program) (w:World) (K:PySem.W.Frag) (mg:Str->Option Value):Prop where
 M:bZ K mg
 FO:iL P w K mg "FORMS" gm
 X:∃C,o9 K mg C
 MC:oh K mg
 TR:Def K mg "triples" pU ["tuples"]
 AS:Def K mg "ask" tM ["machine","told","answer"]
 CL:Def K mg "call" tT ["machine","told"]
 SS:Def K mg "set_sum" uf ["machine","number"]
 GB:Def K mg "go_back" uh ["machine"]
 ST:Def K mg "still_at" uE ["machine","code","answers","bound"]
 DN:Def K mg "do_next" rk ["machine","code","answers"]
 SO:Def K mg "state_of" nu ["machine"]
 BE:Def K mg "begun" uo []
 IW:Def K mg "is_whole" tX ["value"]
 AW:Def K mg "are_whole" pz ["values"]
 NA:Def K mg "need_answers" mn ["answers","bound"]
 IN:Def K mg "is_number_of" ux ["value","wanted","size"]
 IT:Def K mg "is_tuple_of_code" pG ["told","size"]
 LC:Def K mg "look_code" ug ["code"]
 SP:Def K mg "step" qg ["code","state","answers","bound"]
 RC:Def K mg "run_code" pA ["code","answers","bound"]
 WH:Def K mg "_law_whole" uD ["_law_found"]
 DW:Def K mg "_law_draws" uG ["_law_script","_law_many"]
 LN:Def K mg "_law_line" tO ["_law_number","_law_many"]
 SL:Def K mg "_law_still" tQ ["_law_code","_law_state","_law_answers","_law_bound"]
 WS:Def K mg "_law_whole_state" nS ["_law_state"]
 RX:Def K mg "_law_refused" tZ ["_law_way","_law_code","_law_answers","_law_bound"]
 BX:Def K mg "_law_box" nA ["_law_boxes","_law_box_here"]
 NR:Def K mg "_law_near" tY ["_law_code","_law_state","_law_answers"]
 CP:Def K mg "_law_copy" rA ["_law_state"]
 ID:Def K mg "_law_idle" qH ["_law_number"]
theorem ye {P:Program}{base:Heap}{fd:FuncData}(T:Top P w K mg)(F:bX K "law" "law" fE f fd):cJ P w K mg base dJ 7 f fd ["_law_script"] (bg md K):=by
 have M:=T.M
 obtain ⟨EC,X⟩:=T.X
 obtain ⟨C,fi,fdi,HC,MK,hMg,FI,bi⟩:=T.MC
 obtain ⟨_,_,F1,m1,b1⟩:=T.TR
 have TR:=z7 (P:=P) (w:=w) (base:=base) M F1 m1 b1
 have MI:=Ae (P:=P) (w:=w) (base:=base) M HC TR FI
 obtain ⟨_,_,F1,m1,b1⟩:=T.AS
 have AS:=zF (P:=P) (w:=w) (base:=base) M HC F1 m1 b1
 obtain ⟨_,_,F1,m1,b1⟩:=T.CL
 have CL:=zK (P:=P) (w:=w) (base:=base) M HC F1 m1 b1
 obtain ⟨_,_,F1,m1,b1⟩:=T.SS
 have SS:=zR (P:=P) (w:=w) (base:=base) M HC F1 m1 b1
 obtain ⟨_,_,F1,m1,b1⟩:=T.GB
 have GB:=Ak (P:=P) (w:=w) (base:=base) M HC F1 m1 b1
 obtain ⟨_,_,F1,m1,b1⟩:=T.ST
 have ST:=zD (P:=P) (w:=w) (base:=base) M HC F1 m1 b1
 obtain ⟨_,_,F1,m1,b1⟩:=T.DN
 have DN:=Ai (P:=P) (w:=w) (base:=base) M HC AS CL SS GB F1 m1 b1
 obtain ⟨_,_,F1,m1,b1⟩:=T.SO
 have SO:=z4 (P:=P) (w:=w) (base:=base) M HC TR F1 m1 b1
 obtain ⟨_,_,F1,m1,b1⟩:=T.BE
 have BE:=Ao (P:=P) (w:=w) (base:=base) M F1 m1 b1
 obtain ⟨_,_,F1,m1,b1⟩:=T.IW
 have IW:=zX (P:=P) (w:=w) (base:=base) M F1 m1 b1
 obtain ⟨_,_,F1,m1,b1⟩:=T.AW
 have AW:=zN (P:=P) (w:=w) (base:=base) M IW F1 m1 b1
 obtain ⟨_,_,F1,m1,b1⟩:=T.NA
 have NAx:=xA (P:=P) (w:=w) (base:=base) M X.own IW AW F1 m1 b1
 have NA:=zA (P:=P) (w:=w) (base:=base) M IW AW F1 m1 b1
 obtain ⟨_,_,F1,m1,b1⟩:=T.IN
 have IN:=zY (P:=P) (w:=w) (base:=base) M IW F1 m1 b1
 obtain ⟨_,_,F1,m1,b1⟩:=T.IT
 have IT:=Aw (P:=P) (w:=w) (base:=base) M T.FO IN F1 m1 b1
 obtain ⟨_,_,F1,m1,b1⟩:=T.LC
 have LC:=Ac (P:=P) (w:=w) (base:=base) M IT F1 m1 b1
 obtain ⟨_,_,F1,m1,b1⟩:=T.SP
 have SPx:=xu (P:=P) (w:=w) (base:=base) LC NAx F1 m1 b1
 have SP:=Ad (P:=P) (w:=w) (base:=base) M MK hMg MI bi LC NA ST DN SO F1 m1 b1
 obtain ⟨_,_,F1,m1,b1⟩:=T.RC
 have RCx:=yV (P:=P) (w:=w) (base:=base) LC NAx F1 m1 b1
 have RC:=zM (P:=P) (w:=w) (base:=base) M MK hMg MI bi LC NA BE ST DN SO F1 m1 b1
 obtain ⟨_,_,F1,m1,b1⟩:=T.WH
 have WH:=zv (P:=P) (w:=w) (base:=base) M F1 m1 b1
 obtain ⟨_,_,F1,m1,b1⟩:=T.DW
 have DW:=zZ (P:=P) (w:=w) (base:=base) M F1 m1 b1
 obtain ⟨_,_,F1,m1,b1⟩:=T.LN
 have LN:=Au (P:=P) (w:=w) (base:=base) M F1 m1 b1
 obtain ⟨_,_,F1,m1,b1⟩:=T.SL
 have SL:=Az (P:=P) (w:=w) (base:=base) M F1 m1 b1
 obtain ⟨_,_,F1,m1,b1⟩:=T.WS
 have WS:=Am (P:=P) (w:=w) (base:=base) M WH F1 m1 b1
 obtain ⟨_,_,F1,m1,b1⟩:=T.RX
 have RX:=Aq (P:=P) (w:=w) (base:=base) M X BE SPx RCx F1 m1 b1
 obtain ⟨_,_,F1,m1,b1⟩:=T.BX
 have BX:=Ax (P:=P) (w:=w) (base:=base) M F1 m1 b1
 obtain ⟨_,_,F1,m1,b1⟩:=T.NR
 have NR:=zJ (P:=P) (w:=w) (base:=base) M F1 BX m1 b1
 obtain ⟨_,_,F1,m1,b1⟩:=T.CP
 have CP:=z3 (P:=P) (w:=w) (base:=base) M F1 m1 b1
 obtain ⟨_,_,F1,m1,b1⟩:=T.ID
 have ID:=zV (P:=P) (w:=w) (base:=base) M RC F1 m1 b1
 exact AD M DW LN RX ID BE WS SL SP RC NR CP F
theorem uY (KX:K.In h)(G:h.Ns mainGlobals mg){t1 t2 t3 t4 t5 t6 t7 t8 t9 t10 t11 t12 t13 t14 t15:Tok}{g:Addr}{gd:Option Addr}{gn:Nat}{gs:Array (Option Value)}{u1 u2 u3:Tok}
 (a1:PySem.W.nsIn K mainGlobals "YES"=some (some (.int 1 t1))) (a2:PySem.W.nsIn K mainGlobals "NOWHERE"=some (some (.int (-1) t2))) (a3:PySem.W.nsIn K mainGlobals "MOST_IDLE"=some (some (.int 1000 t3)))
 (a4:PySem.W.nsIn K mainGlobals "ENDED"=some (some (.str "ended" t4))) (a5:PySem.W.nsIn K mainGlobals "BOUND"=some (some (.str "bound" t5))) (a6:PySem.W.nsIn K mainGlobals "WANTING"=some (some (.str "wanting" t6))) (a7:PySem.W.nsIn K mainGlobals "ASTRAY"=some (some (.str "astray" t7))) (a8:PySem.W.nsIn K mainGlobals "ROW"=some (some (.str "row" t8))) (a9:PySem.W.nsIn K mainGlobals "ASK"=some (some (.str "ask" t9))) (a10:PySem.W.nsIn K mainGlobals "JUMP"=some (some (.str "jump" t10))) (a11:PySem.W.nsIn K mainGlobals "CALL"=some (some (.str "call" t11))) (a12:PySem.W.nsIn K mainGlobals "BACK"=some (some (.str "back" t12))) (a13:PySem.W.nsIn K mainGlobals "COUNT"=some (some (.str "count" t13))) (a14:PySem.W.nsIn K mainGlobals "ADD"=some (some (.str "add" t14))) (a15:PySem.W.nsIn K mainGlobals "TELL"=some (some (.str "tell" t15)))
 (g1:PySem.W.nsIn K mainGlobals "GOING"=some (some (.ref g))) (g2:K.lookup g=some ⟨.type "tuple",gd,.seq #[.str "row" u1,.str "ask" u2,.str "call" u3] gn,gs⟩)
 (b1:PySem.W.nsIn K mainGlobals "len"=some none) (b2:PySem.W.nsIn K mainGlobals "all"=some none) (b3:PySem.W.nsIn K mainGlobals "range"=some none) (b4:PySem.W.nsIn K mainGlobals "enumerate"=some none) (b5:PySem.W.nsIn K mainGlobals "isinstance"=some none) (b6:PySem.W.nsIn K mainGlobals "int"=some none) (b7:PySem.W.nsIn K mainGlobals "bool"=some none) (b8:PySem.W.nsIn K mainGlobals "str"=some none) (b9:PySem.W.nsIn K mainGlobals "list"=some none) (b10:PySem.W.nsIn K mainGlobals "dict"=some none) (b11:PySem.W.nsIn K mainGlobals "tuple"=some none) (b12:PySem.W.nsIn K mainGlobals "min"=some none) (b13:PySem.W.nsIn K mainGlobals "sorted"=some none) (b14:PySem.W.nsIn K mainGlobals "sum"=some none) (b15:PySem.W.nsIn K mainGlobals "zip"=some none):bZ K mg:=
 ⟨⟨_,PySem.W.mg_of KX G a1⟩,⟨_,PySem.W.mg_of KX G a2⟩,⟨_,PySem.W.mg_of KX G a3⟩,⟨_,PySem.W.mg_of KX G a4⟩,⟨_,PySem.W.mg_of KX G a5⟩,⟨_,PySem.W.mg_of KX G a6⟩,⟨_,PySem.W.mg_of KX G a7⟩,⟨_,PySem.W.mg_of KX G a8⟩,⟨_,PySem.W.mg_of KX G a9⟩,⟨_,PySem.W.mg_of KX G a10⟩,⟨_,PySem.W.mg_of KX G a11⟩,⟨_,PySem.W.mg_of KX G a12⟩,⟨_,PySem.W.mg_of KX G a13⟩,⟨_,PySem.W.mg_of KX G a14⟩,⟨_,PySem.W.mg_of KX G a15⟩,⟨g,_,_,_,PySem.W.mg_of KX G g1,g2,rfl,rfl,(by show 3<=sizeLine;decide),.cons ⟨u1,rfl⟩ (.cons ⟨u2,rfl⟩ (.cons ⟨u3,rfl⟩ .nil))⟩,PySem.W.mg_none_of KX G b1,PySem.W.mg_none_of KX G b2,PySem.W.mg_none_of KX G b3,PySem.W.mg_none_of KX G b4,PySem.W.mg_none_of KX G b5,PySem.W.mg_none_of KX G b6,PySem.W.mg_none_of KX G b7,PySem.W.mg_none_of KX G b8,PySem.W.mg_none_of KX G b9,PySem.W.mg_none_of KX G b10,PySem.W.mg_none_of KX G b11,PySem.W.mg_none_of KX G b12,PySem.W.mg_none_of KX G b13,PySem.W.mg_none_of KX G b14,PySem.W.mg_none_of KX G b15⟩
theorem sj {P:Program}(KX:K.In h)(G:h.Ns mainGlobals mg){d v1 v2 v3 v4 v5 v6 v7 v8:Addr}{k1 k2 k3 k4 k5 k6 k7 k8 s1_1 s2_1 s2_2 s2_3 s3_1 s4_1 s4_2 s4_3 s6_1 s7_1 s8_1 s8_2:Tok}{ep n1 n2 n3 n4 n5 n6 n7 n8:Nat}{d1 d2 d3 d4 d5 d6 d7 d8:Option Addr}{l1 l2 l3 l4 l5 l6 l7 l8:Array (Option Value)}
 (a:PySem.W.nsIn K mainGlobals "FORMS"=some (some (.ref d))) (l:K.lookup d=some ⟨.type "dict",none,.dict #[⟨PyData.keyHash w.params "row",.str "row" k1,.ref v1⟩,⟨PyData.keyHash w.params "ask",.str "ask" k2,.ref v2⟩,⟨PyData.keyHash w.params "jump",.str "jump" k3,.ref v3⟩,⟨PyData.keyHash w.params "call",.str "call" k4,.ref v4⟩,⟨PyData.keyHash w.params "back",.str "back" k5,.ref v5⟩,⟨PyData.keyHash w.params "count",.str "count" k6,.ref v6⟩,⟨PyData.keyHash w.params "add",.str "add" k7,.ref v7⟩,⟨PyData.keyHash w.params "tell",.str "tell" k8,.ref v8⟩] ep, #[]⟩) (sm:(d==sysModules)=false)
 (u1:K.lookup v1=some ⟨.type "tuple",d1,.seq #[.str "from nought" s1_1] n1,l1⟩) (u2:K.lookup v2=some ⟨.type "tuple",d2,.seq #[.str "from nought" s2_1,.str "from nought" s2_2,.str "tuple" s2_3] n2,l2⟩) (u3:K.lookup v3=some ⟨.type "tuple",d3,.seq #[.str "tuple" s3_1] n3,l3⟩) (u4:K.lookup v4=some ⟨.type "tuple",d4,.seq #[.str "from nought" s4_1,.str "tuple" s4_2,.str "any" s4_3] n4,l4⟩) (u5:K.lookup v5=some ⟨.type "tuple",d5,.seq #[] n5,l5⟩) (u6:K.lookup v6=some ⟨.type "tuple",d6,.seq #[.str "from nought" s6_1] n6,l6⟩) (u7:K.lookup v7=some ⟨.type "tuple",d7,.seq #[.str "any" s7_1] n7,l7⟩) (u8:K.lookup v8=some ⟨.type "tuple",d8,.seq #[.str "from nought" s8_1,.str "any" s8_2] n8,l8⟩):iL P w K mg "FORMS" gm:=by
 refine ⟨d,_,[((Sum.inr "row":Key),.ref v1),((Sum.inr "ask":Key),.ref v2),((Sum.inr "jump":Key),.ref v3),((Sum.inr "call":Key),.ref v4),((Sum.inr "back":Key),.ref v5),((Sum.inr "count":Key),.ref v6),((Sum.inr "add":Key),.ref v7),((Sum.inr "tell":Key),.ref v8)],PySem.W.mg_of KX G a,l,⟨_,_,⟨rfl,rfl,rfl⟩,rfl,λe he=>?_,?_,by show List.Nodup [(Sum.inr "row":Key),(Sum.inr "ask":Key),(Sum.inr "jump":Key),(Sum.inr "call":Key),(Sum.inr "back":Key),(Sum.inr "count":Key),(Sum.inr "add":Key),(Sum.inr "tell":Key)];decide⟩,sm,?_⟩
 ·simp only [List.mem_toArray,List.mem_cons,List.not_mem_nil,or_false] at he
  rcases he with rfl | rfl | rfl | rfl | rfl | rfl | rfl | rfl
  ·exact ⟨Sum.inr "row",bo P w "row" k1,rfl⟩
  ·exact ⟨Sum.inr "ask",bo P w "ask" k2,rfl⟩
  ·exact ⟨Sum.inr "jump",bo P w "jump" k3,rfl⟩
  ·exact ⟨Sum.inr "call",bo P w "call" k4,rfl⟩
  ·exact ⟨Sum.inr "back",bo P w "back" k5,rfl⟩
  ·exact ⟨Sum.inr "count",bo P w "count" k6,rfl⟩
  ·exact ⟨Sum.inr "add",bo P w "add" k7,rfl⟩
  ·exact ⟨Sum.inr "tell",bo P w "tell" k8,rfl⟩
 ·exact .cons (bo P w "row" k1) rfl (.cons (bo P w "ask" k2) rfl (.cons (bo P w "jump" k3) rfl (.cons (bo P w "call" k4) rfl (.cons (bo P w "back" k5) rfl (.cons (bo P w "count" k6) rfl (.cons (bo P w "add" k7) rfl (.cons (bo P w "tell" k8) rfl (.nil))))))))
 ·exact .cons ⟨rfl,v1,_,_,_,rfl,u1,rfl,rfl,(by show 1<=sizeLine;decide),.cons ⟨s1_1,rfl⟩ (.nil)⟩ (.cons ⟨rfl,v2,_,_,_,rfl,u2,rfl,rfl,(by show 3<=sizeLine;decide),.cons ⟨s2_1,rfl⟩ (.cons ⟨s2_2,rfl⟩ (.cons ⟨s2_3,rfl⟩ (.nil)))⟩ (.cons ⟨rfl,v3,_,_,_,rfl,u3,rfl,rfl,(by show 1<=sizeLine;decide),.cons ⟨s3_1,rfl⟩ (.nil)⟩ (.cons ⟨rfl,v4,_,_,_,rfl,u4,rfl,rfl,(by show 3<=sizeLine;decide),.cons ⟨s4_1,rfl⟩ (.cons ⟨s4_2,rfl⟩ (.cons ⟨s4_3,rfl⟩ (.nil)))⟩ (.cons ⟨rfl,v5,_,_,_,rfl,u5,rfl,rfl,(by show 0<=sizeLine;decide),.nil⟩ (.cons ⟨rfl,v6,_,_,_,rfl,u6,rfl,rfl,(by show 1<=sizeLine;decide),.cons ⟨s6_1,rfl⟩ (.nil)⟩ (.cons ⟨rfl,v7,_,_,_,rfl,u7,rfl,rfl,(by show 1<=sizeLine;decide),.cons ⟨s7_1,rfl⟩ (.nil)⟩ (.cons ⟨rfl,v8,_,_,_,rfl,u8,rfl,rfl,(by show 2<=sizeLine;decide),.cons ⟨s8_1,rfl⟩ (.cons ⟨s8_2,rfl⟩ (.nil))⟩ (.nil))))))))
theorem vd (KX:K.In h)(G:h.Ns mainGlobals mg){C:Addr}{oc:Value}{od an:Option Addr}{osl:Array (Option Value)}{kV doc pm cdv ct:Value}(aC:PySem.W.nsIn K mainGlobals "Machine"=some (some (.ref C)))(a1:PySem.W.findIn K (.ref C) "__init__"=some (some (.ref f)))(i1:PySem.W.isFn K (.ref f)=true)
 (l1:K.lookup f=some ⟨oc,od,.func (PySem.W.fnOf "__init__" "Machine.__init__" (dF kX) (bT kX) (aq kX) .none kV doc pm an cdv ct),osl⟩) (c1:PySem.W.codeIn K cdv "Machine.__init__"=true) (k1:PySem.W.keepIn K (.ref f)=true) (pg:PySem.W.plainGet K C Str.empty=true) (hd:PySem.W.hasDictIn K C=true) (po:PySem.W.plainOver K C=true) (sa:PySem.W.findIn K (.ref C) "__setattr__"=some (some (.builtin "object.__setattr__"))) (mk:PySem.W.makesIn K C=true) (kc:PySem.W.keepIn K (.ref C)=true)
 (o1:PySem.W.findIn K (.ref C) "at"=some none) (o2:PySem.W.findIn K (.ref C) "frames"=some none) (o3:PySem.W.findIn K (.ref C) "boxes"=some none) (o4:PySem.W.findIn K (.ref C) "told"=some none) (o5:PySem.W.findIn K (.ref C) "chain"=some none) (o6:PySem.W.findIn K (.ref C) "rows"=some none) (o7:PySem.W.findIn K (.ref C) "used"=some none) (o8:PySem.W.findIn K (.ref C) "idle"=some none):oh K mg:=by
 refine ⟨C,f,_,⟨⟨pg,hd,po,sa⟩,λx hx=>?_⟩,⟨mk,a1,i1,kc⟩,PySem.W.mg_of KX G aC,il (st:=kX) l1 c1 k1,(il (st:=kX) l1 c1 k1).binds (ps:=["self","state"]) λ_ _ _ _ _ _ us hl=>match us,hl with | [_,_],_=>rfl⟩
 simp only [fns,List.mem_cons,List.not_mem_nil,or_false] at hx
 rcases hx with rfl | rfl | rfl | rfl | rfl | rfl | rfl | rfl
 ·exact o1
 ·exact o2
 ·exact o3
 ·exact o4
 ·exact o5
 ·exact o6
 ·exact o7
 ·exact o8
theorem uZ (KX:K.In h)(G:h.Ns mainGlobals mg){C CE C1:Addr}{cd:ClassData}(e1:PySem.W.nsIn K mainGlobals "NoAnswer"=some (some (.ref C)))(e2:PySem.W.nsIn K mainGlobals "CountError"=some (some (.ref CE)))(e3:PySem.W.nsIn K mainGlobals "NoCode"=some (some (.ref C1)))(e6:PySem.W.nsIn K mainGlobals "ValueError"=some none)
 (q1:PySem.W.excIn K C yj "ValueError.__new__"=true) (q2:PySem.W.exmOne K (.ref C) (.ref CE)=some true) (r0:PySem.W.findIn K (.ref C) "__getattribute__"=some (some (.builtin "BaseException.__getattribute__"))) (r1:PySem.W.findIn K (.ref C) "__getattr__"=some none) (r2:PySem.W.findIn K (.ref C) "__class__"=some (some (.builtin "object.__class__"))) (r3:PySem.W.specialIn K (.builtin "object.__class__") "__get__"=some (some (.builtin "getset_descriptor.__get__"))) (r4:PySem.W.takesIn K (.builtin "object.__class__")=some true) (r5:PySem.W.mroIn K C (.type "object")=some true) (r7:PySem.W.subIn K (.ref C) (.type "BaseException")=some true) (r6:PySem.W.clsIn K C=some cd) (q4:PySem.W.kitOne K (.ref C) (.ref C1)=some false) (q5:PySem.W.kitOne K (.ref C) (.ref C)=some true) (q6:PySem.W.kitOne K (.ref C) (.type "ValueError")=some true):∃C,o9 K mg C:=
 ⟨C,⟨PySem.W.mg_of KX G e1,q1⟩,⟨CE,PySem.W.mg_of KX G e2,q2⟩,by unfold dv;rw [r0,r1,r2,r3,r4,r5,r7,r6];rfl,⟨C1,PySem.W.mg_of KX G e3,q4⟩,q5,PySem.W.mg_none_of KX G e6,q6⟩
theorem zo {l:PySem.W.OpenLaw}{fa:Addr}{oc kV doc pm cdv ct:Value}{od an:Option Addr}{osl:Array (Option Value)}(KX:K.In h)(G:h.Ns mainGlobals mg)(hfa:mg "law"=some (.ref fa))(T:Top l.prog w K mg)
 (a:PySem.W.nsIn K mainGlobals "law"=some (some (.ref f))) (lk:K.lookup f=some ⟨oc,od,.func (PySem.W.fnOf "law" "law" (dF fE) (bT fE) (aq fE) .none kV doc pm an cdv ct),osl⟩) (c:PySem.W.codeIn K cdv "law"=true) (k:PySem.W.keepIn K (.ref f)=true):
 ∃fd:FuncData,(∀(s:Shared) (v:Value),BindsTo s fd ⟨[v],[]⟩ [("_law_script",v)])/\∀base:Heap,K.In base->base.Ns mainGlobals mg->cJ l.prog w K mg base dJ 7 fa fd ["_law_script"] (bg md K):=by
 have e:=hfa.symm.trans (PySem.W.mg_of KX G a)
 cases e
 exact ⟨PySem.W.fnOf "law" "law" (dF fE) (bT fE) (aq fE) .none kV doc pm an cdv ct,λs v=>.of_eq rfl,λbase _ _=>ye T (il lk c k)⟩
theorem walk {l:PySem.W.OpenLaw}{q:Program}{loose:List Str}{XP:(Str->Option Value)->Heap->Prop}{YP:World->Heap->Prop}{d:DefRec}{K:Params->PySem.W.Frag}(hn:l.most=some 63)(hdf:d.params.defaults=[])
 (hY:∀(w:World) (h:Heap),YP w h->(K w.params).In h)
 (F:∀(w:World) (mg:Str->Option Value) (fa:Addr) (h:Heap),(K w.params).In h->h.Ns mainGlobals mg->mg d.name=some (.ref fa)->
  ∃fd:FuncData,(∀(s:Shared) (u:Value),BindsTo s fd ⟨[u],[]⟩ [("_law_script",u)])/\∀base:Heap,(K w.params).In base->base.Ns mainGlobals mg->cJ l.prog w (K w.params) mg base dJ 7 fa fd ["_law_script"] (bg md (K w.params))):
 PySem.W.WalkO q loose XP YP l.row.toRowW d [] (λf vs=>PySem.call f vs):=
 L2.sE (n:=63) (k:=7) (x:="_law_script") (CX:=λ_=>dJ) (sp:=λw=>bg md (K w.params)) hn (by decide) hdf ⟨rfl,by decide,by decide⟩ hY F
   (λw H a ns hl hbits _ hS=>⟨H,[⟨cu,ns⟩],_,aw.refl _,.cons ⟨a,rfl,hS,hl⟩ .nil,⟨ns,rfl,hl,hbits,rfl⟩,λv H' R' _ t=>by obtain ⟨y,hy,rfl⟩:=t;exact hy⟩) λ_ _ _ _ _ z=>z
end
end K1
open PySem PySem.W PyProof.Rows
theorem PySem.W.Fast.tw2488890879738248807:True:=trivial
theorem PySem.W.Fast.tw8198208063026028986:True:=trivial
theorem PySem.W.Fast.tw15962807425574939074:True:=trivial
theorem PySem.W.Fast.tw14560215292850443458:True:=trivial
theorem PySem.W.Fast.tw10906576817992513222:True:=trivial
theorem PySem.W.Fast.tw9210460135959034802:True:=trivial
theorem PySem.W.Fast.tw13392974333874193304:True:=trivial
theorem PySem.W.Fast.tw12564440447426034914:True:=trivial
theorem PySem.W.Fast.tw3839097107059906904:True:=trivial
theorem PySem.W.Fast.tw16954962735520353315:True:=trivial
theorem PySem.W.Fast.tw12154829946559252785:True:=trivial
theorem PySem.W.Fast.tw3768867982798067203:True:=trivial
theorem PySem.W.Fast.tw6785146845540907572:True:=trivial
theorem PySem.W.Fast.tw16520773849659996343:True:=trivial
theorem PySem.W.Fast.tw13600119554102799559:True:=trivial
theorem PySem.W.Fast.tw11727939372323281446:True:=trivial
theorem PySem.W.Fast.tw4900693299761936864:True:=trivial
theorem PySem.W.Fast.tw10496258537910525869:True:=trivial
theorem PySem.W.Fast.tw14717360020598034300:True:=trivial
theorem PySem.W.Fast.tw8579341627394972671:True:=trivial
theorem PySem.W.Fast.tw15185661784141569364:True:=trivial
theorem PySem.W.Fast.tw8220665908895093611:True:=trivial
theorem PySem.W.Fast.tw7377525512017375369:True:=trivial
theorem PySem.W.Fast.tw15386377347183098491:True:=trivial
theorem PySem.W.Fast.tw15281271535664320078:True:=trivial
theorem PySem.W.Fast.tw7803383430784908298:True:=trivial
theorem PySem.W.Fast.tw9474543084356219013:True:=trivial
theorem PySem.W.Fast.tw10359454886741476466:True:=trivial
theorem PySem.W.Fast.tw8168511294306040077:True:=trivial
theorem PySem.W.Fast.tw12849193853848646606:True:=trivial
theorem PySem.W.Fast.tw9968446440186875608:True:=trivial
theorem PySem.W.Fast.tw5463052818248391154:True:=trivial
theorem PySem.W.Fast.tw11252439750083064883:True:=trivial
theorem PySem.W.Fast.tw14646796846377368873:True:=trivial
theorem PySem.W.Fast.tw6484807326514414891:True:=trivial
theorem PySem.W.Fast.tw5598396209976471844:True:=trivial
theorem PySem.W.Fast.tw4120772268381876213:True:=trivial
theorem PySem.W.Fast.tw2805543565094716017:True:=trivial
theorem PySem.W.Fast.tw9690929874732048518:True:=trivial
theorem PySem.W.Fast.tw7777701037552050488:True:=trivial
theorem PySem.W.Fast.tw2505689616706091593:True:=trivial
theorem PySem.W.Fast.tw1944580445873978407:True:=trivial
theorem PySem.W.Fast.tw5116236185504043144:True:=trivial
theorem PySem.W.Fast.tw16367394300855256463:True:=trivial
theorem PySem.W.Fast.tw14835430764897648735:True:=trivial
theorem PySem.W.Fast.tw11693291731574218916:True:=trivial
theorem PySem.W.Fast.tw4755082841476980372:True:=trivial
theorem PySem.W.Fast.tw15696593966698694871:True:=trivial
theorem PySem.W.Fast.tw7358189638050364390:True:=trivial
theorem PySem.W.Fast.tw7538992006215081481:True:=trivial
theorem PySem.W.Fast.tw5553254634948085808:True:=trivial
theorem PySem.W.Fast.tw6236508931862269393:True:=trivial
theorem PySem.W.Fast.tw4300850405250272147:True:=trivial
theorem PySem.W.Fast.tw10170265974614376806:True:=trivial
theorem PySem.W.Fast.tw10229003466545638701:True:=trivial
theorem PySem.W.Fast.tw5532095923312547745:True:=trivial
theorem PySem.W.Fast.tw8032837353074266924:True:=trivial
theorem PySem.W.Fast.tw10486717856322752870:True:=trivial
theorem PySem.W.Fast.tw963649543508656568:True:=trivial
theorem PySem.W.Fast.tw11503402546749499095:True:=trivial
theorem PySem.W.Fast.tw18303651390347208987:True:=trivial
theorem PySem.W.Fast.tw5920901069860999858:True:=trivial
theorem PySem.W.Fast.tw15773996315696878604:True:=trivial
theorem PySem.W.Fast.tw16902361929640653937:True:=trivial
theorem PySem.W.Fast.tw1619254753163690156:True:=trivial
theorem PySem.W.Fast.tw9332116790562959140:True:=trivial
theorem PySem.W.Fast.tw17082275128550184843:True:=trivial
theorem PySem.W.Fast.tw12941802082545690644:True:=trivial
theorem PySem.W.Fast.tw4699359144994329157:True:=trivial
theorem PySem.W.Fast.tw2474618550117797253:True:=trivial
theorem PySem.W.Fast.tw2607878611584056927:True:=trivial
theorem PySem.W.Fast.tw2678010452686319523:True:=trivial
theorem PySem.W.Fast.tw15006651365868538465:True:=trivial
theorem PySem.W.Fast.tw16101594117970372739:True:=trivial
theorem PySem.W.Fast.tw8408362360042464163:True:=trivial
theorem PySem.W.Fast.tw12342613662941481810:True:=trivial
theorem PySem.W.Fast.tw16718173912171830298:True:=trivial
theorem PySem.W.Fast.tw9546631556146475368:True:=trivial
theorem PySem.W.Fast.tw11020223186929382969:True:=trivial
theorem PySem.W.Fast.tw10421336452509514595:True:=trivial
theorem PySem.W.Fast.tw3634775858028047564:True:=trivial
theorem PySem.W.Fast.tw15905377350247498186:True:=trivial
theorem PySem.W.Fast.tw4595806883158711507:True:=trivial
theorem PySem.W.Fast.tw12813894848409039481:True:=trivial
theorem PySem.W.Fast.tw13497180466379613527:True:=trivial
theorem PySem.W.Fast.tw9506796913424328614:True:=trivial
theorem PySem.W.Fast.tw17049819258962624791:True:=trivial
theorem PySem.W.Fast.tw7785726459201513706:True:=trivial
theorem PySem.W.Fast.tw10013970803595866171:True:=trivial
theorem PySem.W.Fast.tw6797090215654709715:True:=trivial
theorem PySem.W.Fast.tw8476815061805385628:True:=trivial
theorem PySem.W.Fast.tw4152798344305029830:True:=trivial
theorem PySem.W.Fast.tw17880339978857275951:True:=trivial
theorem PySem.W.Fast.tw14211455323659788474:True:=trivial
theorem PySem.W.Fast.tw3494492703697355495:True:=trivial
theorem PySem.W.Fast.tw7721562716454767685:True:=trivial
theorem PySem.W.Fast.tw8394523863490830098:True:=trivial
theorem PySem.W.Fast.tw2177284555018057115:True:=trivial
theorem PySem.W.Fast.tw2218288505705233954:True:=trivial
theorem PySem.W.Fast.tw1707787695416063548:True:=trivial
theorem PySem.W.Fast.tw16086220984156156481:True:=trivial
theorem PySem.W.Fast.tw13194394520840687900:True:=trivial
theorem PySem.W.Fast.tw7774778203573049971:True:=trivial
theorem PySem.W.Fast.tw14719288747405646629:True:=trivial
theorem PySem.W.Fast.tw14861437371908743718:True:=trivial
theorem PySem.W.Fast.tw442618360558211764:True:=trivial
theorem PySem.W.Fast.tw11141594286029913957:True:=trivial
theorem PySem.W.Fast.tw9583407927745687708:True:=trivial
theorem PySem.W.Fast.tw16105123746195961996:True:=trivial
theorem PySem.W.Fast.tw9423381339769657559:True:=trivial
theorem PySem.W.Fast.tw3663252769411841490:True:=trivial
theorem PySem.W.Fast.tw11756411626772727757:True:=trivial
theorem PySem.W.Fast.tw3350317135936153069:True:=trivial
theorem PySem.W.Fast.tw9016005351332550326:True:=trivial
theorem PySem.W.Fast.tw2101952167677193633:True:=trivial
theorem PySem.W.Fast.tw2088358072658458320:True:=trivial
theorem PySem.W.Fast.tw17102853938927824721:True:=trivial
theorem PySem.W.Fast.tw16819925615395078455:True:=trivial
theorem PySem.W.Fast.tw15793195675765399984:True:=trivial
theorem PySem.W.Fast.tw15280560232959414481:True:=trivial
theorem PySem.W.Fast.tw12616187127864632382:True:=trivial
theorem PySem.W.Fast.tw7665375368673423731:True:=trivial
theorem PySem.W.Fast.tw17928473599815554020:True:=trivial
theorem PySem.W.Fast.tw15569661330168825392:True:=trivial
theorem PySem.W.Fast.tw9194868661174958751:True:=trivial
theorem PySem.W.Fast.tw4558794642947705824:True:=trivial
theorem PySem.W.Fast.tw7821038630697896123:True:=trivial
theorem PySem.W.Fast.tw15917530465187604354:True:=trivial
theorem PySem.W.Fast.tw11601093024084545713:True:=trivial
theorem PySem.W.Fast.tw12948429979453277362:True:=trivial
theorem PySem.W.Fast.tw7913198787784150272:True:=trivial
theorem PySem.W.Fast.tw12055880694612530439:True:=trivial
theorem PySem.W.Fast.tw11626329410778404407:True:=trivial
theorem PySem.W.Fast.tw12520668915369757974:True:=trivial
theorem PySem.W.Fast.tw4974698812341663569:True:=trivial
theorem PySem.W.Fast.tw16812081250573679018:True:=trivial
theorem PySem.W.Fast.tw5065281665201626643:True:=trivial
theorem PySem.W.Fast.tw10788985821189509502:True:=trivial
theorem PySem.W.Fast.tw17839053172532005744:True:=trivial
theorem PySem.W.Fast.tw14888129748520412555:True:=trivial
theorem PySem.W.Fast.tw13545944736178447453:True:=trivial
theorem PySem.W.Fast.tw5391799753582167920:True:=trivial
theorem PySem.W.Fast.tw18149546384733308256:True:=trivial
theorem PySem.W.Fast.tw8587992343115902503:True:=trivial
theorem PySem.W.Fast.tw3406666115182092805:True:=trivial
theorem PySem.W.Fast.tw1066918095020520911:True:=trivial
theorem PySem.W.Fast.tw10533504503475036380:True:=trivial
theorem PySem.W.Fast.tw2745115271177715594:True:=trivial
set_option maxRecDepth 100000 in
set_option maxHeartbeats 0 in
theorem PySem.Challenge.cw_fewcounters_k77_whole_machine_holds : PySem.Challenge.rw_fewcounters_k77_whole_machine.Holds := by
 w_on;o_law;k_head;(case hw=>w_witness2)
 k_fill
 refine K1.walk (l:=PySem.Challenge.rw_fewcounters_k77_whole_machine) rfl rfl (λw h Y=>PySem.W.kIn_of Y) ?F
 case F=>
  intro w mg fa h KX G hmg
  have M:K1.bZ (L2.bt KX) mg:=by
   dsimp only [L2.bt]
   refine' K1.uY KX G ?a1 ?a2 ?a3 ?a4 ?a5 ?a6 ?a7 ?a8 ?a9 ?a10 ?a11 ?a12 ?a13 ?a14 ?a15 ?g1 ?g2 ?b1 ?b2 ?b3 ?b4 ?b5 ?b6 ?b7 ?b8 ?b9 ?b10 ?b11 ?b12 ?b13 ?b14 ?b15
   (case a1=>k_is);(case a2=>k_is);(case a3=>k_is);(case a4=>k_is);(case a5=>k_is);(case a6=>k_is);(case a7=>k_is);(case a8=>k_is);(case a9=>k_is);(case a10=>k_is);(case a11=>k_is);(case a12=>k_is);(case a13=>k_is);(case a14=>k_is);(case a15=>k_is);(case g1=>k_is);(case g2=>k_is);(case b1=>k_is);(case b2=>k_is);(case b3=>k_is);(case b4=>k_is);(case b5=>k_is);(case b6=>k_is);(case b7=>k_is);(case b8=>k_is);(case b9=>k_is);(case b10=>k_is);(case b11=>k_is);(case b12=>k_is);(case b13=>k_is);(case b14=>k_is);(case b15=>k_is)
  have DFO:Fc.iL (PySem.Challenge.rw_fewcounters_k77_whole_machine).prog w (L2.bt KX) mg "FORMS" K1.gm:=by
   dsimp only [L2.bt]
   refine' K1.sj KX G ?a ?l ?sm ?u1 ?u2 ?u3 ?u4 ?u5 ?u6 ?u7 ?u8
   (case a=>k_is);(case l=>k_is);(case sm=>rfl);(case u1=>k_is);(case u2=>k_is);(case u3=>k_is);(case u4=>k_is);(case u5=>k_is);(case u6=>k_is);(case u7=>k_is);(case u8=>k_is)
  have DX:∃C,K1.o9 (L2.bt KX) mg C:=by
   dsimp only [L2.bt]
   refine' K1.uZ KX G ?e1 ?e2 ?e3 ?e6 ?q1 ?q2 ?r0 ?r1 ?r2 ?r3 ?r4 ?r5 ?r7 ?r6 ?q4 ?q5 ?q6
   (case e1=>k_is);(case e2=>k_is);(case e3=>k_is);(case e6=>k_is);(case q1=>k_exc);(case q2=>kts_exm);(case r0=>k_is);(case r1=>k_is);(case r2=>k_is);(case r3=>k_is);(case r4=>k_is);(case r5=>k_is);(case r7=>k_is);(case r6=>k_is);(case q4=>kit_is);(case q5=>kit_is);(case q6=>kit_is)
  have DMC:K1.oh (L2.bt KX) mg:=by
   dsimp only [L2.bt]
   refine' K1.vd KX G ?aC ?a1 ?i1 ?l1 ?c1 ?k1 ?pg ?hd ?po ?sa ?mk ?kc ?o1 ?o2 ?o3 ?o4 ?o5 ?o6 ?o7 ?o8
   (case aC=>k_is);(case a1=>k_is);(case i1=>k_is);(case l1=>k_is);(case c1=>k_is);(case k1=>k_is);(case pg=>k_is);(case hd=>k_is);(case po=>k_is);(case sa=>k_is);(case mk=>k_is);(case kc=>k_is);(case o1=>k_is);(case o2=>k_is);(case o3=>k_is);(case o4=>k_is);(case o5=>k_is);(case o6=>k_is);(case o7=>k_is);(case o8=>k_is)
  have DTR:Fc.Def (L2.bt KX) mg "triples" K1.pU ["tuples"]:=by
   dsimp only [L2.bt]
   refine' Fc.bF KX G ?a ?l ?c ?k ?b
   (case a=>k_is);(case l=>k_is);(case c=>k_is);(case k=>k_is);(case b=>exact λ_ _ _ _ _ _ us hl=>match us,hl with | [_],_=>rfl)
  have DAS:Fc.Def (L2.bt KX) mg "ask" K1.tM ["machine","told","answer"]:=by
   dsimp only [L2.bt]
   refine' Fc.bF KX G ?a ?l ?c ?k ?b
   (case a=>k_is);(case l=>k_is);(case c=>k_is);(case k=>k_is);(case b=>exact λ_ _ _ _ _ _ us hl=>match us,hl with | [_,_,_],_=>rfl)
  have DCL:Fc.Def (L2.bt KX) mg "call" K1.tT ["machine","told"]:=by
   dsimp only [L2.bt]
   refine' Fc.bF KX G ?a ?l ?c ?k ?b
   (case a=>k_is);(case l=>k_is);(case c=>k_is);(case k=>k_is);(case b=>exact λ_ _ _ _ _ _ us hl=>match us,hl with | [_,_],_=>rfl)
  have DSS:Fc.Def (L2.bt KX) mg "set_sum" K1.uf ["machine","number"]:=by
   dsimp only [L2.bt]
   refine' Fc.bF KX G ?a ?l ?c ?k ?b
   (case a=>k_is);(case l=>k_is);(case c=>k_is);(case k=>k_is);(case b=>exact λ_ _ _ _ _ _ us hl=>match us,hl with | [_,_],_=>rfl)
  have DGB:Fc.Def (L2.bt KX) mg "go_back" K1.uh ["machine"]:=by
   dsimp only [L2.bt]
   refine' Fc.bF KX G ?a ?l ?c ?k ?b
   (case a=>k_is);(case l=>k_is);(case c=>k_is);(case k=>k_is);(case b=>exact λ_ _ _ _ _ _ us hl=>match us,hl with | [_],_=>rfl)
  have DST:Fc.Def (L2.bt KX) mg "still_at" K1.uE ["machine","code","answers","bound"]:=by
   dsimp only [L2.bt]
   refine' Fc.bF KX G ?a ?l ?c ?k ?b
   (case a=>k_is);(case l=>k_is);(case c=>k_is);(case k=>k_is);(case b=>exact λ_ _ _ _ _ _ us hl=>match us,hl with | [_,_,_,_],_=>rfl)
  have DDN:Fc.Def (L2.bt KX) mg "do_next" K1.rk ["machine","code","answers"]:=by
   dsimp only [L2.bt]
   refine' Fc.bF KX G ?a ?l ?c ?k ?b
   (case a=>k_is);(case l=>k_is);(case c=>k_is);(case k=>k_is);(case b=>exact λ_ _ _ _ _ _ us hl=>match us,hl with | [_,_,_],_=>rfl)
  have DSO:Fc.Def (L2.bt KX) mg "state_of" K1.nu ["machine"]:=by
   dsimp only [L2.bt]
   refine' Fc.bF KX G ?a ?l ?c ?k ?b
   (case a=>k_is);(case l=>k_is);(case c=>k_is);(case k=>k_is);(case b=>exact λ_ _ _ _ _ _ us hl=>match us,hl with | [_],_=>rfl)
  have DBE:Fc.Def (L2.bt KX) mg "begun" K1.uo []:=by
   dsimp only [L2.bt]
   refine' Fc.bF KX G ?a ?l ?c ?k ?b
   (case a=>k_is);(case l=>k_is);(case c=>k_is);(case k=>k_is);(case b=>exact λ_ _ _ _ _ _ us hl=>match us,hl with | [],_=>rfl)
  have DIW:Fc.Def (L2.bt KX) mg "is_whole" K1.tX ["value"]:=by
   dsimp only [L2.bt]
   refine' Fc.bF KX G ?a ?l ?c ?k ?b
   (case a=>k_is);(case l=>k_is);(case c=>k_is);(case k=>k_is);(case b=>exact λ_ _ _ _ _ _ us hl=>match us,hl with | [_],_=>rfl)
  have DAW:Fc.Def (L2.bt KX) mg "are_whole" K1.pz ["values"]:=by
   dsimp only [L2.bt]
   refine' Fc.bF KX G ?a ?l ?c ?k ?b
   (case a=>k_is);(case l=>k_is);(case c=>k_is);(case k=>k_is);(case b=>exact λ_ _ _ _ _ _ us hl=>match us,hl with | [_],_=>rfl)
  have DNA:Fc.Def (L2.bt KX) mg "need_answers" K1.mn ["answers","bound"]:=by
   dsimp only [L2.bt]
   refine' Fc.bF KX G ?a ?l ?c ?k ?b
   (case a=>k_is);(case l=>k_is);(case c=>k_is);(case k=>k_is);(case b=>exact λ_ _ _ _ _ _ us hl=>match us,hl with | [_,_],_=>rfl)
  have DIN:Fc.Def (L2.bt KX) mg "is_number_of" K1.ux ["value","wanted","size"]:=by
   dsimp only [L2.bt]
   refine' Fc.bF KX G ?a ?l ?c ?k ?b
   (case a=>k_is);(case l=>k_is);(case c=>k_is);(case k=>k_is);(case b=>exact λ_ _ _ _ _ _ us hl=>match us,hl with | [_,_,_],_=>rfl)
  have DIT:Fc.Def (L2.bt KX) mg "is_tuple_of_code" K1.pG ["told","size"]:=by
   dsimp only [L2.bt]
   refine' Fc.bF KX G ?a ?l ?c ?k ?b
   (case a=>k_is);(case l=>k_is);(case c=>k_is);(case k=>k_is);(case b=>exact λ_ _ _ _ _ _ us hl=>match us,hl with | [_,_],_=>rfl)
  have DLC:Fc.Def (L2.bt KX) mg "look_code" K1.ug ["code"]:=by
   dsimp only [L2.bt]
   refine' Fc.bF KX G ?a ?l ?c ?k ?b
   (case a=>k_is);(case l=>k_is);(case c=>k_is);(case k=>k_is);(case b=>exact λ_ _ _ _ _ _ us hl=>match us,hl with | [_],_=>rfl)
  have DSP:Fc.Def (L2.bt KX) mg "step" K1.qg ["code","state","answers","bound"]:=by
   dsimp only [L2.bt]
   refine' Fc.bF KX G ?a ?l ?c ?k ?b
   (case a=>k_is);(case l=>k_is);(case c=>k_is);(case k=>k_is);(case b=>exact λ_ _ _ _ _ _ us hl=>match us,hl with | [_,_,_,_],_=>rfl)
  have DRC:Fc.Def (L2.bt KX) mg "run_code" K1.pA ["code","answers","bound"]:=by
   dsimp only [L2.bt]
   refine' Fc.bF KX G ?a ?l ?c ?k ?b
   (case a=>k_is);(case l=>k_is);(case c=>k_is);(case k=>k_is);(case b=>exact λ_ _ _ _ _ _ us hl=>match us,hl with | [_,_,_],_=>rfl)
  have DWH:Fc.Def (L2.bt KX) mg "_law_whole" K1.uD ["_law_found"]:=by
   dsimp only [L2.bt]
   refine' Fc.bF KX G ?a ?l ?c ?k ?b
   (case a=>k_is);(case l=>k_is);(case c=>k_is);(case k=>k_is);(case b=>exact λ_ _ _ _ _ _ us hl=>match us,hl with | [_],_=>rfl)
  have DDW:Fc.Def (L2.bt KX) mg "_law_draws" K1.uG ["_law_script","_law_many"]:=by
   dsimp only [L2.bt]
   refine' Fc.bF KX G ?a ?l ?c ?k ?b
   (case a=>k_is);(case l=>k_is);(case c=>k_is);(case k=>k_is);(case b=>exact λ_ _ _ _ _ _ us hl=>match us,hl with | [_,_],_=>rfl)
  have DLN:Fc.Def (L2.bt KX) mg "_law_line" K1.tO ["_law_number","_law_many"]:=by
   dsimp only [L2.bt]
   refine' Fc.bF KX G ?a ?l ?c ?k ?b
   (case a=>k_is);(case l=>k_is);(case c=>k_is);(case k=>k_is);(case b=>exact λ_ _ _ _ _ _ us hl=>match us,hl with | [_,_],_=>rfl)
  have DSL:Fc.Def (L2.bt KX) mg "_law_still" K1.tQ ["_law_code","_law_state","_law_answers","_law_bound"]:=by
   dsimp only [L2.bt]
   refine' Fc.bF KX G ?a ?l ?c ?k ?b
   (case a=>k_is);(case l=>k_is);(case c=>k_is);(case k=>k_is);(case b=>exact λ_ _ _ _ _ _ us hl=>match us,hl with | [_,_,_,_],_=>rfl)
  have DWS:Fc.Def (L2.bt KX) mg "_law_whole_state" K1.nS ["_law_state"]:=by
   dsimp only [L2.bt]
   refine' Fc.bF KX G ?a ?l ?c ?k ?b
   (case a=>k_is);(case l=>k_is);(case c=>k_is);(case k=>k_is);(case b=>exact λ_ _ _ _ _ _ us hl=>match us,hl with | [_],_=>rfl)
  have DRX:Fc.Def (L2.bt KX) mg "_law_refused" K1.tZ ["_law_way","_law_code","_law_answers","_law_bound"]:=by
   dsimp only [L2.bt]
   refine' Fc.bF KX G ?a ?l ?c ?k ?b
   (case a=>k_is);(case l=>k_is);(case c=>k_is);(case k=>k_is);(case b=>exact λ_ _ _ _ _ _ us hl=>match us,hl with | [_,_,_,_],_=>rfl)
  have DBX:Fc.Def (L2.bt KX) mg "_law_box" K1.nA ["_law_boxes","_law_box_here"]:=by
   dsimp only [L2.bt]
   refine' Fc.bF KX G ?a ?l ?c ?k ?b
   (case a=>k_is);(case l=>k_is);(case c=>k_is);(case k=>k_is);(case b=>exact λ_ _ _ _ _ _ us hl=>match us,hl with | [_,_],_=>rfl)
  have DNR:Fc.Def (L2.bt KX) mg "_law_near" K1.tY ["_law_code","_law_state","_law_answers"]:=by
   dsimp only [L2.bt]
   refine' Fc.bF KX G ?a ?l ?c ?k ?b
   (case a=>k_is);(case l=>k_is);(case c=>k_is);(case k=>k_is);(case b=>exact λ_ _ _ _ _ _ us hl=>match us,hl with | [_,_,_],_=>rfl)
  have DCP:Fc.Def (L2.bt KX) mg "_law_copy" K1.rA ["_law_state"]:=by
   dsimp only [L2.bt]
   refine' Fc.bF KX G ?a ?l ?c ?k ?b
   (case a=>k_is);(case l=>k_is);(case c=>k_is);(case k=>k_is);(case b=>exact λ_ _ _ _ _ _ us hl=>match us,hl with | [_],_=>rfl)
  have DID:Fc.Def (L2.bt KX) mg "_law_idle" K1.qH ["_law_number"]:=by
   dsimp only [L2.bt]
   refine' Fc.bF KX G ?a ?l ?c ?k ?b
   (case a=>k_is);(case l=>k_is);(case c=>k_is);(case k=>k_is);(case b=>exact λ_ _ _ _ _ _ us hl=>match us,hl with | [_],_=>rfl)
  refine' K1.zo KX G hmg ⟨M,DFO,DX,DMC,DTR,DAS,DCL,DSS,DGB,DST,DDN,DSO,DBE,DIW,DAW,DNA,DIN,DIT,DLC,DSP,DRC,DWH,DDW,DLN,DSL,DWS,DRX,DBX,DNR,DCP,DID⟩ ?a ?l ?c ?k
  (case a=>k_is);(case l=>k_is);(case c=>k_is);(case k=>k_is)
