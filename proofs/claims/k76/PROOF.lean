import PyProof.Rows.All
import Wide.All
import OpenK.AllK
import Wide.FinOn
import Lean
import PyProof.EqAt
import PyProof.EqKinds
import PyProof.TupleCall
import PyProof.NeKinds
import PyProof.WalksEnum
import PyProof.EnumMake
import KE.KTryMore
import PyProof.NsDelKeeps
import PyProof.SumWalkG
import PyProof.SeqI3
import KE.KDictSum
import PyProof.AttrMiss
import PyProof.IsiH_list
import KE.KDictOf
import PySem.Challenge.RW_fewcounters_k76_codes_looked_at
import PyProof.ZipIter
import PyProof.TupleIter
import PyProof.Draws
import PyProof.StrCalls
set_option Elab.async false
set_option linter.all false
set_option maxRecDepth 100000
namespace L2
open PySem PySem.Spec PyProof.Rows
section
variable {a b:Addr}
abbrev Key:=Sum Int Str
def h8:Key->Value->Bool
 | .inl k,v=>Value.isInt k v
 | .inr x,v=>Value.isStrOf x v
def Bw (w:World):Key->Int
 | .inl k=>hashInt k
 | .inr x=>hashStr w x
theorem cg:∀{k:Key} {v:Value},h8 k v=true->(∃i t,k=Sum.inl i/\v=Value.int i t)∨(∃x t,k=Sum.inr x/\v=Value.str x t)
 | .inl i,v,h=>by
   obtain ⟨t,e⟩:=Value.isInt_shape (k:=i) (v:=v) h
   exact .inl ⟨i,t,rfl,e⟩
 | .inr x,v,h=>by
   obtain ⟨t,e⟩:=Value.isStrOf_shape (x:=x) (v:=v) h
   exact .inr ⟨x,t,rfl,e⟩
theorem qG (i:Int)(t:Tok):h8 (.inl i) (.int i t)=true:=by simp [h8,Value.isInt]
theorem qW (x:Str)(t:Tok):h8 (.inr x) (.str x t)=true:=by simp [h8,Value.isStrOf]
theorem vZ (a b:Int):decide ((Sum.inl a:Key)=Sum.inl b)=(a==b):=by
 by_cases e:a=b
 ·subst e;simp
 ·have h:¬(Sum.inl a:Key)=Sum.inl b:=λq=>e (Sum.inl.inj q)
  rw [decide_eq_false h]
  exact (beq_eq_false_iff_ne.mpr e).symm
theorem yE (a b:Str):decide ((Sum.inr a:Key)=Sum.inr b)=decide (a=b):=by
 by_cases e:a=b
 ·subst e;simp
 ·have h:¬(Sum.inr a:Key)=Sum.inr b:=λq=>e (Sum.inr.inj q)
  rw [decide_eq_false h,decide_eq_false e]
theorem wX (a:Int)(b:Str):decide ((Sum.inl a:Key)=Sum.inr b)=false:=decide_eq_false (λq=>nomatch q)
theorem we (a:Str)(b:Int):decide ((Sum.inr a:Key)=Sum.inl b)=false:=decide_eq_false (λq=>nomatch q)
def bw (prog:Program)(w:World):PySem.KeyKind prog w Key where
 is:=h8
 hash:=Bw w
 inj:=λv a b ha hb=>by
  rcases cg ha with ⟨i,t,rfl,rfl⟩ | ⟨x,t,rfl,rfl⟩
  ·rcases cg hb with ⟨j,u,rfl,e⟩ | ⟨y,u,rfl,e⟩
   ·injection e with e1 _;rw [e1]
   ·exact nomatch e
  ·rcases cg hb with ⟨j,u,rfl,e⟩ | ⟨y,u,rfl,e⟩
   ·exact nomatch e
   ·injection e with e1 _;rw [e1]
 byValue:=λk v h=>by
  rcases cg h with ⟨i,t,rfl,rfl⟩ | ⟨x,t,rfl,rfl⟩<;>rfl
 pyHash:=λhv h=>by
  rcases cg hv with ⟨i,t,rfl,rfl⟩ | ⟨x,t,rfl,rfl⟩
  ·exact wpAny_pyHash_int h
  ·exact wpAny_pyHash_str h
 eqBool:=λhu hv h=>by
  rcases cg hu with ⟨i,t,rfl,rfl⟩ | ⟨x,t,rfl,rfl⟩
  ·rcases cg hv with ⟨j,u,rfl,rfl⟩ | ⟨y,u,rfl,rfl⟩
   ·rw [vZ] at h;exact wpAny_eqBool_int h
   ·rw [wX] at h;exact SeqAt.EqAt.int_str i t y u _ _ _ _ h
  ·rcases cg hv with ⟨j,u,rfl,rfl⟩ | ⟨y,u,rfl,rfl⟩
   ·rw [we] at h;exact SeqAt.EqAt.str_int x t j u _ _ _ _ h
   ·rw [yE] at h;exact wpAny_eqBool_str h
 «strs»:=λk x t v h=>by
  rcases cg h with ⟨i,u,rfl,e⟩ | ⟨y,u,rfl,e⟩
  ·exact nomatch e
  ·injection e with e1 _
   subst e1
   cases v<;>rfl
theorem mT (prog:Program)(w:World)(i:Int)(t:Tok):(bw prog w).is (.inl i) (.int i t)=true:=qG i t
theorem ba (prog:Program)(w:World)(x:Str)(t:Tok):(bw prog w).is (.inr x) (.str x t)=true:=qW x t
inductive V where
 | non | bl (b:Bool) | int (i:Int) | str (x:Str) | byt (b:Array UInt8) | flt (b:UInt64) | ref (a:Addr) | ty (n:String)
 deriving DecidableEq
def RelV:V->Value->Prop
 | .non,u=>u=Value.none
 | .bl b,u=>u=Value.bool b
 | .int i,u=>∃t,u=Value.int i t
 | .str x,u=>∃t,u=Value.str x t
 | .byt b,u=>∃t,u=Value.bytes b t
 | .flt b,u=>∃t,u=Value.float b t
 | .ref a,u=>u=Value.ref a
 | .ty n,u=>u=Value.type n
abbrev Vals:List V->List Value->Prop:=Paired RelV
theorem Vals.length {xs:List V}{us:List Value}(r:Vals xs us):xs.length=us.length:=Paired.length r
theorem Vals.get:∀{xs:List V} {us:List Value} {i:Nat} {x:V},Vals xs us->xs[i]?=some x->∃u,us[i]?=some u/\RelV x u
 | _,_,_,_,.nil,e=>by simp at e
 | _,_,0,_,.cons r _,e=>by simp at e;subst e;exact ⟨_,rfl,r⟩
 | _,_,i + 1,x,.cons _ t,e=>by
   obtain ⟨u,h1,h2⟩:=Vals.get (i:=i) (x:=x) t (by simpa using e)
   exact ⟨u,by simpa using h1,h2⟩
theorem Vals.set {x:V}{u:Value}(r:RelV x u):∀{xs:List V} {us:List Value} (i:Nat),Vals xs us->Vals (xs.set i x) (us.set i u)
 | _,_,_,.nil=>.nil
 | _,_,0,.cons _ t=>.cons r t
 | _,_,i + 1,.cons q t=>.cons q (Vals.set r i t)
theorem Vals.append:∀{xs ys:List V} {us ws:List Value},Vals xs us->Vals ys ws->Vals (xs++ys) (us++ws)
 | _,_,_,_,.nil,s=>s
 | _,_,_,_,.cons r t,s=>.cons r (Vals.append t s)
theorem Vals.take:∀{xs:List V} {us:List Value} (n:Nat),Vals xs us->Vals (xs.take n) (us.take n)
 | _,_,0,_=>.nil
 | _,_,_ + 1,.nil=>.nil
 | _,_,n + 1,.cons r t=>.cons r (Vals.take n t)
theorem Vals.drop:∀{xs:List V} {us:List Value} (n:Nat),Vals xs us->Vals (xs.drop n) (us.drop n)
 | _,_,0,r=>r
 | _,_,_ + 1,.nil=>.nil
 | _,_,n + 1,.cons _ t=>Vals.drop n t
def dW:Option V->Option Value->Prop
 | some v,some u=>RelV v u
 | none,none=>True
 | _,_=>False
def KV {κ:Type}:List (κ×V)->List (κ×Value)->Prop:=Paired λ(p:κ×V) (q:κ×Value)=>p.1=q.1/\RelV p.2 q.2
def kV:Key->V
 | .inl i=>.int i
 | .inr x=>.str x
inductive HO where
 /-- a list -/
 | lst (xs:List V)
 /-- a tuple (never changes) -/
 | tup (xs:List V)
 /-- a dict whose keys are ints and texts;one whose keys are tuples of ints and texts (the empty one is both) -/
 | dK (kvs:List (Key×V)) | dT (kvs:List (List Key×V))
 /-- a set of ints:its members,its size -/
 | set (S:Int->Bool) (n:Nat)
 /-- an instance of the class at C,its dict at dx,its attributes -/
 | ins (C dx:Addr) (fs:List (Str×V))
 /-- the dict of the instance at x -/
 | own (x:Addr)
 /-- the dict of an exception -/
 | xd (fs:List (Str×V))
 /-- a bound method,f of x -/
 | met (f x:Addr)
 /-- a range object lo,lo + 1,.. below hi -/
 | rng (lo hi:Int)
 /-- a thing that is known to the object (the script;a dict while a loop walks it):read,never written while it is so -/
 | frz (o:Obj) (u:HO)
 /-- a code object's table -/
 | tbl (ps:Array Value)
 /-- any other thing,by what is true of its one object (a def of one's own:SetO a S n:=HO.ext λh=>..) -/
 | ext (φ:Heap->Prop)
abbrev Hp:=Addr->Option HO
def upd (H:Hp)(a:Addr)(o:HO):Hp:=λb=>if b=a then some o else H b
theorem aA {H:Hp}{o:HO}:upd H a o a=some o:=by unfold upd;rw [if_pos rfl]
theorem az {H:Hp}{o:HO}(h:b≠a):upd H a o b=H b:=by unfold upd;rw [if_neg h]
theorem y8 {H:Hp}{o u:HO}(h:H a=some o)(h':H b=some u)(d:o≠u):a≠b:=by
 intro e;subst e;rw [h] at h';exact d (Option.some.inj h')
theorem bZ {H:Hp}{o:HO}(h:H a=some o)(h':H b=none):a≠b:=by
 intro e;subst e;rw [h] at h';cases h'
end
section
variable (P:Program)(w:World)
def br (H:Hp)(h:Heap)(a:Addr):HO->Prop
 | .lst xs=>xs.length<=sizeLine/\∃(its:List Value) (n:Nat),Vals xs its/\h.get? a=some {cls:=.type "list",data:=.seq its.toArray n}
 | .tup xs=>xs.length<=sizeLine/\∃its:List Value,Vals xs its/\IsTup h a its.toArray
 | .dK kvs=>kvs.length<=sizeLine/\(a==sysModules)=false/\∃vs,KV kvs vs/\h.DictOf (bw P w) a vs
 | .dT kvs=>kvs.length<=sizeLine/\(a==sysModules)=false/\∃xs:List (List Key×Addr×Value),
  Paired (λ(p:List Key×V) (q:List Key×Addr×Value)=>p.1=q.1/\H q.2.1=some (.tup (p.1.map kV))/\RelV p.2 q.2.2) kvs xs/\
  ∃o es ep,h.get? a=some o/\o.ExactDict/\o.data= .dict es ep/\es.toList=xs.map (entryOfKey (tupleKind (bw P w)))/\(xs.map (·.1)).Nodup
 | .set S n=>h.SetOf (intKind P w) a S n
 | .ins C dx fs=>H dx=some (.own a)/\fs.length<=1000/\dx≠a/\h.get? a=some (PySem.W.instObj C dx)/\
  ∃mA,h.Ns1 dx mA/\(∀f,dW (fs.lookup f) (mA f))/\PySem.Within mA (fs.map (·.1))
 | .own _=>∃o,h.get? a=some o
 | .xd fs=>∃mA,h.Ns1 a mA/\∀f,dW (fs.lookup f) (mA f)
 | .rng lo hi=>∃t u v,h.get? a=some {cls:=.type "range",data:=.fields #[.int lo t,.int hi u,.int 1 v]}
 | .frz o u=>h.get? a=some o/\br H h a u
 | .tbl ps=>h.get? a=some {cls:=.none,data:=.fields ps}
 | .met f x=>h.get? a=some (PySem.W.methodObj (.ref f) (.ref x))
 | .ext φ=>φ h/\(∃o,h.get? a=some o)/\∀h1 h2:Heap,φ h1->(∀o,h1.get? a=some o->h2.get? a=some o)->φ h2
def bO (H:Hp)(h:Heap):Prop:=∀a o,H a=some o->br P w H h a o
end
section
variable {P:Program}{w:World}{H H':Hp}{h h':Heap}{a:Addr}{o:HO}
theorem br.lt (x:br P w H h a o):a < h.objs.size:=by
 cases o with
 | lst xs=>obtain ⟨_,_,_,_,e⟩:=x;exact Heap.lt_size e
 | tup xs=>obtain ⟨_,_,_,p⟩:=x;exact p.lt
 | dK kvs=>obtain ⟨_,_,_,_,o,_,_,e,_⟩:=x;exact Heap.lt_size e
 | dT kvs=>obtain ⟨_,_,_,_,o,_,_,e,_⟩:=x;exact Heap.lt_size e
 | set S n=>obtain ⟨o,_,_,_,e,_⟩:=x;exact Heap.lt_size e
 | ins C dx fs=>obtain ⟨_,_,_,e,_⟩:=x;exact Heap.lt_size e
 | own y=>obtain ⟨_,e⟩:=x;exact Heap.lt_size e
 | xd fs=>obtain ⟨_,⟨_,_,_,e,_⟩,_⟩:=x;exact Heap.lt_size e
 | rng lo hi=>obtain ⟨_,_,_,e⟩:=x;exact Heap.lt_size e
 | frz ob u=>obtain ⟨e,_⟩:=x;exact Heap.lt_size e
 | tbl ps=>exact Heap.lt_size (show h.get? a=some _ from x)
 | met f y=>exact Heap.lt_size (show h.get? a=some _ from x)
 | ext φ=>obtain ⟨_,⟨_,e⟩,_⟩:=x;exact Heap.lt_size e
theorem Paired.rG {α β:Type}{F G:α->β->Prop}:∀{l₁:List α} {l₂:List β},Paired F l₁ l₂->(∀a b,F a b->G a b)->Paired G l₁ l₂
 | _,_,.nil,_=>.nil
 | _,_,.cons r t,f=>.cons (f _ _ r) (Paired.rG t f)
theorem br.eP (x:br P w H h a o)(k:∀b u,(b=a∨H b=some (.own a))->h.get? b=some u->h'.get? b=some u)
 (ho:∀b,H b=some (.own a)->H' b=some (.own a)) (ht:∀b xs,H b=some (.tup xs)->H' b=some (.tup xs)):br P w H' h' a o:=by
 induction o with
 | lst xs=>obtain ⟨z,its,n,r,e⟩:=x;exact ⟨z,its,n,r,k _ _ (.inl rfl) e⟩
 | tup xs=>obtain ⟨z,its,r,ob,e,c⟩:=x;exact ⟨z,its,r,ob,k _ _ (.inl rfl) e,c⟩
 | dK kvs=>obtain ⟨z,y,vs,r,ob,es,ep,e,c⟩:=x;exact ⟨z,y,vs,r,ob,es,ep,k _ _ (.inl rfl) e,c⟩
 | dT kvs=>
   obtain ⟨z,y,xs,r,ob,es,ep,e,c⟩:=x
   exact ⟨z,y,xs,Paired.rG r λp q z=>⟨z.1,ht _ _ z.2.1,z.2.2⟩,ob,es,ep,k _ _ (.inl rfl) e,c⟩
 | set S n=>obtain ⟨ob,es,ep,t,e,c⟩:=x;exact ⟨ob,es,ep,t,k _ _ (.inl rfl) e,c⟩
 | ins C dx fs=>
   obtain ⟨d,z,ne,e,mA,⟨od,es,ep,e2,c⟩,r⟩:=x
   exact ⟨ho _ d,z,ne,k _ _ (.inl rfl) e,mA,⟨od,es,ep,k _ _ (.inr d) e2,c⟩,r⟩
 | own y=>obtain ⟨ob,e⟩:=x;exact ⟨ob,k _ _ (.inl rfl) e⟩
 | xd fs=>obtain ⟨mA,⟨od,es,ep,e,c⟩,r⟩:=x;exact ⟨mA,⟨od,es,ep,k _ _ (.inl rfl) e,c⟩,r⟩
 | rng lo hi=>obtain ⟨t,u,v,e⟩:=x;exact ⟨t,u,v,k _ _ (.inl rfl) e⟩
 | frz ob u ih=>obtain ⟨e,q⟩:=x;exact ⟨k _ _ (.inl rfl) e,ih q⟩
 | tbl ps=>
   have e:h.get? a=some {cls:=.none,data:=.fields ps}:=x
   show h'.get? a=some {cls:=.none,data:=.fields ps}
   exact k a _ (.inl rfl) e
 | met f y=>
   have e:h.get? a=some (PySem.W.methodObj (.ref f) (.ref y)):=x
   show h'.get? a=some (PySem.W.methodObj (.ref f) (.ref y))
   exact k a _ (.inl rfl) e
 | ext φ=>obtain ⟨p,⟨o,e⟩,st⟩:=x;exact ⟨st _ _ p λo q=>k _ _ (.inl rfl) q,⟨o,k _ _ (.inl rfl) e⟩,st⟩
theorem bO.lt (x:bO P w H h)(e:H a=some o):a < h.objs.size:=(x a o e).lt
theorem bO.fresh (x:bO P w H h)(e:h.objs.size<=a):H a=none:=by
 cases q:H a with
 | none=>rfl
 | some u=>exact absurd (Nat.lt_of_lt_of_le (x.lt q) e) (Nat.lt_irrefl _)
theorem bO.kept (x:bO P w H h)(k:∀b u,h.get? b=some u->h'.get? b=some u):bO P w H h':=λa o e=>
 (x a o e).eP (λb u _ q=>k b u q) (λ_ q=>q) λ_ _ q=>q
theorem bO.laid (x:bO P w H h)(k:∀b u,h.get? b=some u->h'.get? b=some u)(hp:h.objs.size<=a)(new:br P w (upd H a o) h' a o):bO P w (upd H a o) h':=λb u e=>by
 have hn:=x.fresh hp
 by_cases hb:b=a
 ·subst hb;rw [aA] at e;cases e;exact new
 ·rw [az hb] at e
  exact (x b u e).eP (λc v _ q=>k c v q) (λc q=>by rw [az (bZ q hn)];exact q) λc xs q=>by rw [az (bZ q hn)];exact q
end
def Rd (H:Hp)(a:Addr)(u:HO):Prop:=H a=some u∨∃o,H a=some (.frz o u)
theorem Rd.ok {P:Program}{w:World}{H:Hp}{h:Heap}{a:Addr}{u:HO}(r:Rd H a u)(x:bO P w H h):br P w H h a u:=by
 rcases r with r | ⟨o,r⟩
 ·exact x a u r
 ·obtain ⟨_,q⟩:=x a _ r
  exact q
def rC:Option HO->Prop
 | some (.lst _)=>True
 | some (.dK _)=>True
 | some (.dT _)=>True
 | some (.set _ _)=>True
 | some (.ins _ _ _)=>True
 | some (.ext _)=>True
 | _=>False
section
variable {P:Program}{w:World}{H:Hp}{h h':Heap}{x e:Addr}{o':HO}
theorem bO.write (ok:bO P w H h)(mu:rC (H x))(he:e=x∨H e=some (.own x))(k:∀b u,b≠e->h.get? b=some u->h'.get? b=some u)(heo:∃u,h'.get? e=some u)
 (new:br P w (upd H x o') h' x o'):bO P w (upd H x o') h':=λb u q=>by
 have nown:∀c y,H c=some (.own y)->c≠x:=λc y r z=>by subst z;rw [r] at mu;exact mu
 have ntup:∀c xs,H c=some (.tup xs)->c≠x:=λc xs r z=>by subst z;rw [r] at mu;exact mu
 by_cases hb:b=x
 ·subst hb;rw [aA] at q;cases q;exact new
 ·rw [az hb] at q
  by_cases hbe:b=e
  ·have q':H b=some (.own x):=by
    rcases he with z | z
    ·exact absurd (hbe.trans z) hb
    ·rw [hbe];exact z
   rw [q] at q';cases q'
   obtain ⟨v,hv⟩:=heo
   exact ⟨v,by rw [hbe];exact hv⟩
  ·refine (ok b u q).eP (λc v hc r=>k c v ?_ r) (λc r=>by rw [az (nown c b r)];exact r) λc xs r=>by rw [az (ntup c xs r)];exact r
   rcases hc with rfl | hc
   ·exact hbe
   ·rintro rfl
    rcases he with z | z
    ·exact nown c b hc z
    ·rw [hc] at z;cases z;exact hb rfl
end
structure Un (fs ex:List Addr) (H H':Hp) (h h':Heap):Prop where
 keep:∀b o,h.get? b=some o->H b=none->b∉fs->b∉ex->h'.get? b=some o
 slot:∀b o,h.get? b=some o->H b=none->b∈fs->b∉ex->∃sl,h'.get? b=some {o with slots:=sl}
 free:∀b o,h.get? b=some o->H b=none->b∉ex->H' b=none
 there:∀b o,h.get? b=some o->b∉ex->∃o',h'.get? b=some o'
 tups:∀b xs,H b=some (.tup xs)->H' b=some (.tup xs)
 frzs:∀b o u,H b=some (.frz o u)->H' b=some (.frz o u)
 tbls:∀b ps,H b=some (.tbl ps)->∃more,H' b=some (.tbl (ps++more))
section
variable {fs fs' ex ex':List Addr}{H H1 H2:Hp}{h h1 h2 h':Heap}{a x e:Addr}{o:HO}
theorem Un.any (u:Un fs ex H H1 h h1){b:Addr}{ob:Obj}(q:h.get? b=some ob)(n:H b=none)(hx:b∉ex):∃sl,h1.get? b=some {ob with slots:=sl}:=by
 by_cases hb:b∈fs
 ·exact u.slot b ob q n hb hx
 ·exact ⟨ob.slots,u.keep b ob q n hb hx⟩
theorem Un.trans (a:Un fs ex H H1 h h1)(b:Un fs ex H1 H2 h1 h2):Un fs ex H H2 h h2 where
 keep:=λc ob q n hc hx=>b.keep c ob (a.keep c ob q n hc hx) (a.free c ob q n hx) hc hx
 slot:=λc ob q n hc hx=>by
  obtain ⟨sl,e1⟩:=a.slot c ob q n hc hx
  obtain ⟨sl',e2⟩:=b.slot c _ e1 (a.free c ob q n hx) hc hx
  exact ⟨sl',e2⟩
 free:=λc ob q n hx=>by
  obtain ⟨o',e1⟩:=a.there c ob q hx
  exact b.free c o' e1 (a.free c ob q n hx) hx
 there:=λc ob q hx=>by
  obtain ⟨o',e1⟩:=a.there c ob q hx
  exact b.there c o' e1 hx
 tups:=λc xs q=>b.tups c xs (a.tups c xs q)
 frzs:=λc ob xs q=>b.frzs c ob xs (a.frzs c ob xs q)
 tbls:=λc ps q=>by
  obtain ⟨m1,e1⟩:=a.tbls c ps q
  obtain ⟨m2,e2⟩:=b.tbls c _ e1
  exact ⟨m1++m2,by rw [e2,Array.append_assoc]⟩
theorem Un.kept (k:∀b u,h.get? b=some u->h'.get? b=some u):Un fs ex H H h h':=
 ⟨λb ob q _ _ _=>k b ob q,λb ob q _ _ _=>⟨ob.slots,k b ob q⟩,λ_ _ _ n _=>n,λb ob q _=>⟨ob,k b ob q⟩,λ_ _ q=>q,λ_ _ _ q=>q,λ_ ps q=>⟨#[],by rw [q];simp⟩⟩
theorem Un.refl:Un fs ex H H h h:=Un.kept λ_ _ q=>q
theorem Un.laid (k:∀b u,h.get? b=some u->h'.get? b=some u)(hp:h.objs.size<=a)(hn:H a=none):Un fs ex H (upd H a o) h h' where
 keep:=λb u q _ _ _=>k b u q
 slot:=λb u q _ _ _=>⟨u.slots,k b u q⟩
 free:=λb u q n _=>by rw [az (Nat.ne_of_lt (Nat.lt_of_lt_of_le (Heap.lt_size q) hp))];exact n
 there:=λb u q _=>⟨u,k b u q⟩
 tups:=λb xs q=>by rw [az (bZ q hn)];exact q
 frzs:=λb u xs q=>by rw [az (bZ q hn)];exact q
 tbls:=λb ps q=>⟨#[],by rw [az (bZ q hn),q];simp⟩
theorem Un.write (mu:rC (H x))(he:e=x∨H e=some (.own x))(k:∀b u,b≠e->h.get? b=some u->h'.get? b=some u)(heo:∃u,h'.get? e=some u):Un fs ex H (upd H x o) h h':=by
 have hx:∀b,H b=none->b≠x:=λb n z=>by subst z;rw [n] at mu;exact mu
 have hb:∀b,H b=none->b≠e:=λb n z=>by
  subst z
  rcases he with r | r
  ·exact hx b n r
  ·rw [n] at r;cases r
 have hm:∀b u,H b=some u->¬rC (some u)->b≠x:=λb u q nm z=>by subst z;rw [q] at mu;exact nm mu
 refine ⟨λb u q n _ _=>k b u (hb b n) q,λb u q n _ _=>⟨u.slots,k b u (hb b n) q⟩,λb u q n _=>by rw [az (hx b n)];exact n,λb u q _=>?_,
  λb xs q=>by rw [az (hm b _ q λz=>z)];exact q,λb u xs q=>by rw [az (hm b _ q λz=>z)];exact q,λb ps q=>⟨#[],by rw [az (hm b _ q λz=>z),q];simp⟩⟩
 by_cases hbe:b=e
 ·subst hbe;exact heo
 ·exact ⟨u,k b u hbe q⟩
theorem Un.mono (u:Un fs ex H H1 h h1)(hs:∀b∈fs,b∈fs')(hx:∀b∈ex,b∈ex'):Un fs' ex' H H1 h h1:=
 ⟨λb ob q n hb he=>u.keep b ob q n (λz=>hb (hs b z)) λz=>he (hx b z),λ_ _ q n _ he=>u.any q n λz=>he (hx _ z),λb ob q n he=>u.free b ob q n λz=>he (hx b z),λb ob q he=>u.there b ob q λz=>he (hx b z),u.tups,u.frzs,u.tbls⟩
end
def tL (h:Heap)(H:Hp):List Addr:=(List.range h.objs.size).filter λa=>(H a).isSome
def hU (h:Heap)(H:Hp):Heap:=PySem.W.hideAll h (tL h H)
theorem qu (h:Heap)(H:Hp):(hU h H).objs.size=h.objs.size:=PySem.W.hideAll_size _ _
theorem sF {h:Heap}{H:Hp}{b:Addr}{o:Obj}(e:h.get? b=some o)(n:H b=none):(hU h H).get? b=some o:=
 PySem.W.hideAll_get _ e λhm=>by
  have q:(H b).isSome=true:=(List.mem_filter.mp hm).2
  rw [n] at q;simp at q
theorem uZ {h:Heap}{H:Hp}{b:Addr}{o:Obj}(e:(hU h H).get? b=some o):h.get? b=some o/\H b=none:=by
 have e':h.get? b=some o:=PySem.W.of_hideAll (tL h H) e
 refine ⟨e',?_⟩
 cases q:H b with
 | none=>rfl
 | some x=>
   have hm:b∈tL h H:=List.mem_filter.mpr ⟨List.mem_range.mpr (Heap.lt_size e'),by simp [q]⟩
   have z:(hU h H).get? b=none:=PySem.W.hideAll_none (tL h H) hm
   rw [z] at e;cases e
structure Mod (K:PySem.W.Frag) (mg:Str->Option Value) (base:Heap):Prop where
 kin:K.In base
 glob:base.Ns mainGlobals mg
 blt:∃mb,base.Ns builtinsNs mb/\∀x:Str,x≠"__name__"->mb x=bootBuiltins x
 nolimit:base.NoLimit
structure Cx where
 prog:Program
 w:World
 K:PySem.W.Frag
 mg:Str->Option Value
 base:Heap
 A:Around
 N:List Str
 s₀:Shared
 H₀:Hp
 env:Env
 outer:List Env
 stack:List Env
 ex:List Addr
 fn:Str->Bool
 calm:Bool
 pn:List (Addr×Obj)
 xe:Value->Shared->Prop
def bo (l:List Env):List Addr:=l.filterMap (·.frame)
abbrev Cx.fs (X:Cx):List Addr:=bo X.outer
def cT (sc:Scope)(x:Str):Prop:=sc.names.lookup x=some .local∨sc.names.lookup x=some .cell∨sc.names.lookup x=some .free
def Loc (sc:Scope)(x:Str):Prop:=sc.names.lookup x=some .local∨sc.names.lookup x=some .cell
def Look (env:Env)(h:Heap)(m:Str->Option Value)(x:Str)(u:Value):Prop:=
 (env.kindOf x=some .local/\m x=some u)∨((env.kindOf x=some .cell∨env.kindOf x=some .free)/\∃c,env.cells.lookup x=some c/\h.IsCell c (some u))
structure Cx.Ok (X:Cx):Prop where
 mod:Mod X.K X.mg X.base
 kind:X.env.scope.kind= .function
 glob:X.env.globals=mainGlobals
 blt:X.env.builtins=builtinsNs
 above:X.s₀.heap.objs.size<=X.env.locals
 inj:∀x y c,X.env.cells.lookup x=some c->X.env.cells.lookup y=some c->x=y
 has:∀x,(X.env.kindOf x=some .cell∨X.env.kindOf x=some .free)->∃c,X.env.cells.lookup x=some c
 cab:∀x c,X.fn x=true->X.env.cells.lookup x=some c->X.s₀.heap.objs.size<=c
 hd:X.calm=true->X.A.handled=none
 frames:X.A.frames=some X.stack
 stk:X.stack=X.outer∨(X.stack=X.env::X.outer/\X.env.frame=some X.env.locals)
 exf:∀b∈X.ex,b≠X.env.locals/\∀x c,X.env.cells.lookup x=some c->c≠b
 bs:∀b o,X.base.get? b=some o->X.s₀.heap.get? b=some o/\X.H₀ b=none
 bsz:X.base.objs.size<=X.s₀.heap.objs.size
 noex:∀b o,X.base.get? b=some o->b∉X.ex
 exfs:∀b∈X.ex,b∉X.fs
 funs:X.s₀.heap.FunFrames X.base X.outer
 frf:∀b∈X.fs,X.H₀ b=none
structure Inv (X:Cx) (pins:List (Addr×Obj)) (σ:List (Option V)) (H:Hp) (s:Shared):Prop where
 ok:X.Ok
 os:s.os=X.s₀.os
 bare:AllBare s.gens
 base:Un X.fs X.ex X.H₀ H X.s₀.heap s.heap
 loc:∃m,s.heap.Ns X.env.locals m/\∀(i:Nat) (x:Str) (v:V),X.N[i]?=some x->σ[i]?=some (some v)->cT X.env.scope x->∃u,RelV v u/\Look X.env s.heap m x u
 cell:∀x c,X.env.cells.lookup x=some c->∃v,s.heap.IsCell c v
 free:H X.env.locals=none
 freeC:∀x c,X.env.cells.lookup x=some c->H c=none
 pin:∀p∈X.pn++pins,s.heap.get? p.1=some p.2/\H p.1=none/\p.1≠X.env.locals/\p.1∉X.fs/\∀v,p.2.data≠ .cell v
 hok:bO X.prog X.w H s.heap
 len:σ.length=X.N.length
section
variable {X:Cx}{pins:List (Addr×Obj)}{σ:List (Option V)}{H H':Hp}{s:Shared}{h':Heap}
variable {t':Nat}{ch:List Addr}{x:Str}{i:Nat}
theorem Cx.Ok.Ba (ok:X.Ok){b:Addr}{o:Obj}(e:X.base.get? b=some o):b∉X.fs:=λhb=>by
 have:=(ok.funs.mem hb).1
 rw [e] at this;cases this
theorem Inv.bs (I:Inv X pins σ H s):∀b o,X.base.get? b=some o->s.heap.get? b=some o/\H b=none:=λb o e=>
 ⟨I.base.keep b o (I.ok.bs b o e).1 (I.ok.bs b o e).2 (I.ok.Ba e) (I.ok.noex b o e),I.base.free b o (I.ok.bs b o e).1 (I.ok.bs b o e).2 (I.ok.noex b o e)⟩
theorem Inv.bk (I:Inv X pins σ H s):∀b o,X.base.get? b=some o->s.heap.get? b=some o:=λb o e=>(I.bs b o e).1
theorem Inv.mod (I:Inv X pins σ H s):Mod X.K X.mg X.base:=I.ok.mod
theorem Inv.cz (I:Inv X pins σ H s):X.K.In s.heap:=I.ok.mod.kin.keeps I.bk
theorem Inv.lt (I:Inv X pins σ H s):X.env.locals < s.heap.objs.size:=let ⟨_,hn,_⟩:=I.loc;hn.lt
theorem Inv.sz (I:Inv X pins σ H s):X.s₀.heap.objs.size<=s.heap.objs.size:=Nat.le_trans I.ok.above (Nat.le_of_lt I.lt)
theorem Inv.Bz (I:Inv X pins σ H s){a:Addr}(h:s.heap.objs.size<=a):a∉X.fs:=λhb=>by
 obtain ⟨_,o,ho,_⟩:=I.ok.funs.mem hb
 exact absurd (Nat.lt_of_lt_of_le (Heap.lt_size ho) (Nat.le_trans I.sz h)) (Nat.lt_irrefl _)
theorem Inv.cne (I:Inv X pins σ H s):∀x c,X.env.cells.lookup x=some c->c≠X.env.locals:=λx c e z=>by
 obtain ⟨v,o,ho,hd⟩:=I.cell x c e
 obtain ⟨m,⟨o',es,ep,ho',hd',_⟩,_⟩:=I.loc
 rw [z,ho'] at ho;cases ho;rw [hd'] at hd;cases hd
theorem Inv.funs (I:Inv X pins σ H s):s.heap.FunFrames X.base X.outer:=by
 have all:∀(l:List Env),(∀b∈bo l,b∈X.fs)->X.s₀.heap.FunFrames X.base l->s.heap.FunFrames X.base l:=by
  intro l
  induction l with
  | nil=>intro _ _;trivial
  | cons env r ih=>
    intro hs hl
    obtain ⟨hk,⟨L,o,hf,hn,ho,hd⟩,hr⟩:=hl
    have hL:L∈X.fs:=hs L (by unfold bo;rw [List.filterMap_cons,hf];exact List.mem_cons_self)
    obtain ⟨sl,e⟩:=I.base.slot L o ho (I.ok.frf L hL) hL λz=>I.ok.exfs L z hL
    exact ⟨hk,⟨L,_,hf,hn,e,hd⟩,ih (λb hb=>hs b (by unfold bo;rw [List.filterMap_cons,hf];exact List.mem_cons_of_mem _ hb)) hr⟩
 exact all X.outer (λ_ hb=>hb) I.ok.funs
theorem Inv.stack (I:Inv X pins σ H s):s.heap.FunFrames X.base X.stack:=by
 rcases I.ok.stk with e | ⟨e,hf⟩
 ·rw [e];exact I.funs
 ·rw [e]
  obtain ⟨m,hn,_⟩:=I.loc
  refine .cons (by rw [I.ok.kind];decide) hf hn ?_ I.funs
  exact Heap.get?_none_of_le (Nat.le_trans I.ok.bsz I.ok.above)
theorem Inv.lF (I:Inv X pins σ H s):∀b∈bo X.stack,b∈X.env.locals::X.fs:=λb hb=>by
 rcases I.ok.stk with e | ⟨e,hf⟩
 ·rw [e] at hb;exact List.mem_cons_of_mem _ hb
 ·rw [e] at hb
  unfold bo at hb
  rw [List.filterMap_cons,hf] at hb
  exact hb
theorem Inv.fM (I:Inv X pins σ H s):∀b∈bo X.stack,H b=none:=λb hb=>by
 rcases List.mem_cons.mp (I.lF b hb) with e | hb
 ·rw [e];exact I.free
 ·obtain ⟨_,o,ho,_⟩:=I.ok.funs.mem hb
  exact I.base.free b o ho (I.ok.frf b hb) λz=>I.ok.exfs b z hb
theorem Inv.step {g':Array GenState}{d':Drawn}(I:Inv X pins σ H s)
 (hch:∀b∈ch,(b∈X.ex∨X.s₀.heap.objs.size<=b)/\b≠X.env.locals/\(∀x c,X.env.cells.lookup x=some c->c≠b)/\∀p∈X.pn++pins,p.1≠b)
 (keep:∀b o,b≠X.env.locals->b∉X.fs->b∉ch->s.heap.get? b=some o->H b=none->h'.get? b=some o)
 (slot:∀b o,b≠X.env.locals->b∈X.fs->b∉ch->s.heap.get? b=some o->H b=none->∃sl,h'.get? b=some {o with slots:=sl}) (free:∀b o,b∉ch->s.heap.get? b=some o->H b=none->H' b=none)
 (there:∀b o,b∉ch->s.heap.get? b=some o->∃o',h'.get? b=some o')
 (tups:∀b xs,H b=some (.tup xs)->H' b=some (.tup xs)) (frzs:∀b o u,H b=some (.frz o u)->H' b=some (.frz o u)) (tbls:∀b ps,H b=some (.tbl ps)->∃more,H' b=some (.tbl (ps++more)))
 (ns:∀m,s.heap.Ns X.env.locals m->h'.Ns X.env.locals m) (hok:bO X.prog X.w H' h') (hg:AllBare g'):
 Inv X pins σ H' {s with heap:=h',gens:=g',drawn:=d',toks:=t'}:=by
 have neL:∀b o,X.s₀.heap.get? b=some o->b≠X.env.locals:=λb o e=>Nat.ne_of_lt (Nat.lt_of_lt_of_le (Heap.lt_size e) I.ok.above)
 have neC:∀b o,X.s₀.heap.get? b=some o->b∉X.ex->b∉ch:=λb o e hx hb=>by
  rcases (hch b hb).1 with z | z
  ·exact hx z
  ·exact absurd (Nat.lt_of_lt_of_le (Heap.lt_size e) z) (Nat.lt_irrefl _)
 have cellK:∀x c,X.env.cells.lookup x=some c->∀v,s.heap.IsCell c v->h'.IsCell c v:=λx c e v ⟨o,ho,hd⟩=>by
  have nch:c∉ch:=λz=>(hch c z).2.2.1 x c e rfl
  by_cases hc:c∈X.fs
  ·obtain ⟨sl,q⟩:=slot c o (I.cne x c e) hc nch ho (I.freeC x c e)
   exact ⟨_,q,hd⟩
  ·exact ⟨o,keep c o (I.cne x c e) hc nch ho (I.freeC x c e),hd⟩
 refine ⟨I.ok,I.os,hg,⟨λb o e n hb hx=>?_,λb o e n hb hx=>?_,λb o e n hx=>?_,λb o e hx=>?_,λb xs e=>tups b xs (I.base.tups b xs e),λb o xs e=>frzs b o xs (I.base.frzs b o xs e),λb ps e=>?_⟩,?_,λx c e=>?_,?_,λx c e=>?_,λp hp=>?_,hok,I.len⟩
 ·exact keep b o (neL b o e) hb (neC b o e hx) (I.base.keep b o e n hb hx) (I.base.free b o e n hx)
 ·obtain ⟨sl,e1⟩:=I.base.slot b o e n hb hx
  obtain ⟨sl',e2⟩:=slot b _ (neL b o e) hb (neC b o e hx) e1 (I.base.free b o e n hx)
  exact ⟨sl',e2⟩
 ·obtain ⟨o',e1⟩:=I.base.there b o e hx
  exact free b o' (neC b o e hx) e1 (I.base.free b o e n hx)
 ·obtain ⟨o',e1⟩:=I.base.there b o e hx
  exact there b o' (neC b o e hx) e1
 ·obtain ⟨m1,e1⟩:=I.base.tbls b ps e
  obtain ⟨m2,e2⟩:=tbls b _ e1
  exact ⟨m1++m2,by rw [e2,Array.append_assoc]⟩
 ·obtain ⟨m,hn,hl⟩:=I.loc
  refine ⟨m,ns m hn,λi x v e1 e2 e3=>?_⟩
  obtain ⟨u,r,l⟩:=hl i x v e1 e2 e3
  refine ⟨u,r,?_⟩
  rcases l with l | ⟨k,c,e,z⟩
  ·exact .inl l
  ·exact .inr ⟨k,c,e,cellK x c e _ z⟩
 ·obtain ⟨v,z⟩:=I.cell x c e
  exact ⟨v,cellK x c e v z⟩
 ·obtain ⟨m,⟨o,_,_,ho,_⟩,_⟩:=I.loc
  exact free _ o (λz=>(hch _ z).2.1 rfl) ho I.free
 ·obtain ⟨v,o,ho,hd⟩:=I.cell x c e
  exact free c o (λz=>(hch c z).2.2.1 x c e rfl) ho (I.freeC x c e)
 ·obtain ⟨e,n,ne,nf,d⟩:=I.pin p hp
  have nch:p.1∉ch:=λz=>(hch p.1 z).2.2.2 p hp rfl
  exact ⟨keep p.1 p.2 ne nf nch e n,free p.1 p.2 nch e n,ne,nf,d⟩
theorem Inv.un (I:Inv X pins σ H s)(u:Un X.fs [] H H' s.heap h')(hok:bO X.prog X.w H' h'):Inv X pins σ H' {s with heap:=h',toks:=t'}:=by
 obtain ⟨m,⟨o,es,ep,ho,r⟩,_⟩:=id I.loc
 obtain ⟨sl,hL⟩:=u.any ho I.free (by simp)
 exact I.step (g':=s.gens) (d':=s.drawn) (ch:=[]) (λ_ z=>nomatch z) (λb o _ hb _ e n=>u.keep b o e n hb (by simp)) (λb o _ hb _ e n=>u.slot b o e n hb (by simp)) (λb o _ e n=>u.free b o e n (by simp)) (λb o _ e=>u.there b o e (by simp)) u.tups u.frzs u.tbls (λm' hm=>by
  obtain ⟨o',es',ep',ho',r'⟩:=hm
  rw [ho] at ho';cases ho'
  exact ⟨_,es',ep',hL,r'⟩) hok I.bare
theorem Inv.call {g':Array GenState}{d':Drawn}(I:Inv X pins σ H s)(u:Un (bo X.stack) ch H H' s.heap h')(hok:bO X.prog X.w H' h')(hg:AllBare g')
 (hch:∀b∈ch,(b∈X.ex∨X.s₀.heap.objs.size<=b)/\b≠X.env.locals/\(∀x c,X.env.cells.lookup x=some c->c≠b)/\∀p∈X.pn++pins,p.1≠b):
 Inv X pins σ H' {s with heap:=h',gens:=g',drawn:=d',toks:=t'}:=by
 obtain ⟨m,⟨o,es,ep,ho,r⟩,_⟩:=id I.loc
 obtain ⟨sl,hL⟩:=u.any ho I.free λz=>(hch _ z).2.1 rfl
 exact I.step (ch:=ch) hch (λb o hL hb hc e n=>u.keep b o e n (λz=>(List.mem_cons.mp (I.lF b z)).elim hL hb) hc) (λb o _ _ hc e n=>u.any e n hc) (λb o hc e n=>u.free b o e n hc) (λb o hc e=>u.there b o e hc) u.tups u.frzs u.tbls (λm' hm=>by
  obtain ⟨o',es',ep',ho',r'⟩:=hm
  rw [ho] at ho';cases ho'
  exact ⟨_,es',ep',hL,r'⟩) hok hg
theorem Inv.turned {it:Addr}(I:Inv X pins σ H s)(k:∀b o,b≠it->s.heap.get? b=some o->h'.get? b=some o)(hn:H it=none)(hL:it≠X.env.locals)
 (h1:it∈X.ex∨X.s₀.heap.objs.size<=it) (h2:∀x c,X.env.cells.lookup x=some c->c≠it) (h3:∀p∈X.pn++pins,p.1≠it):Inv X pins σ H {s with heap:=h',toks:=t'}:=by
 have nit:∀b u,H b=some u->b≠it:=λb u e z=>by rw [z,hn] at e;cases e
 refine I.step (g':=s.gens) (d':=s.drawn) (ch:=[it]) (λb hb=>?_) (λb o _ _ hc e _=>k b o (λz=>hc (by simp [z])) e) (λb o _ _ hc e _=>⟨o.slots,k b o (λz=>hc (by simp [z])) e⟩) (λ_ _ _ _ n=>n)
  (λb o hc e=>⟨o,k b o (λz=>hc (by simp [z])) e⟩) (λ_ _ e=>e) (λ_ _ _ e=>e) (λb ps e=>⟨#[],by rw [e];simp⟩) (λm hm=>?_) (λb u e=>?_) I.bare
 ·have e:b=it:=by simpa using hb
  subst e
  exact ⟨h1,hL,h2,h3⟩
 ·obtain ⟨o,es,ep,ho,r⟩:=hm
  exact ⟨o,es,ep,k _ o (Ne.symm hL) ho,r⟩
 ·refine (I.hok b u e).eP (λc v hc q=>k c v ?_ q) (λ_ q=>q) λ_ _ q=>q
  rcases hc with z | z
  ·rw [z];exact nit b u e
  ·exact nit c _ z
theorem Inv.tok (I:Inv X pins σ H s)(t:Nat):Inv X pins σ H {s with toks:=t}:=I.un (h':=s.heap) (t':=t) Un.refl I.hok
theorem Inv.kept (I:Inv X pins σ H s)(k:∀b u,s.heap.get? b=some u->h'.get? b=some u):Inv X pins σ H {s with heap:=h',toks:=t'}:=I.un (Un.kept k) (I.hok.kept k)
theorem Inv.laid {a:Addr}{o:HO}(I:Inv X pins σ H s)(k:∀b u,s.heap.get? b=some u->h'.get? b=some u)(hp:s.heap.objs.size<=a)(new:br X.prog X.w (upd H a o) h' a o):
 Inv X pins σ (upd H a o) {s with heap:=h',toks:=t'}:=I.un (Un.laid k hp (I.hok.fresh hp)) (I.hok.laid k hp new)
theorem Inv.write {x e:Addr}{o:HO}(I:Inv X pins σ H s)(mu:rC (H x))(he:e=x∨H e=some (.own x))(k:∀b u,b≠e->s.heap.get? b=some u->h'.get? b=some u)(heo:∃u,h'.get? e=some u)
 (new:br X.prog X.w (upd H x o) h' x o):Inv X pins σ (upd H x o) {s with heap:=h',toks:=t'}:=I.un (Un.write mu he k heo) (I.hok.write mu he k heo new)
theorem Inv.fQ {pins':List (Addr×Obj)}(I:Inv X pins σ H s)(h:∀p∈pins',s.heap.get? p.1=some p.2/\H p.1=none/\p.1≠X.env.locals/\p.1∉X.fs/\∀v,p.2.data≠ .cell v):Inv X pins' σ H s:=
 ⟨I.ok,I.os,I.bare,I.base,I.loc,I.cell,I.free,I.freeC,λp hp=>(List.mem_append.mp hp).elim (λz=>I.pin p (List.mem_append_left _ z)) (h p),I.hok,I.len⟩
theorem jk {N:List Str}(hN:N.Nodup){j:Nat}(a:N[i]?=some x)(b:N[j]?=some x):i=j:=by
 obtain ⟨h1,e1⟩:=List.getElem?_eq_some_iff.mp a
 obtain ⟨h2,e2⟩:=List.getElem?_eq_some_iff.mp b
 exact (List.getElem_inj hN).mp (e1.trans e2.symm)
theorem kY {M:Model}{A:Around}{E:Value->Shared->Prop}{v:V}{u:Value}{Q:Unit->Shared->Prop}(I:Inv X pins σ H s)(hN:X.N.Nodup)(hi:X.N[i]?=some x)(hx:Loc X.env.scope x)(r:RelV v u)
 (h:∀s',Inv X pins (σ.set i (some v)) H s'->(∃a,Heap.SameBut a s.heap s'.heap/\(a=X.env.locals∨X.env.cells.lookup x=some a))->Q () s') (hf:X.fn x=true∨X.env.scope.names.lookup x=some .local:=by first | exact .inl rfl | exact .inr rfl | assumption):wpAny M A (storeName X.env x u) Q E s:=by
 obtain ⟨m,hn,hl⟩:=id I.loc
 have hcls:(X.env.scope.kind== .class ||(X.env.scope.kind== .module&&X.env.locals != X.env.globals))=false:=by rw [I.ok.kind];rfl
 have hiσ:i < σ.length:=by rw [I.len];exact (List.getElem?_eq_some_iff.mp hi).1
 have cne:=I.cne
 have tracked:∀{a:Addr} {h':Heap},(∃o,s.heap.get? a=some o/\H a=none)->Heap.SameBut a s.heap h'->bO X.prog X.w H h':=λ{a h'} ha hs b ob e=>by
  obtain ⟨_,_,hfree⟩:=ha
  refine (I.hok b ob e).eP (λc w' hc q=>(hs.2 c ?_).trans q) (λ_ q=>q) λ_ _ q=>q
  rintro rfl
  rcases hc with rfl | hc
  ·rw [hfree] at e;cases e
  ·rw [hfree] at hc;cases hc
 rcases hx with hk | hk
 ·refine wpAny_storeName_local hk hn (λh' hn' hs=>?_) hcls
  obtain ⟨oL,_,_,hoL,_⟩:=id hn
  refine h _ ⟨I.ok,I.os,I.bare,⟨λb o e n hb hx=>?_,λb o e n hb hx=>?_,I.base.free,λb o e hx=>?_,I.base.tups,I.base.frzs,I.base.tbls⟩,⟨_,hn',λj y v' e1 e2 e3=>?_⟩,λy c e=>?_,I.free,I.freeC,λp hp=>?_,tracked ⟨oL,hoL,I.free⟩ hs,by simpa using I.len⟩ ⟨_,hs,.inl rfl⟩
  ·exact (hs.2 b (Nat.ne_of_lt (Nat.lt_of_lt_of_le (Heap.lt_size e) I.ok.above))).trans (I.base.keep b o e n hb hx)
  ·obtain ⟨sl,e1⟩:=I.base.slot b o e n hb hx
   exact ⟨sl,(hs.2 b (Nat.ne_of_lt (Nat.lt_of_lt_of_le (Heap.lt_size e) I.ok.above))).trans e1⟩
  ·obtain ⟨o',e1⟩:=I.base.there b o e hx
   exact ⟨o',(hs.2 b (Nat.ne_of_lt (Nat.lt_of_lt_of_le (Heap.lt_size e) I.ok.above))).trans e1⟩
  ·by_cases hj:j=i
   ·subst hj
    rw [hi] at e1;cases e1
    rw [List.getElem?_set_self hiσ] at e2
    cases e2
    exact ⟨u,r,.inl ⟨hk,by simp⟩⟩
   ·rw [List.getElem?_set_ne (Ne.symm hj)] at e2
    obtain ⟨u',r',q⟩:=hl j y v' e1 e2 e3
    refine ⟨u',r',?_⟩
    rcases q with ⟨k,e⟩ | ⟨k,c,e,z⟩
    ·refine .inl ⟨k,?_⟩
     have:y≠x:=λe=>hj (jk hN e1 (e▸hi))
     simp [this,e]
    ·exact .inr ⟨k,c,e,z.sameBut hs (cne y c e)⟩
  ·obtain ⟨w',z⟩:=I.cell y c e
   exact ⟨w',z.sameBut hs (cne y c e)⟩
  ·obtain ⟨e,n,ne,nf,d⟩:=I.pin p hp
   exact ⟨(hs.2 p.1 ne).trans e,n,ne,nf,d⟩
 ·have hfn:X.fn x=true:=by
   rcases hf with z | z
   ·exact z
   ·rw [z] at hk;cases hk
  obtain ⟨c,hc⟩:=I.ok.has x (.inl hk)
  obtain ⟨w',z⟩:=I.cell x c hc
  refine wpAny_storeName_cell I.ok.kind hk hc z (λh' hc' hs=>?_)
  obtain ⟨oc,hoc,hocd⟩:=id z
  refine h {s with heap:=h'} ⟨I.ok,I.os,I.bare,⟨λb o e n hb hx=>?_,λb o e n hb hx=>?_,I.base.free,λb o e hx=>?_,I.base.tups,I.base.frzs,I.base.tbls⟩,⟨m,hn.sameBut hs (Ne.symm (cne x c hc)),λj y v' e1 e2 e3=>?_⟩,λy c' e=>?_,I.free,I.freeC,λp hp=>?_,tracked ⟨oc,hoc,I.freeC x c hc⟩ hs,by simpa using I.len⟩ ⟨c,hs,.inr hc⟩
  ·exact (hs.2 b (Nat.ne_of_lt (Nat.lt_of_lt_of_le (Heap.lt_size e) (I.ok.cab x c hfn hc)))).trans (I.base.keep b o e n hb hx)
  ·obtain ⟨sl,e1⟩:=I.base.slot b o e n hb hx
   exact ⟨sl,(hs.2 b (Nat.ne_of_lt (Nat.lt_of_lt_of_le (Heap.lt_size e) (I.ok.cab x c hfn hc)))).trans e1⟩
  ·obtain ⟨o',e1⟩:=I.base.there b o e hx
   exact ⟨o',(hs.2 b (Nat.ne_of_lt (Nat.lt_of_lt_of_le (Heap.lt_size e) (I.ok.cab x c hfn hc)))).trans e1⟩
  ·by_cases hj:j=i
   ·subst hj
    rw [hi] at e1;cases e1
    rw [List.getElem?_set_self hiσ] at e2
    cases e2
    exact ⟨u,r,.inr ⟨.inl hk,c,hc,hc'⟩⟩
   ·rw [List.getElem?_set_ne (Ne.symm hj)] at e2
    obtain ⟨u',r',q⟩:=hl j y v' e1 e2 e3
    refine ⟨u',r',?_⟩
    rcases q with q | ⟨k,c',e,z'⟩
    ·exact .inl q
    ·refine .inr ⟨k,c',e,z'.sameBut hs ?_⟩
     rintro rfl
     exact hj (jk hN e1 (I.ok.inj _ _ _ e hc▸hi))
  ·by_cases hcc:c'=c
   ·subst hcc;exact ⟨_,hc'⟩
   ·obtain ⟨w2,z2⟩:=I.cell y c' e
    exact ⟨w2,z2.sameBut hs hcc⟩
  ·obtain ⟨e,n,ne,nf,d⟩:=I.pin p hp
   refine ⟨(hs.2 p.1 ?_).trans e,n,ne,nf,d⟩
   intro q
   rw [q,hoc] at e
   have q':oc=p.2:=Option.some.inj e
   exact d w' (by rw [← q'];exact hocd)
theorem jn {M:Model}{A:Around}{E:Value->Shared->Prop}{v:V}{u:Value}{Q:Unit->Shared->Prop}(I:Inv X pins σ H s)(hN:X.N.Nodup)(hi:X.N[i]?=some x)(hx:Loc X.env.scope x)(r:RelV v u)
 (h:∀s',Inv X pins (σ.set i (some v)) H s'->Q () s') (hf:X.fn x=true∨X.env.scope.names.lookup x=some .local:=by first | exact .inl rfl | exact .inr rfl | assumption):wpAny M A (storeName X.env x u) Q E s:=
 kY I hN hi hx r (λs' I' _=>h s' I') hf
theorem Inv.nU {s':Shared}(I:Inv X pins σ H s)(ho:s'.os=s.os)(u:Un (bo X.stack) ch H H' s.heap s'.heap)(hok:bO X.prog X.w H' s'.heap)(hg:AllBare s'.gens)
 (hch:∀b∈ch,(b∈X.ex∨X.s₀.heap.objs.size<=b)/\b≠X.env.locals/\(∀x c,X.env.cells.lookup x=some c->c≠b)/\∀p∈X.pn++pins,p.1≠b):Inv X pins σ H' s':=by
 obtain ⟨h',g',d',t',o'⟩:=s'
 have e:o'=s.os:=ho
 subst e
 exact I.call (g':=g') (t':=t') (d':=d') u hok hg hch
end
abbrev XK:=Value->Option Addr->Hp->Prop
abbrev St:=List (Option V)
abbrev VK:=V->Hp->Prop
abbrev TE:=St->Hp->VK->Prop
abbrev TT:=St->Hp->(Bool->Hp->Prop)->Prop
abbrev TA:=St->Hp->(List V->Hp->Prop)->Prop
structure Ends where
 nx:St->Hp->Prop
 rt:VK
 bk:St->Hp->Prop:=λ_ _=>False
 ct:St->Hp->Prop:=λ_ _=>False
abbrev TS:=Ends->St->Hp->Prop
def EP (X:Cx)(pins:List (Addr×Obj))(σ:St)(Q:VK)(u:Value)(s':Shared):Prop:=∃v H',Inv X pins σ H' s'/\RelV v u/\Q v H'
def TP (X:Cx)(pins:List (Addr×Obj))(σ:St)(Q:Bool->Hp->Prop)(b:Bool)(s':Shared):Prop:=∃H',Inv X pins σ H' s'/\Q b H'
def AP (X:Cx)(pins:List (Addr×Obj))(σ:St)(Q:List V->Hp->Prop)(us:List Value)(s':Shared):Prop:=∃vs H',Inv X pins σ H' s'/\Vals vs us/\Q vs H'
def SP (X:Cx)(pins:List (Addr×Obj))(D:Ends)(f:Flow)(s':Shared):Prop:=
 match f with
 | .next=>∃σ' H',Inv X pins σ' H' s'/\D.nx σ' H'
 | .brk=>∃σ' H',Inv X pins σ' H' s'/\D.bk σ' H'
 | .cont=>∃σ' H',Inv X pins σ' H' s'/\D.ct σ' H'
 | .ret u=>∃v σ' H',Inv X pins σ' H' s'/\RelV v u/\D.rt v H'
def PE (X:Cx)(e:Expr)(t:TE):Prop:=
 ∀(pins:List (Addr×Obj)) (s:Shared) (σ:St) (H:Hp) (Q:VK),Inv X pins σ H s->t σ H Q->wpAny (model X.prog X.w) X.A (eval e X.env) (EP X pins σ Q) X.xe s
def PT (X:Cx)(e:Expr)(t:TT):Prop:=
 ∀(pins:List (Addr×Obj)) (s:Shared) (σ:St) (H:Hp) (Q:Bool->Hp->Prop),Inv X pins σ H s->t σ H Q->wpAny (model X.prog X.w) X.A (isTrue e X.env (eval e X.env)) (TP X pins σ Q) X.xe s
def PW (X:Cx)(e:Expr)(t:TT):Prop:=
 ∀(whole:Sem Value) (pins:List (Addr×Obj)) (s:Shared) (σ:St) (H:Hp) (Q:Bool->Hp->Prop),Inv X pins σ H s->t σ H Q->wpAny (model X.prog X.w) X.A (isTrue e X.env whole) (TP X pins σ Q) X.xe s
theorem PW.pt {X:Cx}{e:Expr}{t:TT}(h:PW X e t):PT X e t:=h _
def PA (X:Cx)(es:List Expr)(t:TA):Prop:=
 ∀(pos:Pos) (pins:List (Addr×Obj)) (s:Shared) (σ:St) (H:Hp) (Q:List V->Hp->Prop),Inv X pins σ H s->t σ H Q->wpAny (model X.prog X.w) X.A (spliced (backTo pos (starEach es X.env))) (AP X pins σ Q) X.xe s
def PS (X:Cx)(st:Stmt)(t:TS):Prop:=
 ∀(pins:List (Addr×Obj)) (s:Shared) (σ:St) (H:Hp) (D:Ends),Inv X pins σ H s->t D σ H->wpAny (model X.prog X.w) X.A (exec st X.env) (SP X pins D) X.xe s
def f7 (X:Cx)(st:List Stmt)(t:TS):Prop:=
 ∀(pins:List (Addr×Obj)) (s:Shared) (σ:St) (H:Hp) (D:Ends),Inv X pins σ H s->t D σ H->wpAny (model X.prog X.w) X.A (execs st X.env) (SP X pins D) X.xe s
theorem aI {α:Type}{t:Sem α}{Q Q':α->Shared->Prop}{M:Model}{A:Around}{E:Value->Shared->Prop}{s:Shared}(h:wpAny M A t Q E s)(hQ:∀a s,Q a s->Q' a s):wpAny M A t Q' E s:=wpAny_mono h hQ λ_ _ x=>x
section
variable {X:Cx}
def A9 (i:Nat):TE:=λσ H Q=>∃v,σ[i]?=some (some v)/\Q v H
def tC (v:V):TE:=λ_ H Q=>Q v H
theorem bB {i:Nat}{x:Str}{pos:Pos}(hN:X.N[i]?=some x)(hv:cT X.env.scope x)(hd:(x==("__debug__":Str))=false:=by decide)(hcd:(x==("__classdict__":Str))=false:=by decide):PE X (.Name x pos) (A9 i):=by
 intro pins s σ H Q I h
 obtain ⟨v,e,h⟩:=h
 obtain ⟨m,hn,hl⟩:=I.loc
 obtain ⟨u,r,l⟩:=hl i x v hN e hv
 have fin:EP X pins σ Q u s:=⟨v,H,I,r,h⟩
 rcases l with ⟨hk,hm⟩ | ⟨hk,c,hc,hcell⟩
 ·exact wpAny_Name (wpAny_loadName_local I.ok.kind hk hn hm fin) hd
 ·rcases hk with hk | hk
  ·exact wpAny_Name (wpAny_loadName_cell I.ok.kind hk hc hcell fin) hd
  ·exact wpAny_Name (wpAny_loadName_free I.ok.kind hk hc hcell fin hcd) hd
theorem ye {i j pos}:PE X (.Constant (.int i) j pos) (tC (.int i)):=λ_ _ _ H _ I h=>wpAny_Constant_int ⟨.int i,H,I.tok _,⟨_,rfl⟩,h⟩
theorem Ai {b j pos}:PE X (.Constant (.bool b) j pos) (tC (.bl b)):=λ_ _ _ H _ I h=>Constant_bool ⟨.bl b,H,I,rfl,h⟩
theorem yq {j pos}:PE X (.Constant .none j pos) (tC .non):=λ_ _ _ H _ I h=>Constant_none ⟨.non,H,I,rfl,h⟩
theorem mw {x j pos}:PE X (.Constant (.str x) j pos) (tC (.str x)):=λ_ _ _ H _ I h=>Calls.Constant_str ⟨.str x,H,I.tok _,⟨_,rfl⟩,h⟩
def Gl (X:Cx)(x:Str):Prop:=X.env.kindOf x=some .globalImplicit
theorem eR {E:Value->Shared->Prop}{pins:List (Addr×Obj)}{s:Shared}{σ:St}{H:Hp}{x:Str}{u:Value}{pos:Pos}{Q:Value->Shared->Prop}(I:Inv X pins σ H s)(hg:Gl X x)(hm:X.mg x=some u)(h:Q u s)
 (hd:(x==("__debug__":Str))=false:=by decide):wpAny (model X.prog X.w) X.A (eval (.Name x pos) X.env) Q E s:=
 Calls.Name_function_global I.ok.kind hg (Calls.loadGlobal_global (by rw [I.ok.glob];exact I.mod.glob.keeps I.bk) hm h) hd
theorem gr {E:Value->Shared->Prop}{pins:List (Addr×Obj)}{s:Shared}{σ:St}{H:Hp}{x:Str}{u:Value}{pos:Pos}{Q:Value->Shared->Prop}(I:Inv X pins σ H s)(hg:Gl X x)(hm:X.mg x=none)(hv:bootBuiltins x=some u)(h:Q u s)
 (hn:x≠"__name__":=by decide) (hd:(x==("__debug__":Str))=false:=by decide):wpAny (model X.prog X.w) X.A (eval (.Name x pos) X.env) Q E s:=by
 obtain ⟨mb,h1,h2⟩:=I.mod.blt
 exact Calls.Name_function_global I.ok.kind hg (Calls.loadGlobal_builtin (by rw [I.ok.glob];exact I.mod.glob.keeps I.bk) hm (by rw [I.ok.blt];exact h1.keeps I.bk) ((h2 x hn).trans hv) h) hd
theorem eO {x:Str}{v:V}{u:Value}{pos:Pos}(hg:Gl X x)(hm:X.mg x=some u)(r:RelV v u)(hd:(x==("__debug__":Str))=false:=by decide):PE X (.Name x pos) (tC v):=
 λ_ _ _ H _ I h=>eR I hg hm ⟨v,H,I,r,h⟩ hd
theorem mY {x:Str}{v:V}{u:Value}{pos:Pos}(hg:Gl X x)(hm:X.mg x=none)(hv:bootBuiltins x=some u)(r:RelV v u)(hn:x≠"__name__":=by decide)(hd:(x==("__debug__":Str))=false:=by decide):PE X (.Name x pos) (tC v):=
 λ_ _ _ H _ I h=>gr I hg hm hv ⟨v,H,I,r,h⟩ hn hd
variable {a b:Expr}{ta tb:TE}{pos:Pos}
def PC (X:Cx)(op:CmpOp)(a b:Expr)(t:TE):Prop:=
 ∀(pins:List (Addr×Obj)) (s:Shared) (σ:St) (H:Hp) (Q:VK),Inv X pins σ H s->t σ H Q->
  wpAny (model X.prog X.w) X.A (eval a X.env) (λv s₁=>wpAny (model X.prog X.w) X.A (eval b X.env) (λu s₂=>wpAny (model X.prog X.w) X.A (compareOp op v u) (EP X pins σ Q) X.xe s₂) X.xe s₁) X.xe s
def tB (t:TE):TT:=λσ H Q=>t σ H λx H1=>∃c,x= .bl c/\Q c H1
theorem pU {op:CmpOp}{t:TE}(h:PC X op a b t)(h1:behindInMarks op b=false:=by first | exact nobehind _ (by decide) (by decide) | rfl):PT X (.Compare a [op] [b] pos) (tB t):=by
 intro pins s σ H Q I hw
 refine wpAny_isTrue_Compare1 (aI (h pins s σ H _ I hw) λv s1 h1=>aI h1 λu s2 h2=>aI h2 λc s3 ⟨x,H1,I1,r1,q1⟩=>?_) h1
 obtain ⟨d,rfl,q⟩:=q1
 cases r1
 exact wpAny_truthy_bool ⟨H1,I1,q⟩
theorem yC {e:Expr}{t:TE}(h:PE X e t)(he:∀whole,isTrue e X.env whole=(do let v ← whole;standAt e.pos;holding [v] (truthy v)):=by intro _;rfl):PT X e (tB t):=by
 intro pins s σ H Q I hw
 refine isTrue_plain (aI (h pins s σ H _ I hw) λv s1 ⟨x,H1,I1,r1,q1⟩=>?_) (he _)
 obtain ⟨d,rfl,q⟩:=q1
 cases r1
 exact wpAny_truthy_bool ⟨H1,I1,q⟩
variable {tA tB':TT}{rest:List Expr}
def Bk (t u:TT):TT:=λσ H Q=>t σ H λc H1=>if c=true then u σ H1 Q else Q false H1
def tOr (t u:TT):TT:=λσ H Q=>t σ H λc H1=>if c=true then Q true H1 else u σ H1 Q
def Bh (t:TT):TT:=λσ H Q=>t σ H λc H1=>Q (!c) H1
theorem vH (ha:PT X a tA):PW X (.BoolOp .And [a] pos) tA:=by
 intro wh pins s σ H Q I h
 refine isTrue_and (aI (ha pins s σ H Q I h) λc s1 e=>?_)
 cases c with
 | true=>exact isTrue_and_nil e
 | false=>exact e
theorem yr (ha:PT X a tA):PW X (.BoolOp .Or [a] pos) tA:=by
 intro wh pins s σ H Q I h
 refine isTrue_or (aI (ha pins s σ H Q I h) λc s1 e=>?_)
 cases c with
 | false=>exact isTrue_or_nil e
 | true=>exact e
theorem xC (ha:PT X a tA)(hb:PW X (.BoolOp .And (b::rest) pos) tB'):PW X (.BoolOp .And (a::b::rest) pos) (Bk tA tB'):=by
 intro wh pins s σ H Q I h
 refine isTrue_and (aI (ha pins s σ H _ I h) λc s1 ⟨H1,I1,q1⟩=>?_)
 cases c with
 | true=>exact hb wh pins s1 σ H1 Q I1 q1
 | false=>exact ⟨H1,I1,q1⟩
theorem zk (ha:PT X a tA)(hb:PW X (.BoolOp .Or (b::rest) pos) tB'):PW X (.BoolOp .Or (a::b::rest) pos) (tOr tA tB'):=by
 intro wh pins s σ H Q I h
 refine isTrue_or (aI (ha pins s σ H _ I h) λc s1 ⟨H1,I1,q1⟩=>?_)
 cases c with
 | true=>exact ⟨H1,I1,q1⟩
 | false=>exact hb wh pins s1 σ H1 Q I1 q1
theorem yx (ha:PT X a tA):PT X (.UnaryOp .Not a pos) (Bh tA):=by
 intro pins s σ H Q I h
 exact isTrue_not (ha pins s σ H (λc H1=>Q (!c) H1) I h)
def Ak (ta tb:TE):TE:=λσ H Q=>ta σ H λx H1=>∃c,x= .bl c/\if c=true then tb σ H1 Q else Q (.bl false) H1
def Br (ta tb:TE):TE:=λσ H Q=>ta σ H λx H1=>∃c,x= .bl c/\if c=true then Q (.bl true) H1 else tb σ H1 Q
def zt (ta:TE):TE:=λσ H Q=>ta σ H λx H1=>∃c,x= .bl c/\Q (.bl (!c)) H1
theorem xR {op}{t:TE}(h:PE X a t):PE X (.BoolOp op [a] pos) t:=λpins s σ H Q I hw=>BoolOp_one (h pins s σ H Q I hw)
theorem wC (ha:PE X a ta)(hb:PE X (.BoolOp .And (b::rest) pos) tb):PE X (.BoolOp .And (a::b::rest) pos) (Ak ta tb):=by
 intro pins s σ H Q I h
 refine BoolOp_and (aI (ha pins s σ H _ I h) λv s1 ⟨x,H1,I1,r1,q1⟩=>?_)
 obtain ⟨c,rfl,q1⟩:=q1
 cases r1
 refine wpAny_truthy_bool ?_
 cases c with
 | true=>exact hb pins s1 σ H1 Q I1 q1
 | false=>exact ⟨.bl false,H1,I1,rfl,q1⟩
theorem zu (ha:PE X a ta)(hb:PE X (.BoolOp .Or (b::rest) pos) tb):PE X (.BoolOp .Or (a::b::rest) pos) (Br ta tb):=by
 intro pins s σ H Q I h
 refine BoolOp_or (aI (ha pins s σ H _ I h) λv s1 ⟨x,H1,I1,r1,q1⟩=>?_)
 obtain ⟨c,rfl,q1⟩:=q1
 cases r1
 refine wpAny_truthy_bool ?_
 cases c with
 | false=>exact hb pins s1 σ H1 Q I1 q1
 | true=>exact ⟨.bl true,H1,I1,rfl,q1⟩
theorem wG (ha:PE X a ta):PE X (.UnaryOp .Not a pos) (zt ta):=by
 intro pins s σ H Q I h
 refine UnaryOp_ (aI (ha pins s σ H _ I h) λv s1 ⟨x,H1,I1,r1,q1⟩=>?_)
 obtain ⟨c,rfl,q1⟩:=q1
 cases r1
 exact not_of (wpAny_truthy_bool ⟨.bl (!c),H1,I1,rfl,q1⟩)
def tIf (t:TT)(ta tb:TE):TE:=λσ H Q=>t σ H λc H1=>if c=true then ta σ H1 Q else tb σ H1 Q
theorem sk {c:Expr}(hc:PT X c tA)(ha:PE X a ta)(hb:PE X b tb):PE X (.IfExp c a b pos) (tIf tA ta tb):=by
 intro pins s σ H Q I h
 refine wpAny_IfExp (aI (hc pins s σ H _ I h) λd s1 ⟨H1,I1,q1⟩=>?_)
 cases d with
 | true=>exact ha pins s1 σ H1 Q I1 q1
 | false=>exact hb pins s1 σ H1 Q I1 q1
end
def bI (K:PySem.W.Frag)(H:Hp)(a:Addr)(xs:List V):Prop:=
 Rd H a (.lst xs)∨
  ∃(o:Obj) (its:Array Value) (n:Nat),K.lookup a=some o/\o.cls= .type "list"/\o.dict=none/\o.data= .seq its n/\its.size<=sizeLine/\Vals xs its.toList
def bH (K:PySem.W.Frag)(H:Hp)(a:Addr)(xs:List V):Prop:=
 Rd H a (.tup xs)∨
  ∃(o:Obj) (its:Array Value) (n:Nat),K.lookup a=some o/\o.cls= .type "tuple"/\o.data= .seq its n/\its.size<=sizeLine/\Vals xs its.toList
def Bv:Value->Option V
 | .none=>some .non
 | .bool b=>some (.bl b)
 | .int i _=>some (.int i)
 | .str x _=>some (.str x)
 | .bytes b _=>some (.byt b)
 | .float b _=>some (.flt b)
 | .ref a=>some (.ref a)
 | .type n=>some (.ty n)
 | _=>none
theorem RelV.abs {x:V}{u:Value}(r:RelV x u):Bv u=some x:=by
 cases x with
 | non=>cases r;rfl
 | bl _=>cases r;rfl
 | int _=>obtain ⟨t,rfl⟩:=r;rfl
 | str _=>obtain ⟨t,rfl⟩:=r;rfl
 | byt _=>obtain ⟨t,rfl⟩:=r;rfl
 | flt _=>obtain ⟨t,rfl⟩:=r;rfl
 | ref _=>cases r;rfl
 | ty _=>cases r;rfl
theorem RelV.inj {x y:V}{u:Value}(r:RelV x u)(q:RelV y u):x=y:=Option.some.inj (r.abs.symm.trans q.abs)
theorem Vals.inj:∀{xs ys:List V} {us:List Value},Vals xs us->Vals ys us->xs=ys
 | _,_,_,.nil,.nil=>rfl
 | _,_,_,.cons r t,.cons r' t'=>by rw [r.inj r',Vals.inj t t']
section
variable {X:Cx}{pins:List (Addr×Obj)}{σ:St}{H:Hp}{s:Shared}{a:Addr}{xs ys:List V}
theorem bI.of {K:PySem.W.Frag}(h:H a=some (.lst xs)):bI K H a xs:=.inl (.inl h)
theorem bH.of {K:PySem.W.Frag}(h:H a=some (.tup xs)):bH K H a xs:=.inl (.inl h)
theorem Inv.list (I:Inv X pins σ H s)(h:bI X.K H a xs):∃its:List Value,Vals xs its/\PlainL s.heap a its.toArray/\xs.length<=sizeLine:=by
 rcases h with h | ⟨o,its,n,hk,hc,hd,hs,hz,r⟩
 ·obtain ⟨z,its,n,r,e⟩:=h.ok I.hok
  exact ⟨its,r,⟨_,n,e,rfl,rfl,rfl⟩,z⟩
 ·refine ⟨its.toList,r,⟨o,n,I.cz a o hk,hc,hd,by simpa using hs⟩,?_⟩
  have e:=r.length
  simp only [Array.length_toList] at e
  omega
theorem Inv.tuple (I:Inv X pins σ H s)(h:bH X.K H a xs):∃its:List Value,Vals xs its/\IsTup s.heap a its.toArray/\xs.length<=sizeLine:=by
 rcases h with h | ⟨o,its,n,hk,hc,hs,hz,r⟩
 ·obtain ⟨z,its,r,p⟩:=h.ok I.hok
  exact ⟨its,r,p,z⟩
 ·refine ⟨its.toList,r,⟨o,I.cz a o hk,hc,n,by simpa using hs⟩,?_⟩
  have e:=r.length
  simp only [Array.length_toList] at e
  omega
theorem Inv.mx (I:Inv X pins σ H s)(h:bI X.K H a xs)(h':bI X.K H a ys):xs=ys:=by
 obtain ⟨its,r,⟨o,n,e,_,_,d⟩,_⟩:=I.list h
 obtain ⟨its',r',⟨o',n',e',_,_,d'⟩,_⟩:=I.list h'
 rw [e] at e';cases e'
 rw [d] at d'
 injection d' with d1 _
 have:its=its':=by simpa using congrArg Array.toList d1
 subst this
 exact r.inj r'
theorem Inv.iM (I:Inv X pins σ H s)(h:bH X.K H a xs)(h':bH X.K H a ys):xs=ys:=by
 obtain ⟨its,r,⟨o,e,_,n,d⟩,_⟩:=I.tuple h
 obtain ⟨its',r',⟨o',e',_,n',d'⟩,_⟩:=I.tuple h'
 rw [e] at e';cases e'
 rw [d] at d'
 injection d' with d1 _
 have:its=its':=by simpa using congrArg Array.toList d1
 subst this
 exact r.inj r'
end
abbrev Cx.ei (X:Cx)(E:Value->Shared->Prop):Cx:={X with xe:=E}
abbrev Cx.cD (X:Cx):Cx:=X.ei λ_ _=>False
theorem Cx.Ok.ei {X:Cx}(ok:X.Ok)(E:Value->Shared->Prop):(X.ei E).Ok:=
 ⟨ok.mod,ok.kind,ok.glob,ok.blt,ok.above,ok.inj,ok.has,ok.cab,ok.hd,ok.frames,ok.stk,ok.exf,ok.bs,ok.bsz,ok.noex,ok.exfs,ok.funs,ok.frf⟩
theorem Cx.Ok.dc {X:Cx}{E:Value->Shared->Prop}(ok:(X.ei E).Ok):X.Ok:=
 ⟨ok.mod,ok.kind,ok.glob,ok.blt,ok.above,ok.inj,ok.has,ok.cab,ok.hd,ok.frames,ok.stk,ok.exf,ok.bs,ok.bsz,ok.noex,ok.exfs,ok.funs,ok.frf⟩
section
variable {X:Cx}{pins:List (Addr×Obj)}{σ:St}{H:Hp}{s:Shared}{E:Value->Shared->Prop}
theorem Inv.ei (I:Inv X pins σ H s)(E:Value->Shared->Prop):Inv (X.ei E) pins σ H s:=⟨I.ok.ei E,I.os,I.bare,I.base,I.loc,I.cell,I.free,I.freeC,I.pin,I.hok,I.len⟩
theorem Inv.dc (I:Inv (X.ei E) pins σ H s):Inv X pins σ H s:=⟨I.ok.dc,I.os,I.bare,I.base,I.loc,I.cell,I.free,I.freeC,I.pin,I.hok,I.len⟩
theorem SP.dc {D:Ends}{f:Flow}{s':Shared}(h:SP (X.ei E) pins D f s'):SP X pins D f s':=by
 cases f with
 | next=>obtain ⟨σ',H',I,q⟩:=h;exact ⟨σ',H',I.dc,q⟩
 | brk=>obtain ⟨σ',H',I,q⟩:=h;exact ⟨σ',H',I.dc,q⟩
 | cont=>obtain ⟨σ',H',I,q⟩:=h;exact ⟨σ',H',I.dc,q⟩
 | ret u=>obtain ⟨v,σ',H',I,r,q⟩:=h;exact ⟨v,σ',H',I.dc,r,q⟩
theorem f7.cD {st:List Stmt}{t:TS}(h:f7 X.cD st t):f7 X st t:=λpins s σ H D I hw=>
 wpAny_mono (h pins s σ H D (I.ei _) hw) (λ_ _ q=>q.dc) λ_ _ z=>False.elim z
end
section
variable {X:Cx}{st:Stmt}{rest:List Stmt}{t u:TS}{e:Expr}{te:TE}{pos:Pos}
def zB:TS:=λD σ H=>D.nx σ H
def BA (t u:TS):TS:=λD σ H=>t {D with nx:=u D} σ H
theorem uO:f7 X [] zB:=λ_ _ σ H _ I h=>wpAny_execs_nil ⟨σ,H,I,h⟩
theorem jl (h1:PS X st t)(h2:f7 X rest u):f7 X (st::rest) (BA t u):=by
 intro pins s σ H D I h
 refine wpAny_execs_cons (aI (h1 pins s σ H {D with nx:=u D} I h) λf s1 q=>?_)
 cases f with
 | next=>
   obtain ⟨σ',H',I',q⟩:=q
   exact h2 pins s1 σ' H' D I' q
 | ret v=>exact q
 | brk=>exact q
 | cont=>exact q
theorem kj (h1:PS X st t):f7 X [st] t:=by
 intro pins s σ H D I h
 refine wpAny_execs_cons (aI (h1 pins s σ H D I h) λf s1 q=>?_)
 cases f with
 | next=>exact wpAny_execs_nil q
 | ret v=>exact q
 | brk=>exact q
 | cont=>exact q
theorem Inv.quiet {pins:List (Addr×Obj)}{σ:St}{H:Hp}{s:Shared}(I:Inv X pins σ H s):interactive X.env=false:=by simp [interactive,I.ok.kind]
def zx (te:TE):TS:=λD σ H=>te σ H λ_ H1=>D.nx σ H1
theorem fP (he:PE X e te)(hs:swapsWith e none pos.line X.env=pure false:=by rfl):PS X (.Expr e pos) (zx te):=by
 intro pins s σ H D I h
 exact wpAny_Expr_any (aI (he pins s σ H _ I h) λv s1 ⟨x,H1,I1,r1,q1⟩=>⟨σ,H1,I1,q1⟩) I.quiet hs
def Bx (te:TE):TS:=λD σ H=>te σ H D.rt
theorem eF (he:PE X e te):PS X (.Return (some e) pos) (Bx te):=by
 intro pins s σ H D I h
 exact wpAny_Return_some (aI (he pins s σ H _ I h) λv s1 ⟨x,H1,I1,r1,q1⟩=>⟨x,σ,H1,I1,r1,q1⟩)
def Bl (c:TT)(t u:TS):TS:=λD σ H=>c σ H λb H1=>if b=true then t D σ H1 else u D σ H1
theorem z7 {c:Expr}{a b:List Stmt}{tc:TT}(hc:PT X c tc)(ha:f7 X a t)(hb:f7 X b u):PS X (.If c a b pos) (Bl tc t u):=by
 intro pins s σ H D I h
 refine wpAny_If (aI (hc pins s σ H _ I h) λd s1 ⟨H1,I1,q1⟩=>?_)
 cases d with
 | true=>exact ha pins s1 σ H1 D I1 q1
 | false=>exact hb pins s1 σ H1 D I1 q1
end
abbrev TG:=V->St->Hp->(St->Hp->Prop)->Prop
abbrev mD:=List V->St->Hp->(St->Hp->Prop)->Prop
def PG (X:Cx)(target:Expr)(t:TG):Prop:=
 ∀(pins:List (Addr×Obj)) (s:Shared) (σ:St) (H:Hp) (v:V) (u:Value) (Q:St->Hp->Prop),Inv X pins σ H s->RelV v u->t v σ H Q->
  wpAny (model X.prog X.w) X.A (assign target X.env u) (λ_ s'=>∃σ' H',Inv X pins σ' H' s'/\Q σ' H') X.xe s
def tV (X:Cx)(ts:List Expr)(t:mD):Prop:=
 ∀(pins:List (Addr×Obj)) (s:Shared) (σ:St) (H:Hp) (vs:List V) (us:List Value) (Q:St->Hp->Prop),Inv X pins σ H s->Vals vs us->t vs σ H Q->
  wpAny (model X.prog X.w) X.A (assignInOrder ((assignEach ts X.env).map (·.2)) us) (λ_ s'=>∃σ' H',Inv X pins σ' H' s'/\Q σ' H') X.xe s
abbrev tm:=V->V->V->Hp->(Hp->Prop)->Prop
def wx (X:Cx)(t:tm):Prop:=
 ∀(pins:List (Addr×Obj)) (s:Shared) (σ:St) (H:Hp) (o i v:V) (ov iv u:Value) (Q:Hp->Prop),Inv X pins σ H s->RelV o ov->RelV i iv->RelV v u->t o i v H Q->
  wpAny (model X.prog X.w) X.A (setItem ov iv u) (λ_ s'=>∃H',Inv X pins σ H' s'/\Q H') X.xe s
section
variable {X:Cx}{pos:Pos}
variable {e:Expr}
def pq (i:Nat):TG:=λv σ H Q=>Q (σ.set i (some v)) H
theorem kC {i:Nat}{x:Str}(hN:X.N.Nodup)(hi:X.N[i]?=some x)(hx:Loc X.env.scope x)(hf:X.fn x=true∨X.env.scope.names.lookup x=some .local:=by first | exact .inl rfl | exact .inr rfl | assumption):PG X (.Name x pos) (pq i):=by
 intro pins s σ H v u Q I r h
 exact wpAny_assign_Name (jn I hN hi hx r (λs' I'=>⟨_,H,I',h⟩) hf)
def Bn:mD:=λvs σ H Q=>vs=[]/\Q σ H
def zN (t:TG)(u:mD):mD:=λvs σ H Q=>∃v r,vs=v::r/\t v σ H λσ' H'=>u r σ' H' Q
theorem uG:tV X [] Bn:=by
 intro pins s σ H vs us Q I r h
 obtain ⟨e,h⟩:=h
 subst e
 cases r
 exact assignInOrder_nil ⟨σ,H,I,h⟩
theorem lA {es:List Expr}{t:TG}{u:mD}(h1:PG X e t)(h2:tV X es u)
 (hs:(assignEach (e::es) X.env).map (·.2)=assign e X.env::(assignEach es X.env).map (·.2):=by rfl):tV X (e::es) (zN t u):=by
 intro pins s σ H vs us Q I r h
 obtain ⟨v,vr,e1,h⟩:=h
 subst e1
 cases r with
 | cons r rr=>
   rw [hs]
   refine assignInOrder_cons (aI (h1 pins s σ H _ _ _ I r h) λ_ s1 ⟨σ1,H1,I1,q1⟩=>?_)
   exact h2 pins s1 σ1 H1 _ _ Q I1 rr q1
def Bc (K:PySem.W.Frag)(n:Nat)(t:mD):TG:=λv σ H Q=>∃a xs,v= .ref a/\bH K H a xs/\xs.length=n/\t xs σ H Q
theorem w6 {es:List Expr}{k:Nat}{t:mD}{n:Nat}(hc:X.calm=true)(h:tV X es t)
 (hn:(assignEach es X.env).length=n:=by rfl) (hst:(assignEach es X.env).findIdx? (·.1)=none:=by rfl):PG X (.Tuple es k pos) (Bc X.K n t):=by
 intro pins s σ H v u Q I r hw
 obtain ⟨a,xs,e1,hq,hl,hw⟩:=hw
 subst e1
 cases r
 obtain ⟨its,rv,ht,hz⟩:=I.tuple hq
 refine assign_Tuple_tuple (I.ok.hd hc) ht (by simp [hn,← hl,rv.length]) hst λh' hx=>?_
 have I1:Inv X pins σ H {s with heap:=h'}:=I.kept (t':=s.toks) λb o e=>hx b o (Nat.ne_of_lt (Heap.lt_size e)) e
 exact h pins _ σ H xs _ Q I1 (by simpa using rv) hw
def Bf (to ti:TE)(t:tm):TG:=λv σ H Q=>to σ H λo H1=>ti σ H1 λi H2=>t o i v H2 λH3=>Q σ H3
theorem qI {o i:Expr}{to ti:TE}{t:tm}(ho:PE X o to)(hi:PE X i ti)(hs:wx X t)
 (ha:∀v,assign (.Subscript o i pos) X.env v=(do
  let ov ← holding [v] (eval o X.env)
  let iv ← holding [v,ov] (eval i X.env)
  standAt pos
  holding [v,ov,iv] (setItem ov iv v)
  release [v,ov,iv] []):=by intro _;rfl):PG X (.Subscript o i pos) (Bf to ti t):=by
 intro pins s σ H v u Q I r h
 rw [ha]
 refine wpAny_bind (wpAny_holding (aI (ho pins s σ H _ I h) λov s1 ⟨x,H1,I1,r1,q1⟩=>?_))
 refine wpAny_bind (wpAny_holding (aI (hi pins s1 σ H1 _ I1 q1) λiv s2 ⟨y,H2,I2,r2,q2⟩=>?_))
 refine wpAny_bind (wpAny_standAt (wpAny_bind (wpAny_holding (aI (hs pins s2 σ H2 x y v ov iv u _ I2 r1 r2 r q2) λ_ s3 ⟨H3,I3,q3⟩=>?_))))
 exact wpAny_release ⟨σ,H3,I3,q3⟩
def sg (te:TE)(g:TG):TS:=λD σ H=>te σ H λx H1=>g x σ H1 D.nx
theorem pK {tg:Expr}{te:TE}{g:TG}(he:PE X e te)(hg:PG X tg g)(hs:swapsWithSole [tg] e pos.line X.env=pure false:=by rfl)(hw:swappedStores [tg] e X.env=pure none:=by rfl)
 (h1:(assignEach [tg] X.env).map (·.2)=[assign tg X.env]:=by rfl):PS X (.Assign [tg] e pos) (sg te g):=by
 intro pins s σ H D I h
 refine wpAny_Assign_stores (aI (he pins s σ H _ I h) λv s1 ⟨x,H1,I1,r1,q1⟩=>?_) hs hw
 rw [h1]
 exact aI (hg pins s1 σ H1 x v _ I1 r1 q1) λ_ s2 q=>q
theorem iy {i:Nat}{x:Str}{te:TE}{pos':Pos}(hN:X.N.Nodup)(hi:X.N[i]?=some x)(hx:Loc X.env.scope x)(he:PE X e te)(hs:swapsWith e (some (.Name x pos')) pos.line X.env=pure false:=by rfl)(hf:X.fn x=true∨X.env.scope.names.lookup x=some .local:=by first | exact .inl rfl | exact .inr rfl | assumption):
 PS X (.Assign [.Name x pos'] e pos) (sg te (pq i)):=by
 intro pins s σ H D I h
 refine wpAny_Assign_Name (aI (he pins s σ H _ I h) λv s1 ⟨y,H1,I1,r1,q1⟩=>?_) hs
 exact jn I1 hN hi hx r1 (λs2 I2=>⟨_,H1,I2,q1⟩) hf
end
section
variable {X:Cx}{pos:Pos}
def xK (c:TT)(tb:TS):TS:=λD σ H=>∃W:Nat->St->Hp->Prop,(∃m,W m σ H)/\∀m σ H,W m σ H->
 c σ H λb H1=>if b=true then∃N:St->Hp->Prop,(∀σ' H',N σ' H'->∃m',m' < m/\W m' σ' H')/\tb {D with nx:=N,ct:=N,bk:=D.nx} σ H1 else D.nx σ H1
theorem sM {c:Expr}{body:List Stmt}{tc:TT}{tb:TS}(hp:PassesOwn (model X.prog X.w) X.A X.env X.xe)(hc:PT X c tc)(hb:f7 X body tb):PS X (.While c body [] pos) (xK tc tb):=by
 intro pins s σ H D I h
 obtain ⟨W,⟨m0,w0⟩,turn⟩:=h
 refine wpAny_While (codeAny_whileLoop (λn s'=>∃σ' H',Inv X pins σ' H' s'/\W n σ' H') ?_ m0 ⟨σ,H,I,w0⟩)
 rintro n s1 ⟨σ1,H1,I1,w1⟩
 refine wpAny_passesOwn hp (aI (hc pins s1 σ1 H1 _ I1 (turn n σ1 H1 w1)) λb s2 ⟨H2,I2,q2⟩=>?_)
 cases b with
 | true=>
   obtain ⟨N,hN,q2⟩:=q2
   rw [if_pos rfl]
   refine wpAny_passesOwn hp (aI (hb pins s2 σ1 H2 _ I2 q2) λf s3 q3=>?_)
   cases f with
   | next=>
     obtain ⟨σ3,H3,I3,n3⟩:=q3
     obtain ⟨m',hm,w3⟩:=hN σ3 H3 n3
     exact ⟨m',hm,σ3,H3,I3,w3⟩
   | cont=>
     obtain ⟨σ3,H3,I3,n3⟩:=q3
     obtain ⟨m',hm,w3⟩:=hN σ3 H3 n3
     exact ⟨m',hm,σ3,H3,I3,w3⟩
   | brk=>exact q3
   | ret v=>exact q3
 | false=>
   rw [if_neg Bool.false_ne_true]
   exact wpAny_execs_nil ⟨σ1,H2,I2,q2⟩
end
section
variable {tg:Expr}
structure It where
 go:Nat->Hp->Prop
 yld:Nat->Hp->V->Hp->Prop
 stop:Nat->Hp->Prop
def gf (X:Cx)(pins:List (Addr×Obj))(H:Hp)(b:Addr):Prop:=
 H b=none/\b≠X.env.locals/\b∉X.fs/\(b∈X.ex∨X.s₀.heap.objs.size<=b)/\(∀x c,X.env.cells.lookup x=some c->c≠b)/\∀p∈X.pn++pins,p.1≠b
theorem Inv.ia {X:Cx}{pins:List (Addr×Obj)}{σ:St}{H H':Hp}{s:Shared}{b:Addr}(I:Inv X pins σ H s)(hb:s.heap.objs.size<=b)(hn:H' b=none):gf X pins H' b:=by
 refine ⟨hn,Nat.ne_of_gt (Nat.lt_of_lt_of_le I.lt hb),I.Bz hb,.inr (Nat.le_trans I.sz hb),λx c e z=>?_,λp hp z=>?_⟩
 ·obtain ⟨v,q⟩:=I.cell x c e
  exact absurd (Nat.lt_of_lt_of_le q.lt (by rw [z];exact hb)) (Nat.lt_irrefl _)
 ·exact absurd (Nat.lt_of_lt_of_le (Heap.lt_size (I.pin p hp).1) (by rw [z];exact hb)) (Nat.lt_irrefl _)
structure Turn (P:Program) (w:World) (K:PySem.W.Frag) (tg:Expr) (J:It) (fp:List Addr) (it:Addr) (tn:Nat->Heap->Prop):Prop where
 mem:it∈fp
 obj:∀i h,tn i h->∀b∈fp,∃o,h.get? b=some o/\∀v,o.data≠ .cell v
 keep:∀i h h',tn i h->(∀b∈fp,∀o,h.get? b=some o->h'.get? b=some o)->tn i h'
 item:∀(X:Cx),X.prog=P->X.w=w->X.K=K->X.calm=true->∀(i:Nat) (pins:List (Addr×Obj)) (s:Shared) (σ:St) (H:Hp) (E:Value->Shared->Prop),Inv X pins σ H s->(∀b∈fp,gf X pins H b)->tn i s.heap->J.go i H->
  wpAny (model P w) X.A (pyNext (.ref it)) (λr s1=>∃u,r=some u/\
   wpAny (model P w) X.A (letOwnedTupleGo tg (.ref it) u) (λ_ s2=>∃x H',Inv X pins σ H' s2/\RelV x u/\J.yld i H x H'/\tn (i + 1) s2.heap/\∀b∈fp,H' b=none) E s1) E s
 done:∀(X:Cx),X.prog=P->X.w=w->X.K=K->X.calm=true->∀(i:Nat) (pins:List (Addr×Obj)) (s:Shared) (σ:St) (H:Hp) (E:Value->Shared->Prop),Inv X pins σ H s->(∀b∈fp,gf X pins H b)->tn i s.heap->J.stop i H->
  wpAny (model P w) X.A (pyNext (.ref it)) (λr s1=>r=none/\Inv X pins σ H s1) E s
 self:∀(A:Around) (i:Nat) (s:Shared) (Q:Value->Shared->Prop) (E:Value->Shared->Prop),tn i s.heap->Q (.ref it) s->wpAny (model P w) A (pyIter (.ref it)) Q E s
abbrev TI:=St->Hp->(It->Hp->Prop)->Prop
def Az (X:Cx)(pins:List (Addr×Obj))(σ:St)(tg:Expr)(R:It->Hp->Prop)(itv:Value)(s2:Shared):Prop:=
 ∃(it:Addr) (fp:List Addr) (tn:Nat->Heap->Prop) (J:It) (H':Hp),itv= .ref it/\Inv X pins σ H' s2/\Turn X.prog X.w X.K tg J fp it tn/\tn 0 s2.heap/\(∀b∈fp,gf X pins H' b)/\R J H'
def PI (X:Cx)(tg iter:Expr)(wi:TI):Prop:=
 ∀(pins:List (Addr×Obj)) (s:Shared) (σ:St) (H:Hp) (R:It->Hp->Prop),Inv X pins σ H s->wi σ H R->
  wpAny (model X.prog X.w) X.A (eval iter X.env) (λv s1=>wpAny (model X.prog X.w) X.A (pyIter v) (Az X pins σ tg R) X.xe s1) X.xe s
theorem tW {M:Model}{A:Around}{E:Value->Shared->Prop}{s:Shared}{it:Addr}{u:Value}{o:Obj}{n:String}{vs:Array Value}{Q:Unit->Shared->Prop}(ho:s.heap.get? it=some o)(hc:o.cls= .type n)(hd:o.data= .fields vs)
 (hn:["enumerate","zip","dict_itemiterator","dict_reverseitemiterator","odict_iterator","itertools.zip_longest","itertools.pairwise"].contains n=false) (hQ:Q () s):wpAny M A (letOwnedTupleGo tg (.ref it) u) Q E s:=by
 unfold letOwnedTupleGo
 cases tg<;>first
  | exact wpAny_pure hQ
  | (cases u<;>first
   | exact wpAny_pure hQ
   | (refine wpAny_bind (wpAny_load ho ?_)
      rw [hc,hd]
      show wpAny M A (if (["enumerate","zip","dict_itemiterator","dict_reverseitemiterator","odict_iterator","itertools.zip_longest","itertools.pairwise"].contains n&&vs[0]?==some (rawInt _))=true then _ else _) Q E s
      rw [if_neg (by intro h;rw [hn,Bool.false_and] at h;cases h)]
      exact wpAny_pure hQ))
def Ax (K:PySem.W.Frag)(a:Addr):It:=
 ⟨λi H=>∃xs x,bI K H a xs/\xs[i]?=some x,λi H x H'=>H'=H/\∀xs,bI K H a xs->xs[i]?=some x,λi H=>∃xs,bI K H a xs/\xs.length<=i⟩
def uc (lo:Int)(n:Nat):It:=⟨λi _=>i < n,λi H x H'=>H'=H/\x= .int (lo + i),λi _=>n<=i⟩
theorem qS {P:Program}{w:World}{K:PySem.W.Frag}(a it:Addr):Turn P w K tg (Ax K a) [it] it (λi h=>h.IsListIter it a i) where
 mem:=by simp
 obj:=λi h st b hb=>by
  have e:b=it:=by simpa using hb
  subst e
  obtain ⟨o,e,c,d⟩:=st
  exact ⟨o,e,λv z=>by rw [d] at z;cases z⟩
 keep:=λi h h' st k=>st.at λo e=>k it (by simp) o e
 item:=by
  intro X hP hw hK hc i pins s σ H E I hf st hg
  subst hP hw hK
  obtain ⟨xs,x,hq,hx⟩:=hg
  obtain ⟨its,rv,p,hz⟩:=I.list hq
  obtain ⟨u,hu,ru⟩:=rv.get hx
  obtain ⟨f0,f1,f2,f3,f4,f5⟩:=hf it (by simp)
  refine wpAny_pyNext_list_item st p.isList (x:=u) (by simpa using hu) λh' st' sb=>?_
  have I1:Inv X pins σ H {s with heap:=h'}:=I.turned (t':=s.toks) (λb o hb e=>(sb.2 b hb).trans e) f0 f1 f3 f4 f5
  obtain ⟨o,e,c,d⟩:=id st'
  exact ⟨u,rfl,tW (s:={s with heap:=h'}) e c d (by decide) ⟨x,H,I1,ru,⟨rfl,λys hy=>by rw [I.mx hy hq];exact hx⟩,st',λb hb=>(hf b hb).1⟩⟩
 done:=by
  intro X hP hw hK hc i pins s σ H E I hf st hg
  subst hP hw hK
  obtain ⟨xs,hq,hx⟩:=hg
  obtain ⟨its,rv,p,hz⟩:=I.list hq
  obtain ⟨f0,f1,f2,f3,f4,f5⟩:=hf it (by simp)
  have hl:=rv.length
  exact wpAny_pyNext_list_end (I.ok.hd hc) st p.isList (by simp;omega) λh' eb=>⟨rfl,I.turned (t':=s.toks) (λb o hb e=>eb b o hb e) f0 f1 f3 f4 f5⟩
 self:=λ_ _ _ _ _ st h=>wpAny_pyIter_listiter st h
theorem oJ {P:Program}{w:World}{K:PySem.W.Frag}(it:Addr)(lo:Int)(n:Nat):Turn P w K tg (uc lo n) [it] it (λi h=>IsRangeIter h it (lo + (i:Nat) * 1) ((n:Int) - (i:Nat)) 1) where
 mem:=by simp
 obj:=λi h st b hb=>by
  have e:b=it:=by simpa using hb
  subst e
  exact ⟨_,st,λv z=>by
   have z':Data.fields _=Data.cell v:=z
   cases z'⟩
 keep:=λi h h' st k=>k it (by simp) _ st
 item:=by
  intro X hP hw hK hc i pins s σ H E I hf st hg
  subst hP hw hK
  obtain ⟨f0,f1,f2,f3,f4,f5⟩:=hf it (by simp)
  have W:=Walks.range (prog:=X.prog) (w:=X.w) (I.ok.hd hc) it lo 1 n
  refine W.item i s _ _ hg st λv h' tk hv st' kk=>?_
  obtain ⟨t,rfl⟩:=hv
  have I1:Inv X pins σ H {s with heap:=h',toks:=tk}:=I.turned (λb o hb e=>kk b o (by simpa using hb) e) f0 f1 f3 f4 f5
  refine ⟨_,rfl,tW (s:={s with heap:=h',toks:=tk}) (n:="range_iterator") st' rfl rfl (by decide) ⟨.int (lo + i),H,I1,⟨t,?_⟩,⟨rfl,rfl⟩,st',λb hb=>(hf b hb).1⟩⟩
  rw [Int.mul_one]
 done:=by
  intro X hP hw hK hc i pins s σ H E I hf st hg
  subst hP hw hK
  obtain ⟨f0,f1,f2,f3,f4,f5⟩:=hf it (by simp)
  exact wpAny_pyNext_range_end (I.ok.hd hc) st (by have:n<=i:=hg;omega) λh' eb=>⟨rfl,I.turned (t':=s.toks) (λb o hb e=>eb b o hb e) f0 f1 f3 f4 f5⟩
 self:=λ_ _ _ _ _ st h=>wpAny_pyIter_rangeiter st h
end
section
variable {X:Cx}{tg:Expr}
variable {pins:List (Addr×Obj)}{σ:St}{H:Hp}{s:Shared}
def zC (K:PySem.W.Frag)(tl:TE):TI:=λσ H R=>tl σ H λx H1=>∃a,x= .ref a/\(∃xs,bI K H1 a xs)/\R (Ax K a) H1
theorem vX {l:Expr}{tl:TE}(hl:PE X l tl):PI X tg l (zC X.K tl):=by
 intro pins s σ H R I h
 refine aI (hl pins s σ H _ I h) λv s1 ⟨x,H1,I1,r1,q1⟩=>?_
 obtain ⟨a,e,⟨xs,hq⟩,q⟩:=q1
 subst e
 cases r1
 obtain ⟨its,rv,p,hz⟩:=I1.list hq
 refine wpAny_pyIter_list p.isList ?_
 refine ⟨s1.heap.objs.size,[s1.heap.objs.size],_,_,H1,rfl,I1.kept (t':=s1.toks) λb o e=>Heap.get?_push_of_some _ e,qS a _,⟨_,Heap.get?_push_size _ rfl,rfl,rfl⟩,λb hb=>?_,q⟩
 have e:b=s1.heap.objs.size:=by simpa using hb
 subst e
 exact I1.ia (Nat.le_refl _) (I1.hok.fresh (Nat.le_refl _))
theorem rP {R:It->Hp->Prop}{E:Value->Shared->Prop}{lo hi:Int}{t u v:Tok}{tk:Nat}(I:Inv X pins σ H s)(h1: -(2 ^ 62)<=lo)(h2:lo < 2 ^ 62)(h3: -(2 ^ 62)<=hi)(h4:hi < 2 ^ 62)
 (q:R (uc lo (hi - lo).toNat) H):wpAny (model X.prog X.w) X.A (pyIter (.ref s.heap.objs.size)) (Az X pins σ tg R) E {s with heap:=s.heap.push {cls:=.type "range",data:=.fields #[.int lo t,.int hi u,.int 1 v]},toks:=tk}:=by
 refine wpAny_pyIter_range (IsRange.new ..) (small_one h1 h2 h3 h4) ?_
 have I1:Inv X pins σ H {s with heap:=s.heap.push {cls:=.type "range",data:=.fields #[.int lo t,.int hi u,.int 1 v]},toks:=tk}:=I.kept λb o e=>Heap.get?_push_of_some _ e
 refine ⟨(s.heap.push {cls:=.type "range",data:=.fields #[.int lo t,.int hi u,.int 1 v]}).objs.size,[(s.heap.push {cls:=.type "range",data:=.fields #[.int lo t,.int hi u,.int 1 v]}).objs.size],_,_,H,rfl,
  I1.kept (t':=tk) λb o e=>Heap.get?_push_of_some _ e,oJ _ lo (hi - lo).toNat,?_,λb hb=>?_,q⟩
 ·have e1:lo + ((0:Nat):Int) * 1=lo:=by simp
  have e2:(((hi - lo).toNat:Nat):Int) - ((0:Nat):Int)=Builtin.Range.rangeSize lo hi 1:=by rw [rangeSize_one];split<;>omega
  show IsRangeIter _ _ (lo + ((0:Nat):Int) * 1) ((((hi - lo).toNat:Nat):Int) - ((0:Nat):Int)) 1
  rw [e1,e2]
  exact Heap.get?_push_size _ rfl
 ·have e:b=(s.heap.push {cls:=.type "range",data:=.fields #[.int lo t,.int hi u,.int 1 v]}).objs.size:=by simpa using hb
  subst e
  exact I1.ia (Nat.le_refl _) (I1.hok.fresh (Nat.le_refl _))
def zv (ta:TA):TI:=λσ H R=>ta σ H λvs H1=>∃j:Int,vs=[.int j]/\ -(2 ^ 62)<=j/\j < 2 ^ 62/\R (uc 0 j.toNat) H1
theorem pX {a:Expr}{ta:TA}{p pos:Pos}(hg:Gl X "range")(hm:X.mg "range"=none)(ha:PA X [a] ta)(hs:starEach [a] X.env=[(false,eval a X.env)]:=by rfl):PI X tg (.Call (.Name "range" p) [a] [] pos) (zv ta):=by
 intro pins s σ H R I h
 refine Call_ (gr I hg hm boot_range (PyProof.Rows.callWith_type1 (aI (ha pos pins s σ H _ I h) λus s1 ⟨vs,H1,I1,r1,q1⟩=>?_) hs rfl))
 obtain ⟨j,e,q1,q2,q⟩:=q1
 subst e
 cases r1 with
 | cons r rr=>
   cases rr
   obtain ⟨t,rfl⟩:=r
   exact call_range_1 (rP I1 (by omega) (by omega) q1 q2 (by simpa using q))
def Bp (wi:TI)(g:TG)(tb:TS):TS:=λD σ H=>wi σ H λJ H1=>∃W:Nat->Nat->St->Hp->Prop,(∃m,W 0 m σ H1)/\∀i m σ H,W i m σ H->
 (J.stop i H/\D.nx σ H)∨(J.go i H/\∃N:St->Hp->Prop,(∀σ' H',N σ' H'->∃m',m' < m/\W (i + 1) m' σ' H')/\∀x H',J.yld i H x H'->g x σ H' λσ2 H2=>tb {D with nx:=N,ct:=N,bk:=D.nx} σ2 H2)
def gP (fp:List Addr)(h:Heap):List (Addr×Obj):=fp.filterMap λb=>(h.get? b).map λo=>(b,o)
theorem fE {fp:List Addr}{h:Heap}{b:Addr}{o:Obj}(hb:b∈fp)(e:h.get? b=some o):(b,o)∈gP fp h:=List.mem_filterMap.mpr ⟨b,hb,by rw [e];rfl⟩
theorem qi {fp:List Addr}{h:Heap}{p:Addr×Obj}(hp:p∈gP fp h):p.1∈fp/\h.get? p.1=some p.2:=by
 obtain ⟨b,hb,e⟩:=List.mem_filterMap.mp hp
 cases q:h.get? b with
 | none=>rw [q] at e;cases e
 | some o=>
   rw [q] at e
   have e':(b,o)=p:=Option.some.inj e
   subst e'
   exact ⟨hb,q⟩
theorem Inv.pinned {fp:List Addr}(I:Inv X pins σ H s)(hf:∀b∈fp,gf X pins H b)(ho:∀b∈fp,∃o,s.heap.get? b=some o/\∀v,o.data≠ .cell v):Inv X (pins++gP fp s.heap) σ H s:=
 I.fQ λp hp=>(List.mem_append.mp hp).elim (λz=>I.pin p (List.mem_append_right _ z)) λz=>by
   obtain ⟨hb,e⟩:=qi z
   obtain ⟨f0,f1,f2,_⟩:=hf p.1 hb
   obtain ⟨o,e',d⟩:=ho p.1 hb
   rw [e] at e';cases e'
   exact ⟨e,f0,f1,f2,d⟩
theorem Inv.fV {pl:List (Addr×Obj)}(I:Inv X (pins++pl) σ H s):Inv X pins σ H s:=I.fQ λp hp=>I.pin p (List.mem_append_right _ (List.mem_append_left _ hp))
theorem qU {iter:Expr}{body:List Stmt}{wi:TI}{g:TG}{tb:TS}{pos:Pos}(hp:PassesOwn (model X.prog X.w) X.A X.env X.xe)(hc:X.calm=true)(hi:PI X tg iter wi)(hg:PG X tg g)(hb:f7 X body tb)
 (hs:∀x,foldedSetIterable iter X.env x=pure x:=by intro _;rfl):PS X (.For tg iter body [] pos) (Bp wi g tb):=by
 intro pins s σ H D I h
 refine wpAny_For (aI (hi pins s σ H _ I h) λv s1 h1=>aI h1 λitv s2 h2=>?_) hs
 obtain ⟨it,fp,tn,J,H2,e,I2,T,st2,f2,W,⟨m0,w0⟩,turn⟩:=h2
 subst e
 -- what stays true of the iterator's objects through the loop
 have stat:∀{H':Hp},(∀b∈fp,H' b=none)->∀b∈fp,gf X pins H' b:=λhn b hb=>⟨hn b hb,(f2 b hb).2⟩
 refine codeAny_forLoop_any (λn s'=>∃i σ' H',Inv X pins σ' H' s'/\tn i s'.heap/\(∀b∈fp,H' b=none)/\W i n σ' H') ?_ m0 ⟨0,σ,H2,I2,st2,λb hb=>(f2 b hb).1,w0⟩
 rintro n s3 ⟨i,σ3,H3,I3,st3,fr3,w3⟩
 rcases turn i n σ3 H3 w3 with ⟨stop,qn⟩ | ⟨go,N,hN,step⟩
 ·refine wpAny_passesOwn hp (aI (T.done X rfl rfl rfl hc i pins s3 σ3 H3 X.xe I3 (stat fr3) st3 stop) λr s4 ⟨hr,I4⟩=>?_)
  subst hr
  exact wpAny_execs_nil ⟨σ3,H3,I4,qn⟩
 ·refine wpAny_passesOwn hp (aI (T.item X rfl rfl rfl hc i pins s3 σ3 H3 X.xe I3 (stat fr3) st3 go) λr s4 ⟨u,hr,h4⟩=>?_)
  subst hr
  refine wpAny_passesOwn hp (aI h4 λ_ s5 ⟨x,H5,I5,r5,y5,st5,fr5⟩=>?_)
  have I5':=I5.pinned (stat fr5) (T.obj _ _ st5)
  refine wpAny_passesOwn hp (aI (hg _ s5 σ3 H5 x u _ I5' r5 (step x H5 y5)) λ_ s6 ⟨σ6,H6,I6,q6⟩=>?_)
  refine wpAny_passesOwn hp (aI (hb _ s6 σ6 H6 _ I6 q6) λf s7 q7=>?_)
  have again:∀{σ7:St} {H7:Hp},Inv X (pins++gP fp s5.heap) σ7 H7 s7->N σ7 H7->∃m,m < n/\∃i σ' H',Inv X pins σ' H' s7/\tn i s7.heap/\(∀b∈fp,H' b=none)/\W i m σ' H':=λ{σ7 H7} I7 n7=>by
   obtain ⟨m',hm,w7⟩:=hN σ7 H7 n7
   refine ⟨m',hm,i + 1,σ7,H7,I7.fV,T.keep _ _ _ st5 λb hb o e=>(I7.pin (b,o) (List.mem_append_right _ (List.mem_append_right _ (fE hb e)))).1,λb hb=>?_,w7⟩
   obtain ⟨o,e,d⟩:=T.obj _ _ st5 b hb
   exact (I7.pin (b,o) (List.mem_append_right _ (List.mem_append_right _ (fE hb e)))).2.1
  cases f with
  | next=>obtain ⟨σ7,H7,I7,n7⟩:=q7;exact again I7 n7
  | cont=>obtain ⟨σ7,H7,I7,n7⟩:=q7;exact again I7 n7
  | brk=>obtain ⟨σ7,H7,I7,q7⟩:=q7;exact ⟨σ7,H7,I7.fV,q7⟩
  | ret v=>obtain ⟨x7,σ7,H7,I7,r7,q7⟩:=q7;exact ⟨x7,σ7,H7,I7.fV,r7,q7⟩
end
abbrev R2:=V->V->Hp->VK->Prop
def cU (X:Cx)(f:Value->Value->Sem Value)(r:R2):Prop:=
 ∀(pins:List (Addr×Obj)) (s:Shared) (σ:St) (H:Hp) (x y:V) (v u:Value) (Q:VK),Inv X pins σ H s->RelV x v->RelV y u->r x y H Q->
  wpAny (model X.prog X.w) X.A (f v u) (EP X pins σ Q) X.xe s
def wI (X:Cx)(f:Value->Sem Value)(r:V->Hp->VK->Prop):Prop:=
 ∀(pins:List (Addr×Obj)) (s:Shared) (σ:St) (H:Hp) (x:V) (v:Value) (Q:VK),Inv X pins σ H s->RelV x v->r x H Q->
  wpAny (model X.prog X.w) X.A (f v) (EP X pins σ Q) X.xe s
def dz (X:Cx)(f:Value)(r:List V->Hp->VK->Prop):Prop:=
 ∀(pins:List (Addr×Obj)) (s:Shared) (σ:St) (H:Hp) (xs:List V) (us:List Value) (Q:VK),Inv X pins σ H s->Vals xs us->r xs H Q->
  wpAny (model X.prog X.w) X.A (call f us) (EP X pins σ Q) X.xe s
def Bm (X:Cx)(r:V->Hp->(Bool->Hp->Prop)->Prop):Prop:=
 ∀(pins:List (Addr×Obj)) (s:Shared) (σ:St) (H:Hp) (x:V) (v:Value) (Q:Bool->Hp->Prop),Inv X pins σ H s->RelV x v->r x H Q->
  wpAny (model X.prog X.w) X.A (truthy v) (TP X pins σ Q) X.xe s
def tO (r:R2)(ta tb:TE):TE:=λσ H Q=>ta σ H λx H1=>tb σ H1 λy H2=>r x y H2 Q
def tUn (r:V->Hp->VK->Prop)(ta:TE):TE:=λσ H Q=>ta σ H λx H1=>r x H1 Q
def rI (C:Int->Int->Prop)(g:Int->Int->V):R2:=λx y H Q=>∃i j,x= .int i/\y= .int j/\C i j/\Q (g i j) H
def la (g:Int->Int->V):R2:=λx y H Q=>∃i j,x= .int i/\y= .int j/\Q (g i j) H
def rU (g:Int->V):V->Hp->VK->Prop:=λx H Q=>∃i,x= .int i/\Q (g i) H
section
variable {X:Cx}{a b c:Expr}{ta tb tc:TE}{pos:Pos}
variable {f:Value->Value->Sem Value}
theorem rF (ha:PE X a ta)(hb:PE X b tb){pins:List (Addr×Obj)}{s:Shared}{σ:St}{H:Hp}{R:V->V->Hp->Prop}(I:Inv X pins σ H s)
 (h:ta σ H λx H1=>tb σ H1 λy H2=>R x y H2) {Q:Value->Shared->Prop}
 (hf:∀v u s2 x y H2,Inv X pins σ H2 s2->RelV x v->RelV y u->R x y H2->wpAny (model X.prog X.w) X.A (f v u) Q X.xe s2):
 wpAny (model X.prog X.w) X.A (eval a X.env) (λv s₁=>wpAny (model X.prog X.w) X.A (eval b X.env) (λu s₂=>wpAny (model X.prog X.w) X.A (f v u) Q X.xe s₂) X.xe s₁) X.xe s:=by
 refine aI (ha pins s σ H _ I h) λv s1 ⟨x,H1,I1,r1,q1⟩=>?_
 refine aI (hb pins s1 σ H1 _ I1 q1) λu s2 ⟨y,H2,I2,r2,q2⟩=>?_
 exact hf v u s2 x y H2 I2 r1 r2 q2
theorem oh {op:Operator}{r:R2}(ho:cU X (binaryOp op) r)(ha:PE X a ta)(hb:PE X b tb):PE X (.BinOp a op b pos) (tO r ta tb):=by
 intro pins s σ H Q I h
 exact wpAny_BinOp (rF ha hb I h λv u s2 x y H2 I2 rx ry q=>ho pins s2 σ H2 x y v u Q I2 rx ry q)
theorem zi {op:UnaryOp}{r:V->Hp->VK->Prop}(ho:wI X (unaryOp op) r)(ha:PE X a ta):PE X (.UnaryOp op a pos) (tUn r ta):=by
 intro pins s σ H Q I h
 exact UnaryOp_ (aI (ha pins s σ H _ I h) λv s1 ⟨x,H1,I1,r1,q1⟩=>ho pins s1 σ H1 x v Q I1 r1 q1)
theorem mZ {C:Int->Int->Prop}{g:Int->Int->Int}
 (rule:∀(i j:Int) (t u:Tok) (s:Shared) (Q:Value->Shared->Prop) (E:Value->Shared->Prop),C i j->Q (.int (g i j) s.toks) {s with toks:=s.toks + 1}->wpAny (model X.prog X.w) X.A (f (.int i t) (.int j u)) Q E s):
 cU X f (rI C λi j=>.int (g i j)):=by
 intro pins s σ H x y v u Q I rx ry h
 obtain ⟨i,j,rfl,rfl,hc,q⟩:=h
 obtain ⟨t,rfl⟩:=rx
 obtain ⟨t',rfl⟩:=ry
 exact rule i j t t' s _ _ hc ⟨.int (g i j),H,I.tok _,⟨_,rfl⟩,q⟩
theorem xi {g:Int->Int->Int}
 (rule:∀(i j:Int) (t u:Tok) (s:Shared) (Q:Value->Shared->Prop) (E:Value->Shared->Prop),Q (.int (g i j) s.toks) {s with toks:=s.toks + 1}->wpAny (model X.prog X.w) X.A (f (.int i t) (.int j u)) Q E s):
 cU X f (la λi j=>.int (g i j)):=by
 intro pins s σ H x y v u Q I rx ry h
 obtain ⟨i,j,rfl,rfl,q⟩:=h
 obtain ⟨t,rfl⟩:=rx
 obtain ⟨t',rfl⟩:=ry
 exact rule i j t t' s _ _ ⟨.int (g i j),H,I.tok _,⟨_,rfl⟩,q⟩
theorem pA {g:Int->Int->Bool}
 (rule:∀(i j:Int) (t u:Tok) (s:Shared) (Q:Value->Shared->Prop) (E:Value->Shared->Prop),Q (.bool (g i j)) s->wpAny (model X.prog X.w) X.A (f (.int i t) (.int j u)) Q E s):
 cU X f (la λi j=>.bl (g i j)):=by
 intro pins s σ H x y v u Q I rx ry h
 obtain ⟨i,j,rfl,rfl,q⟩:=h
 obtain ⟨t,rfl⟩:=rx
 obtain ⟨t',rfl⟩:=ry
 exact rule i j t t' s _ _ ⟨.bl (g i j),H,I,rfl,q⟩
def yp (i j:Int):Prop:=0 < j/\j < 1073741824
def yH (i j:Int):Prop:=0<=j/\j<=1000000/\i.natAbs < 2 ^ 64
def pd (i j:Int):Prop:=(-(2 ^ 64) < i/\i < 2 ^ 64)∨(-(2 ^ 64) < j/\j < 2 ^ 64)
theorem pd.ok {i j:Int}(h:pd i j):IntMulOk i j:=by
 rcases h with ⟨h1,h2⟩ | ⟨h1,h2⟩
 ·exact .of_left (intBits_le_64 h1 h2)
 ·exact .of_right (intBits_le_64 h1 h2)
theorem yh:cU X (binaryOp .Add) (la λi j=>.int (i + j)):=xi λ_ _ _ _ _ _ _ q=>add_int q
theorem xQ:cU X (binaryOp .Sub) (la λi j=>.int (i - j)):=xi λ_ _ _ _ _ _ _ q=>sub_int q
theorem xa:cU X (binaryOp .Mult) (rI pd λi j=>.int (i * j)):=mZ λ_ _ _ _ _ _ _ hc q=>mul_int q hc.ok
theorem ux:cU X (binaryOp .FloorDiv) (rI yp λi j=>.int (i / j)):=mZ λi j _ _ _ _ _ hc q=>by
 have h1:(0:Int) < j:=hc.1
 have h2:j < 1073741824:=hc.2
 exact floordiv_int (by omega) (by rw [Int.fdiv_eq_ediv_of_nonneg i (by omega)];exact q) (.inl (PyProof.noPylong_small (by omega)))
theorem xE:cU X (binaryOp .Mod) (rI (λ_ j=>0 < j) λi j=>.int (i % j)):=mZ λi j _ _ _ _ _ hc q=>by
 have h1:(0:Int) < j:=hc
 exact mod_int' (by omega) (by rw [Int.fmod_eq_emod_of_nonneg i (by omega)];exact q)
theorem v9:cU X (binaryOp .Pow) (rI yH λi j=>.int (i ^ j.toNat)):=mZ λ_ _ _ _ _ _ _ hc q=>pow_int_small hc.1 hc.2.1 hc.2.2 q
theorem pH {f:Value->Sem Value}{g:Int->Int}
 (rule:∀(i:Int) (t:Tok) (s:Shared) (Q:Value->Shared->Prop) (E:Value->Shared->Prop),Q (.int (g i) s.toks) {s with toks:=s.toks + 1}->wpAny (model X.prog X.w) X.A (f (.int i t)) Q E s):
 wI X f (rU λi=>.int (g i)):=by
 intro pins s σ H x v Q I rx h
 obtain ⟨i,rfl,q⟩:=h
 obtain ⟨t,rfl⟩:=rx
 exact rule i t s _ _ ⟨.int (g i),H,I.tok _,⟨_,rfl⟩,q⟩
theorem wt:wI X (unaryOp .USub) (rU λi=>.int (-i)):=pH λ_ _ _ _ _ q=>neg_int q
end
def xX:V->V->Bool
 | .non,.non=>true | .non,.int _=>true | .int _,.non=>true | .non,.bl _=>true | .bl _,.non=>true | .non,.str _=>true | .str _,.non=>true
 | .int _,.int _=>true | .bl _,.bl _=>true | .str _,.str _=>true | .byt _,.byt _=>true
 | .int _,.str _=>true | .str _,.int _=>true | .bl _,.str _=>true | .str _,.bl _=>true
 | _,_=>false
def rEq:R2:=λx y H Q=>xX x y=true/\Q (.bl (decide (x=y))) H
def rNe:R2:=λx y H Q=>xX x y=true/\Q (.bl (!decide (x=y))) H
theorem i5 {i j:Int}:decide (V.int i=V.int j)=(i==j):=by
 rw [Bool.eq_iff_iff]
 simp
theorem pZ {i j:Bool}:decide (V.bl i=V.bl j)=(i==j):=by
 rw [Bool.eq_iff_iff]
 simp
theorem gG {i j:Str}:decide (V.str i=V.str j)=(i==j):=by
 rw [Bool.eq_iff_iff]
 simp
theorem nJ {i j:Array UInt8}:decide (V.byt i=V.byt j)=(i.toList==j.toList):=by
 rw [Bool.eq_iff_iff]
 cases i
 cases j
 simp
section
variable {X:Cx}{a b c:Expr}{ta tb tc:TE}{pos:Pos}
variable {op:CmpOp}{r:R2}
theorem bb {pins:List (Addr×Obj)}{σ:St}{H:Hp}{s:Shared}{Q:VK}{k k':Bool}(I:Inv X pins σ H s)(q:Q (.bl k) H)(e:k=k'):EP X pins σ Q (.bool k') s:=by
 subst e
 exact ⟨.bl k,H,I,rfl,q⟩
theorem uw:cU X (compareOp .Eq) rEq:=by
 intro pins s σ H x y v u Q I rx ry h
 obtain ⟨hs,q⟩:=h
 cases x with
 | non=>
   cases rx
   cases y with
   | non=>cases ry;exact PySem.EqNone.eq_none_none (bb I q (by simp))
   | bl j=>cases ry;exact PySem.EqNone.eq_none_bool (bb I q (by simp))
   | int j=>obtain ⟨t',rfl⟩:=ry;exact PySem.EqNone.eq_none_int (bb I q (by simp))
   | str j=>obtain ⟨t',rfl⟩:=ry;exact PySem.EqNone.eq_none_str (bb I q (by simp))
   | _=>exact absurd (show false=true from hs) Bool.false_ne_true
 | bl i=>
   cases rx
   cases y with
   | non=>cases ry;exact PySem.EqNone.eq_bool_none (bb I q (by simp))
   | bl j=>cases ry;exact eq_bool (bb I q pZ)
   | str j=>obtain ⟨t',rfl⟩:=ry;exact PySem.EqMixed.eq_bool_str (bb I q (by simp))
   | _=>exact absurd (show false=true from hs) Bool.false_ne_true
 | int i=>
   obtain ⟨t,rfl⟩:=rx
   cases y with
   | non=>cases ry;exact PySem.EqNone.eq_int_none (bb I q (by simp))
   | int j=>obtain ⟨t',rfl⟩:=ry;exact eq_int (bb I q i5)
   | str j=>obtain ⟨t',rfl⟩:=ry;exact PySem.EqMixed.eq_int_str (bb I q (by simp))
   | _=>exact absurd (show false=true from hs) Bool.false_ne_true
 | str i=>
   obtain ⟨t,rfl⟩:=rx
   cases y with
   | non=>cases ry;exact PySem.EqNone.eq_str_none (bb I q (by simp))
   | bl j=>cases ry;exact PySem.EqMixed.eq_str_bool (bb I q (by simp))
   | int j=>obtain ⟨t',rfl⟩:=ry;exact PySem.EqMixed.eq_str_int (bb I q (by simp))
   | str j=>obtain ⟨t',rfl⟩:=ry;exact eq_str (bb I q gG)
   | _=>exact absurd (show false=true from hs) Bool.false_ne_true
 | byt i=>
   obtain ⟨t,rfl⟩:=rx
   cases y with
   | byt j=>obtain ⟨t',rfl⟩:=ry;exact PySem.W.eq_bytes (bb I q nJ)
   | _=>exact absurd (show false=true from hs) Bool.false_ne_true
 | _=>cases y<;>exact absurd (show false=true from hs) Bool.false_ne_true
theorem ud:cU X (compareOp .NotEq) rNe:=by
 intro pins s σ H x y v u Q I rx ry h
 obtain ⟨hs,q⟩:=h
 cases x with
 | non=>
   cases rx
   cases y with
   | non=>cases ry;exact PySem.EqNone.ne_none_none (bb I q (by simp))
   | bl j=>cases ry;exact PySem.EqNone.ne_none_bool (bb I q (by simp))
   | int j=>obtain ⟨t',rfl⟩:=ry;exact PySem.EqNone.ne_none_int (bb I q (by simp))
   | str j=>obtain ⟨t',rfl⟩:=ry;exact PySem.EqNone.ne_none_str (bb I q (by simp))
   | _=>exact absurd (show false=true from hs) Bool.false_ne_true
 | bl i=>
   cases rx
   cases y with
   | non=>cases ry;exact PySem.EqNone.ne_bool_none (bb I q (by simp))
   | bl j=>cases ry;exact ne_bool (bb I q (congrArg not pZ))
   | str j=>obtain ⟨t',rfl⟩:=ry;exact PySem.EqMixed.ne_bool_str (bb I q (by simp))
   | _=>exact absurd (show false=true from hs) Bool.false_ne_true
 | int i=>
   obtain ⟨t,rfl⟩:=rx
   cases y with
   | non=>cases ry;exact PySem.EqNone.ne_int_none (bb I q (by simp))
   | int j=>obtain ⟨t',rfl⟩:=ry;exact ne_int (bb I q (congrArg not i5))
   | str j=>obtain ⟨t',rfl⟩:=ry;exact PySem.EqMixed.ne_int_str (bb I q (by simp))
   | _=>exact absurd (show false=true from hs) Bool.false_ne_true
 | str i=>
   obtain ⟨t,rfl⟩:=rx
   cases y with
   | non=>cases ry;exact PySem.EqNone.ne_str_none (bb I q (by simp))
   | bl j=>cases ry;exact PySem.EqMixed.ne_str_bool (bb I q (by simp))
   | int j=>obtain ⟨t',rfl⟩:=ry;exact PySem.EqMixed.ne_str_int (bb I q (by simp))
   | str j=>obtain ⟨t',rfl⟩:=ry;exact ne_str (bb I q (congrArg not gG))
   | _=>exact absurd (show false=true from hs) Bool.false_ne_true
 | byt i=>
   obtain ⟨t,rfl⟩:=rx
   cases y with
   | byt j=>obtain ⟨t',rfl⟩:=ry;exact PySem.W.ne_bytes (bb I q (congrArg not nJ))
   | _=>exact absurd (show false=true from hs) Bool.false_ne_true
 | _=>cases y<;>exact absurd (show false=true from hs) Bool.false_ne_true
theorem zG:cU X (compareOp .Lt) (la λi j=>.bl (decide (i < j))):=pA λ_ _ _ _ _ _ _ q=>lt_int q
theorem Ap:cU X (compareOp .LtE) (la λi j=>.bl (decide (i<=j))):=pA λ_ _ _ _ _ _ _ q=>le_int q
theorem zM:cU X (compareOp .Gt) (la λi j=>.bl (decide (j < i))):=pA λ_ _ _ _ _ _ _ q=>gt_int q
theorem zY:cU X (compareOp .GtE) (la λi j=>.bl (decide (j<=i))):=pA λ_ _ _ _ _ _ _ q=>ge_int q
theorem yw:cU X (compareOp .Is) (λx y H Q=>y= .non/\Q (.bl (decide (x= .non))) H):=by
 intro pins s σ H x y v u Q I rx ry h
 obtain ⟨rfl,q⟩:=h
 cases ry
 refine is_none_gen (bb I q ?_)
 cases x<;>first
  | (cases rx;rfl)
  | (obtain ⟨t,rfl⟩:=rx;rfl)
theorem nk:cU X (compareOp .IsNot) (λx y H Q=>y= .non/\Q (.bl (!decide (x= .non))) H):=by
 intro pins s σ H x y v u Q I rx ry h
 obtain ⟨rfl,q⟩:=h
 cases ry
 refine isnot_none_gen (bb I q ?_)
 cases x<;>first
  | (cases rx;rfl)
  | (obtain ⟨t,rfl⟩:=rx;rfl)
theorem qN (b:Expr)(h:op≠ .In:=by decide)(h2:op≠ .NotIn:=by decide):behindInMarks op b=false:=by
 have e1:(op==CmpOp.In)=false:=by cases op<;>first | rfl | exact absurd rfl h
 have e2:(op==CmpOp.NotIn)=false:=by cases op<;>first | rfl | exact absurd rfl h2
 cases b<;>simp [behindInMarks,e1,e2]
theorem vA (ho:cU X (compareOp op) r)(ha:PE X a ta)(hb:PE X b tb)(hm:behindInMarks op b=false):PE X (.Compare a [op] [b] pos) (tO r ta tb):=by
 intro pins s σ H Q I h
 exact wpAny_Compare1 (rF ha hb I h λv u s2 x y H2 I2 rx ry q=>ho pins s2 σ H2 x y v u Q I2 rx ry q) hm
def Ad (t:TE):TT:=λσ H Q=>t σ H λx H'=>∃k,x= .bl k/\Q k H'
theorem uY (ho:cU X (compareOp op) r)(ha:PE X a ta)(hb:PE X b tb)(hm:behindInMarks op b=false):PT X (.Compare a [op] [b] pos) (Ad (tO r ta tb)):=by
 intro pins s σ H Q I h
 refine wpAny_isTrue_Compare1 (aI (ha pins s σ H _ I h) λv s1 ⟨x,H1,I1,r1,q1⟩=>aI (hb pins s1 σ H1 _ I1 q1) λu s2 ⟨y,H2,I2,r2,q2⟩=>
  aI (ho pins s2 σ H2 x y v u _ I2 r1 r2 q2) λc s3 ⟨z,H3,I3,r3,k,e,q3⟩=>?_) hm
 subst e
 cases r3
 exact wpAny_truthy_bool ⟨H3,I3,q3⟩
def yT (r r':R2)(ta tb tc:TE):TE:=λσ H Q=>ta σ H λx H1=>tb σ H1 λy H2=>r x y H2 λz H3=>∃k,z= .bl k/\
 (if k=true then tc σ H3 λw' H4=>r' y w' H4 Q else Q (.bl false) H3)
theorem sZ {op':CmpOp}{r':R2}(ho:cU X (compareOp op) r)(ho':cU X (compareOp op') r')(ha:PE X a ta)(hb:PE X b tb)(hc:PE X c tc)
 (hm:lastMarks [op,op'] [b,c]=false:=by with_unfolding_all rfl):PE X (.Compare a [op,op'] [b,c] pos) (yT r r' ta tb tc):=by
 intro pins s σ H Q I h
 refine Compare_chain (aI (ha pins s σ H _ I h) λv s1 ⟨x,H1,I1,r1,q1⟩=>chain_link (aI (hb pins s1 σ H1 _ I1 q1) λu s2 ⟨y,H2,I2,r2,q2⟩=>
  aI (ho pins s2 σ H2 x y v u _ I2 r1 r2 q2) λd s3 ⟨z,H3,I3,r3,k,e,q3⟩=>?_)) hm
 subst e
 cases r3
 refine wpAny_truthy_bool ?_
 cases k with
 | false=>exact ite_ff ⟨.bl false,H3,I3,rfl,q3⟩
 | true=>exact ite_tt (chain_last (aI (hc pins s3 σ H3 _ I3 q3) λw' s4 ⟨z',H4,I4,r4,q4⟩=>ho' pins s4 σ H4 y z' u w' Q I4 r2 r4 q4))
def xc (K:PySem.W.Frag)(x:V)(H:Hp)(k:Bool):Prop:=
 match x with
 | .non=>k=false
 | .bl b=>k=b
 | .int i=>k=(i != 0)
 | .str y=>y.length<=sizeLine/\k=((y.length:Int) != 0)
 | .byt y=>y.size<=sizeLine/\k=((y.size:Int) != 0)
 | .ref p=>(∃xs,bI K H p xs/\k= !xs.isEmpty)∨(∃xs,bH K H p xs/\k= !xs.isEmpty)∨∃kvs,H p=some (.dK kvs)/\k= !kvs.isEmpty
 | _=>False
theorem oo {κ:Type}{kvs:List (κ×V)}{vs:List (κ×Value)}(r:KV kvs vs):(!vs.isEmpty)= !kvs.isEmpty:=by
 cases r<;>rfl
theorem jU {xs:List V}{its:List Value}(r:Vals xs its):(!its.toArray.isEmpty)= !xs.isEmpty:=by
 cases r<;>simp
theorem gX:(sizeLine:Nat) < 2 ^ 63:=by rw [sizeLine_eq];decide
theorem yO:Bm X (λx H Q=>∃k,xc X.K x H k/\Q k H):=by
 intro pins s σ H x v Q I rx h
 obtain ⟨k,e,q⟩:=h
 have hl:=gX
 have hs:sizeLine=16777216:=sizeLine_eq
 cases x with
 | non=>
   cases rx
   have e':k=false:=e
   subst e'
   exact truthy_none ⟨H,I,q⟩
 | bl b=>
   cases rx
   have e':k=b:=e
   subst e'
   exact wpAny_truthy_bool ⟨H,I,q⟩
 | int i=>
   obtain ⟨t,rfl⟩:=rx
   have e':k=(i != 0):=e
   subst e'
   exact PySem.P.truthy_int ⟨H,I,q⟩
 | str y=>
   obtain ⟨t,rfl⟩:=rx
   obtain ⟨hy,e'⟩:y.length<=sizeLine/\k=((y.length:Int) != 0):=e
   subst e'
   exact PySem.P.truthy_str (by omega) ⟨H,I.tok _,q⟩
 | byt y=>
   obtain ⟨t,rfl⟩:=rx
   obtain ⟨hy,e'⟩:y.size<=sizeLine/\k=((y.size:Int) != 0):=e
   subst e'
   exact PySem.W.truthy_bytes (by omega) ⟨H,I.tok _,q⟩
 | ref p=>
   cases rx
   have e':(∃xs,bI X.K H p xs/\k= !xs.isEmpty)∨(∃xs,bH X.K H p xs/\k= !xs.isEmpty)∨∃kvs,H p=some (.dK kvs)/\k= !kvs.isEmpty:=e
   rcases e' with ⟨xs,hx,e'⟩ | ⟨xs,hx,e'⟩ | ⟨kvs,hx,e'⟩
   ·subst e'
    obtain ⟨its,r,pl,hz⟩:=I.list hx
    have hlen:=r.length
    exact wpAny_truthy_list pl.isList (by simp only [List.size_toArray];omega) ⟨H,I.tok _,by rw [jU r];exact q⟩
   ·subst e'
    obtain ⟨its,r,pl,hz⟩:=I.tuple hx
    have hlen:=r.length
    exact truthy_tuple pl (by simp only [List.size_toArray];omega) ⟨H,I.tok _,by rw [jU r];exact q⟩
   ·subst e'
    obtain ⟨hz,hS,vs,r,m⟩:kvs.length<=sizeLine/\(p==sysModules)=false/\∃vs,KV kvs vs/\s.heap.DictOf (bw X.prog X.w) p vs:=I.hok p _ hx
    have hlen:kvs.length=vs.length:=Paired.length r
    exact wpAny_truthy_dict hS m (by omega) ⟨H,I.tok _,by rw [oo r];exact q⟩
 | _=>exact (show False from e).elim
theorem sX (ha:PE X a ta)(he:∀whole,isTrue a X.env whole=(do let v ← whole;standAt a.pos;holding [v] (truthy v))):
 PT X a (λσ H Q=>ta σ H λx H'=>∃k,xc X.K x H' k/\Q k H'):=by
 intro pins s σ H Q I h
 exact isTrue_plain (aI (ha pins s σ H _ I h) λv s1 ⟨x,H1,I1,r1,q1⟩=>yO pins s1 σ H1 x v Q I1 r1 q1) (he _)
theorem ou:cU X (binaryOp .Add) (λx y H Q=>∃i j,x= .str i/\y= .str j/\i.length + j.length<=sizeLine/\Q (.str (i++j)) H):=by
 intro pins s σ H x y v u Q I rx ry h
 obtain ⟨i,j,rfl,rfl,hz,q⟩:=h
 obtain ⟨t,rfl⟩:=rx
 obtain ⟨t',rfl⟩:=ry
 exact add_str (λt' tk=>⟨.str (i++j),H,I.tok _,⟨_,rfl⟩,q⟩) hz
theorem vals1 {x:V}{us:List Value}(r:Vals [x] us):∃u,us=[u]/\RelV x u:=by
 cases r with
 | cons r1 r2=>cases r2;exact ⟨_,rfl,r1⟩
theorem vals2 {x y:V}{us:List Value}(r:Vals [x,y] us):∃u w',us=[u,w']/\RelV x u/\RelV y w':=by
 cases r with
 | cons r1 r2=>
   cases r2 with
   | cons r3 r4=>cases r4;exact ⟨_,_,rfl,r1,r3⟩
theorem qE (hc:X.calm=true):dz X (.builtin "max") (λxs H Q=>∃i j,xs=[.int i,.int j]/\Q (.int (if j > i then j else i)) H):=by
 intro pins s σ H xs us Q I r h
 obtain ⟨i,j,rfl,q⟩:=h
 obtain ⟨u,w',rfl,⟨t,rfl⟩,⟨t',rfl⟩⟩:=vals2 r
 refine max_two_ints (I.ok.hd hc) λh' tk k=>⟨_,H,I.kept k,?_,q⟩
 by_cases hj:j > i
 ·rw [if_pos hj,if_pos hj];exact ⟨_,rfl⟩
 ·rw [if_neg hj,if_neg hj];exact ⟨_,rfl⟩
theorem pV (hc:X.calm=true):dz X (.builtin "min") (λxs H Q=>∃i j,xs=[.int i,.int j]/\Q (.int (if j < i then j else i)) H):=by
 intro pins s σ H xs us Q I r h
 obtain ⟨i,j,rfl,q⟩:=h
 obtain ⟨u,w',rfl,⟨t,rfl⟩,⟨t',rfl⟩⟩:=vals2 r
 refine min_two_ints (I.ok.hd hc) λh' tk k=>⟨_,H,I.kept k,?_,q⟩
 by_cases hj:j < i
 ·rw [if_pos hj,if_pos hj];exact ⟨_,rfl⟩
 ·rw [if_neg hj,if_neg hj];exact ⟨_,rfl⟩
end
structure kx (h:Heap) (x dx C:Addr) (mA:Str->Option Value):Prop where
 obj:h.get? x=some (PySem.W.instObj C dx)
 ns:h.Ns1 dx mA
 ne:dx≠x
theorem kP {h:Heap}{dx:Addr}{mA:Str->Option Value}(n:h.Ns1 dx mA):∃od,h.get? dx=some od/\∀name,PySem.W.lookIn name od=some (mA name):=by
 obtain ⟨o,es,ep,ho,hd,hk,_,hm⟩:=n
 refine ⟨o,ho,λname=>?_⟩
 have e:=hm name
 unfold nsFind findBy at e
 rw [← Array.find?_toList] at e
 unfold PySem.W.lookIn
 rw [hd]
 dsimp only
 split
 ·rename_i y q
  rw [q] at e
  exact congrArg some e
 ·rename_i q
  rw [q] at e
  have a:es.toList.any (·.refKey)=false:=by
   rw [List.any_eq_false]
   intro y hy
   obtain ⟨z,t,hkey⟩:=hk y (Array.mem_toList_iff.mp hy)
   simp [DictEntry.refKey,hkey]
  have a':¬es.toList.any (·.refKey)=true:=by rw [a];exact Bool.false_ne_true
  rw [if_neg a']
  exact congrArg some e
theorem kx.look {h:Heap}{x dx C:Addr}{mA:Str->Option Value}(I:kx h x dx C mA):∃od,PySem.W.InstAt h x (PySem.W.instObj C dx) C (some od)/\∀name,PySem.W.lookIn name od=some (mA name):=
 let ⟨od,ho,hl⟩:=kP I.ns
 ⟨od,⟨I.obj,rfl,rfl,ho⟩,hl⟩
section
variable {prog:Program}{w:World}{A:Around}{E:Value->Shared->Prop}{s:Shared}{K:PySem.W.Frag}{x dx C f:Addr}{mA:Str->Option Value}{name:Str}{v:Value}
theorem get_map {expr:Bool}{Q:Value->Shared->Prop}(X:K.In s.heap)(I:kx s.heap x dx C mA)(hg:PySem.W.plainGet K C name=true)(hh:PySem.W.hasDictIn K C=true)
 (ha:PySem.W.findIn K (.ref C) name=some none) (hv:mA name=some v) (hv':PySem.W.handedIn v=true) (h:Q v {s with toks:=s.toks + 1}):
 wpAny (model prog w) A (getAttr (.ref x) name expr) Q E s:=by
 obtain ⟨od,J,hl⟩:=I.look
 exact PySem.W.get_value X J (PySem.W.plainGet_of hg).1 (PySem.W.findObj_own hh ha rfl (by rw [hl,hv])) hv' h
theorem vx {ns:List Str}{Q:Unit->Shared->Prop}(X:K.In s.heap)(I:kx s.heap x dx C mA)
 (hs:PySem.W.findIn K (.ref C) "__setattr__"=some (some (.builtin "object.__setattr__"))) (hp:PySem.W.plainOver K C=true) (ht:PySem.W.takerIn K C name=some none) (hh:PySem.W.hasDictIn K C=true)
 (hw:PySem.Within mA ns) (hsz:ns.length<=sizeLine)
 (h:∀h',kx h' x dx C (λy=>if y=name then some v else mA y)->Heap.SameBut dx s.heap h'->Q () {s with heap:=h',toks:=s.toks + 2}):
 wpAny (model prog w) A (setAttr (.ref x) name v) Q E s:=by
 obtain ⟨od,J,hl⟩:=I.look
 refine PySem.W.set_plain X J hs (PySem.W.osa_open (s:={s with toks:=s.toks + 1}) (r:=none) X J hp ht λb=>?_)
 obtain ⟨cd,hc,hd'⟩:=PySem.W.any_some hh
 have hx:s.heap.get? x=some ⟨.ref C,some dx,.plain, #[]⟩:=I.obj
 refine wpAny_bind (wpAny_pure (wpAny_bind (wpAny_bind (wpAny_loadPart hx (wpAny_bind (PySem.W.Looks.here (s:={s with toks:=s.toks + 1}) (PySem.W.looks_clsIn X hc) ?_))))))
 rw [hd']
 refine wpAny_pure (a:=some dx) (wpAny_bind (wpAny_pure (wpAny_bind ?_)))
 refine wpAny_nsSet1 (s:={s with toks:=s.toks + 1}) I.ns λh' hn2 hs2=>?_
 obtain ⟨oD,esD,epD,hoD,hdD,hcD⟩:=hn2.count (PySem.Within.cons name v hw)
 refine wpAny_bind (wpAny_lookBehind hoD (by rw [hdD];exact pastItsLine_dict (Nat.le_trans hcD (by rw [List.length_cons];omega))) ?_)
 exact wpAny_pure (h _ ⟨(hs2.2 _ (Ne.symm I.ne)).trans I.obj,hn2,I.ne⟩ hs2)
theorem sE {R:Result->Shared->Prop}{vs:List Value}{kw:List (Str×Value)}(X:K.In s.heap)(hm:PySem.W.makesIn K C=true)
 (hi:PySem.W.findIn K (.ref C) "__init__"=some (some (.ref f))) (hf:PySem.W.typeIn K (.ref f)=some (.type "function"))
 (h:codeAny (model prog w) (A.under (.builtin "type.__call__" ⟨.ref C::vs,kw⟩)) (.call (.ref f) ⟨.ref (s.heap.objs.size + 1)::vs,kw⟩) (PySem.W.InitBack (s.heap.objs.size + 1) R)
  {s with heap:=(s.heap.push PySem.W.emptyDict).push (PySem.W.instObj C s.heap.objs.size)}):
 codeAny (model prog w) A (.call (.ref C) ⟨vs,kw⟩) R s:=by
 obtain ⟨hh,g,d,t,os⟩:=s
 exact PySem.W.make_core (PySem.W.makes_of X hm) (PySem.W.looks_findIn X hi) (λself=>PySem.W.bind_fn X self hf) (.inl rfl) h
end
def de (f:Str)(v:V):List (Str×V)->List (Str×V)
 | []=>[(f,v)]
 | (g,x)::r=>if g=f then (g,v)::r else (g,x)::de f v r
theorem jb (f g:Str)(v:V):∀fs:List (Str×V),(de f v fs).lookup g=if g=f then some v else fs.lookup g
 | []=>by
   show List.lookup g [(f,v)]=_
   by_cases h:g=f
   ·have hb:(g==f)=true:=beq_iff_eq.mpr h
    simp only [List.lookup,hb,if_pos h]
   ·have hb:(g==f)=false:=beq_eq_false_iff_ne.mpr h
    simp only [List.lookup,hb,if_neg h]
 | (k,x)::r=>by
   have ih:=jb f g v r
   rw [show de f v ((k,x)::r)=(if k=f then (k,v)::r else (k,x)::de f v r) from rfl]
   by_cases hk:k=f
   ·rw [if_pos hk]
    by_cases h:g=k
    ·have hb:(g==k)=true:=beq_iff_eq.mpr h
     simp only [List.lookup,hb,if_pos (h.trans hk)]
    ·have hb:(g==k)=false:=beq_eq_false_iff_ne.mpr h
     simp only [List.lookup,hb,if_neg (λe:g=f=>h (e.trans hk.symm))]
   ·rw [if_neg hk]
    by_cases h:g=k
    ·have hb:(g==k)=true:=beq_iff_eq.mpr h
     simp only [List.lookup,hb,if_neg (λe:g=f=>hk (h.symm.trans e))]
    ·have hb:(g==k)=false:=beq_eq_false_iff_ne.mpr h
     simp only [List.lookup,hb]
     exact ih
theorem iL (f:Str)(v:V):∀fs:List (Str×V),f∈(de f v fs).map (·.1)/\∀g,g∈fs.map (·.1)->g∈(de f v fs).map (·.1)
 | []=>⟨by simp [de],λg h=>by simp at h⟩
 | (k,x)::r=>by
   obtain ⟨i1,i2⟩:=iL f v r
   rw [show de f v ((k,x)::r)=(if k=f then (k,v)::r else (k,x)::de f v r) from rfl]
   by_cases hk:k=f
   ·rw [if_pos hk]
    subst hk
    exact ⟨by simp,λg h=>by simpa using h⟩
   ·rw [if_neg hk]
    refine ⟨?_,λg h=>?_⟩
    ·rw [List.map_cons]
     exact List.mem_cons_of_mem _ i1
    ·rw [List.map_cons] at h ⊢
     rcases List.mem_cons.mp h with e | e
     ·exact List.mem_cons.mpr (.inl e)
     ·exact List.mem_cons_of_mem _ (i2 g e)
theorem je (f:Str)(v:V):∀fs:List (Str×V),(de f v fs).length<=fs.length + 1
 | []=>by simp [de]
 | (k,x)::r=>by
   have ih:=je f v r
   rw [show de f v ((k,x)::r)=(if k=f then (k,v)::r else (k,x)::de f v r) from rfl]
   by_cases hk:k=f
   ·rw [if_pos hk,List.length_cons,List.length_cons];omega
   ·rw [if_neg hk,List.length_cons,List.length_cons];omega
theorem dW.some_of {v:V}{o:Option Value}(r:dW (some v) o):∃u,o=some u/\RelV v u:=by
 cases o with
 | none=>exact (show False from r).elim
 | some u=>exact ⟨u,rfl,r⟩
theorem kJ {v:V}{u:Value}(r:RelV v u):PySem.W.handedIn u=true:=by
 cases v with
 | non=>cases (show u=Value.none from r);rfl
 | bl b=>cases (show u=Value.bool b from r);rfl
 | int i=>obtain ⟨t,e⟩:=(show∃t,u=Value.int i t from r);cases e;rfl
 | str x=>obtain ⟨t,e⟩:=(show∃t,u=Value.str x t from r);cases e;rfl
 | byt b=>obtain ⟨t,e⟩:=(show∃t,u=Value.bytes b t from r);cases e;rfl
 | flt b=>obtain ⟨t,e⟩:=(show∃t,u=Value.float b t from r);cases e;rfl
 | ref a=>cases (show u=Value.ref a from r);rfl
 | ty n=>cases (show u=Value.type n from r);rfl
section
variable {P:Program}{w:World}{H H':Hp}{h h':Heap}{a C dx:Addr}{fs fs':List (Str×V)}
theorem j7 (hok:bO P w H h)(e:H a=some (.ins C dx fs)):∃mA,kx h a dx C mA/\(∀f,dW (fs.lookup f) (mA f))/\PySem.Within mA (fs.map (·.1))/\fs.length<=1000/\H dx=some (.own a):=by
 obtain ⟨d,z,ne,ob,mA,n,r,q⟩:=(show br P w H h a (.ins C dx fs) from hok a _ e)
 exact ⟨mA,⟨ob,n,ne⟩,r,q,z,d⟩
end
structure jT (K:PySem.W.Frag) (C:Addr):Prop where
 pg:PySem.W.plainGet K C Str.empty=true
 hd:PySem.W.hasDictIn K C=true
 po:PySem.W.plainOver K C=true
 sa:PySem.W.findIn K (.ref C) "__setattr__"=some (some (.builtin "object.__setattr__"))
theorem jT.get {K:PySem.W.Frag}{C:Addr}(c:jT K C)(f:Str):PySem.W.plainGet K C f=true:=c.pg
def fg (K:PySem.W.Frag)(C:Addr)(f:Str):Prop:=PySem.W.findIn K (.ref C) f=some none
theorem fg.An {K:PySem.W.Frag}{C:Addr}{f:Str}(n:fg K C f):PySem.W.takerIn K C f=some none:=by
 unfold PySem.W.takerIn
 rw [show PySem.W.findIn K (.ref C) f=some none from n]
 rfl
section
variable {X:Cx}{pins:List (Addr×Obj)}{σ:St}{H:Hp}{s:Shared}{a C dx:Addr}{fs:List (Str×V)}{f:Str}{v:V}{A:Around}{E:Value->Shared->Prop}
theorem jS {b:Bool}{Q:Value->Shared->Prop}(I:Inv X pins σ H s)(e:H a=some (.ins C dx fs))(c:jT X.K C)(n:fg X.K C f)(l:fs.lookup f=some v)
 (h:∀u s',Inv X pins σ H s'->RelV v u->Q u s'):wpAny (model X.prog X.w) A (getAttr (.ref a) f b) Q E s:=by
 obtain ⟨mA,O,r,_,_,_⟩:=j7 I.hok e
 obtain ⟨u,hu,ru⟩:=dW.some_of (v:=v) (o:=mA f) (by rw [← l];exact r f)
 exact get_map I.cz O (c.get f) c.hd n hu (kJ ru) (h u _ (I.tok _) ru)
theorem jO {y:V}{u:Value}{Q:Unit->Shared->Prop}(I:Inv X pins σ H s)(e:H a=some (.ins C dx fs))(c:jT X.K C)(n:fg X.K C f)(hl:fs.length < 1000)(ry:RelV y u)
 (h:∀s',Inv X pins σ (upd H a (.ins C dx (de f y fs))) s'->Q () s'):wpAny (model X.prog X.w) A (setAttr (.ref a) f u) Q E s:=by
 obtain ⟨mA,O,r,wi,_,ho⟩:=j7 I.hok e
 have hz:(fs.map (·.1)).length<=sizeLine:=by rw [List.length_map,sizeLine_eq];omega
 refine vx I.cz O c.sa c.po n.An c.hd wi hz λh' O' sb=>h _ ?_
 have hd:∃o,h'.get? dx=some o:=let ⟨o,_,_,e',_⟩:=O'.ns;⟨o,e'⟩
 refine I.write (x:=a) (e:=dx) (by rw [e];exact True.intro) (.inr ho) (λb q hb z=>(sb.2 b hb).trans z) hd ?_
 refine ⟨by rw [az O.ne];exact ho,?_,O.ne,O'.obj,_,O'.ns,λg=>?_,λg hg=>?_⟩
 ·have:=je f y fs;omega
 ·show dW ((de f y fs).lookup g) (if g=f then some u else mA g)
  rw [jb]
  by_cases q:g=f
  ·rw [if_pos q,if_pos q];exact ry
  ·rw [if_neg q,if_neg q];exact r g
 ·by_cases q:g=f
  ·rw [q];exact (iL f y fs).1
  ·refine (iL f y fs).2 g (wi g λz=>hg ?_)
   show (if g=f then some u else mA g)=none
   rw [if_neg q];exact z
theorem Inv.made (I:Inv X pins σ H s):Inv X pins σ (upd (upd H s.heap.objs.size (.own (s.heap.objs.size + 1))) (s.heap.objs.size + 1) (.ins C s.heap.objs.size []))
 {s with heap:=(s.heap.push PySem.W.emptyDict).push (PySem.W.instObj C s.heap.objs.size)}:=by
 have e1:(s.heap.push PySem.W.emptyDict).get? s.heap.objs.size=some PySem.W.emptyDict:=Heap.get?_push_size s.heap rfl
 have e2:((s.heap.push PySem.W.emptyDict).push (PySem.W.instObj C s.heap.objs.size)).get? (s.heap.objs.size + 1)=some (PySem.W.instObj C s.heap.objs.size):=by
  have:=Heap.get?_push_size (s.heap.push PySem.W.emptyDict) (o:=PySem.W.instObj C s.heap.objs.size) rfl
  rwa [Heap.size_push] at this
 have e3:(s.heap.push PySem.W.emptyDict).Ns s.heap.objs.size (λ_=>none):=⟨PySem.W.emptyDict, #[],_,e1,rfl,(λe he=>absurd he (by simp)),λ_=>rfl⟩
 have I1:=I.laid (a:=s.heap.objs.size) (o:=.own (s.heap.objs.size + 1)) (h':=s.heap.push PySem.W.emptyDict) (t':=s.toks) (λb u q=>Heap.get?_push_of_some _ q) (Nat.le_refl _) ⟨_,e1⟩
 refine I1.laid (a:=s.heap.objs.size + 1) (o:=.ins C s.heap.objs.size []) (t':=s.toks) (λb u q=>Heap.get?_push_of_some _ q) (Nat.le_of_eq (Heap.size_push _ _)) ?_
 have ne:s.heap.objs.size≠s.heap.objs.size + 1:=Nat.ne_of_lt (Nat.lt_succ_self _)
 refine ⟨by rw [az ne,aA],Nat.zero_le _,ne,e2,λ_=>none,(Heap.Ns1.of_empty e3).at λo q=>Heap.get?_push_of_some _ q,λ_=>True.intro,λy hy=>absurd rfl hy⟩
theorem m9 {prog:Program}{w:World}{env:Env}{e:Expr}{f:Str}{pos:Pos}{s:Shared}{Q:Value->Shared->Prop}(hb:attributeBase e f env (eval e env)=eval e env)
 (h:wpAny (model prog w) A (eval e env) (λo s₁=>wpAny (model prog w) A (getAttr o f true) Q E s₁) E s):wpAny (model prog w) A (eval (.Attribute e f pos) env) Q E s:=
 Attribute_any_ h (by rw [arm_eval_Attribute,hb])
end
def Bi (K:PySem.W.Frag)(ta:TE)(f:Str):TE:=λσ H Q=>ta σ H λx H1=>∃a C dx fs v,x= .ref a/\H1 a=some (.ins C dx fs)/\jT K C/\fg K C f/\fs.lookup f=some v/\Q v H1
def A5 (K:PySem.W.Frag)(ta tv:TE)(f:Str):TS:=λD σ H=>tv σ H λy H1=>ta σ H1 λx H2=>∃a C dx fs,x= .ref a/\H2 a=some (.ins C dx fs)/\jT K C/\fg K C f/\fs.length < 1000/\
 D.nx σ (upd H2 a (.ins C dx (de f y fs)))
def xP (X:Cx)(op:Operator)(rd:V->V->Hp->VK->Prop):Prop:=
 ∀(pins:List (Addr×Obj)) (s:Shared) (σ:St) (H:Hp) (x y:V) (u v:Value) (Q:VK),Inv X pins σ H s->RelV x u->RelV y v->rd x y H Q->wpAny (model X.prog X.w) X.A (inplaceOp op u v) (EP X pins σ Q) X.xe s
def uL (K:PySem.W.Frag)(ta tv:TE)(rd:V->V->Hp->VK->Prop)(f:Str):TS:=λD σ H=>ta σ H λx H1=>∃a C dx fs v,x= .ref a/\H1 a=some (.ins C dx fs)/\jT K C/\fg K C f/\fs.lookup f=some v/\
 tv σ H1 λy H2=>rd v y H2 λz H3=>∃dx' fs',H3 a=some (.ins C dx' fs')/\fs'.length < 1000/\D.nx σ (upd H3 a (.ins C dx' (de f z fs')))
section
variable {X:Cx}{o e value:Expr}{f:Str}{pos pos' tpos:Pos}{ta tv:TE}
theorem du (he:PE X e ta)(hb:attributeBase e f X.env (eval e X.env)=eval e X.env):PE X (.Attribute e f pos) (Bi X.K ta f):=by
 intro pins s σ H Q I h
 refine m9 hb (aI (he pins s σ H _ I h) λu s1 ⟨x,H1,I1,rx,a,C,dx,fs,v,ex,ea,c,n,l,q⟩=>?_)
 subst ex
 obtain rfl:u=Value.ref a:=rx
 exact jS I1 ea c n l λu' s2 I2 ru=>⟨v,H1,I2,ru,q⟩
theorem pE (ha:PE X o ta)(hv:PE X value tv)(hs:swapsWith value (some (.Attribute o f pos')) pos.line X.env=pure false):PS X (.Assign [.Attribute o f pos'] value pos) (A5 X.K ta tv f):=by
 intro pins s σ H D I h
 refine plainObj_wpAny_Assign_Attribute (aI (hv pins s σ H _ I h) λu s1 ⟨y,H1,I1,ry,q⟩=>aI (ha pins s1 σ H1 _ I1 q) λov s2 ⟨x,H2,I2,rx,a,C,dx,fs,ex,ea,c,n,l,q2⟩=>?_) hs
 subst ex
 obtain rfl:ov=Value.ref a:=rx
 exact jO I2 ea c n l ry λs3 I3=>⟨σ,_,I3,q2⟩
theorem qZ {op:Operator}{rd:V->V->Hp->VK->Prop}(ha:PE X o ta)(hv:PE X value tv)(hop:xP X op rd):PS X (.AugAssign (.Attribute o f tpos) op value pos) (uL X.K ta tv rd f):=by
 intro pins s σ H D I h
 refine wpAny_AugAssign_AttributeAny (aI (ha pins s σ H _ I h) λov s1 ⟨x,H1,I1,rx,a,C,dx,fs,v,ex,ea,c,n,l,q⟩=>?_)
 subst ex
 obtain rfl:ov=Value.ref a:=rx
 refine jS I1 ea c n l λu s2 I2 ru=>aI (hv pins s2 σ H1 _ I2 q) λw3 s3 ⟨y,H2,I3,ry,q3⟩=>aI (hop pins s3 σ H2 v y u w3 _ I3 ru ry q3) λw4 s4 ⟨z,H3,I4,rz,dx',fs',ea',l',q4⟩=>?_
 exact jO I4 ea' c n l' rz λs5 I5=>⟨σ,_,I5,q4⟩
def Bq:V->V->Hp->VK->Prop:=λx y H Q=>∃i j,x= .int i/\y= .int j/\Q (.int (i + j)) H
theorem xn:xP X .Add Bq:=by
 rintro pins s σ H x y u v Q I rx ry ⟨i,j,rfl,rfl,q⟩
 obtain ⟨t,rfl⟩:=(show∃t,u=Value.int i t from rx)
 obtain ⟨t',rfl⟩:=(show∃t',v=Value.int j t' from ry)
 exact PyProof.Rows.iadd_int ⟨.int (i + j),H,I.tok _,⟨_,rfl⟩,q⟩
end
section
variable {X:Cx}{pins:List (Addr×Obj)}{σ:St}{H:Hp}{s:Shared}{A:Around}{E:Value->Shared->Prop}{Q:Value->Shared->Prop}{c:Value}{b:Bool}
inductive cy (K:PySem.W.Frag) (H:Hp):V->Value->Prop where
 | non:cy K H .non (.type "NoneType")
 | bl (x:Bool):cy K H (.bl x) (.type "bool")
 | int (i:Int):cy K H (.int i) (.type "int")
 | str (x:Str):cy K H (.str x) (.type "str")
 | flt (x:UInt64):cy K H (.flt x) (.type "float")
 | lst {a:Addr} {xs:List V} (e:H a=some (.lst xs)):cy K H (.ref a) (.type "list")
 | frz {a:Addr} {o:Obj} {xs:List V} (e:H a=some (.frz o (.lst xs))):cy K H (.ref a) (.type "list")
 | tup {a:Addr} {xs:List V} (e:H a=some (.tup xs)):cy K H (.ref a) (.type "tuple")
 | dK {a:Addr} {kvs:List (Key×V)} (e:H a=some (.dK kvs)):cy K H (.ref a) (.type "dict")
 | dT {a:Addr} {kvs:List (List Key×V)} (e:H a=some (.dT kvs)):cy K H (.ref a) (.type "dict")
 | ins {a C dx:Addr} {fs:List (Str×V)} (e:H a=some (.ins C dx fs)) (cl:jT K C) (ha:PySem.W.findIn K (.ref C) "__class__"=some (some (.builtin "object.__class__")))
  (hn:PySem.W.specialIn K (.builtin "object.__class__") "__get__"=some (some (.builtin "getset_descriptor.__get__"))) (htk:PySem.W.takesIn K (.builtin "object.__class__")=some true)
  (hm:PySem.W.mroIn K C (.type "object")=some true):cy K H (.ref a) (.ref C)
theorem pJ {x:V}{u t:Value}(I:Inv X pins σ H s)(rx:RelV x u)(ty:cy X.K H x t)(e:PySem.W.kitOne X.K t c=some b)(h:∀tk,Q (.bool b) {s with toks:=tk}):
 wpAny (model X.prog X.w) A (call (.builtin "isinstance") [u,c]) Q E s:=by
 cases ty with
 | non=>cases (show u=Value.none from rx);exact PySem.W.kia_one PySem.W.kitx_none I.cz True.intro e (λz=>nomatch z) h
 | bl y=>cases (show u=Value.bool y from rx);exact PySem.W.kia_one PySem.W.kitx_bool I.cz True.intro e (λz=>nomatch z) h
 | int i=>obtain ⟨t,q⟩:=(show∃t,u=Value.int i t from rx);cases q;exact PySem.W.kia_one PySem.W.kitx_int I.cz True.intro e (λz=>nomatch z) h
 | str y=>obtain ⟨t,q⟩:=(show∃t,u=Value.str y t from rx);cases q;exact PySem.W.kia_one PySem.W.kitx_str I.cz True.intro e (λz=>nomatch z) h
 | flt y=>obtain ⟨t,q⟩:=(show∃t,u=Value.float y t from rx);cases q;exact PySem.W.kia_one PySem.W.kitx_float I.cz True.intro e (λz=>nomatch z) h
 | @lst a xs ea=>
   cases (show u=Value.ref a from rx)
   obtain ⟨_,_,n,_,h1⟩:=(show br X.prog X.w H s.heap a (.lst xs) from I.hok a _ ea)
   exact PySem.W.kia_one PySem.W.kitx_list I.cz ⟨_,h1,rfl⟩ e (λz=>nomatch z) h
 | @frz a ob xs ea=>
   cases (show u=Value.ref a from rx)
   obtain ⟨_,_,_,n,_,h1⟩:=(show br X.prog X.w H s.heap a (.frz ob (.lst xs)) from I.hok a _ ea)
   exact PySem.W.kia_one PySem.W.kitx_list I.cz ⟨_,h1,rfl⟩ e (λz=>nomatch z) h
 | @tup a xs ea=>
   cases (show u=Value.ref a from rx)
   obtain ⟨_,_,_,p⟩:=(show br X.prog X.w H s.heap a (.tup xs) from I.hok a _ ea)
   obtain ⟨o,h1,h2,_⟩:=p
   exact PySem.W.kia_one PySem.W.kitx_tuple I.cz ⟨o,h1,h2⟩ e (λz=>nomatch z) h
 | @dK a kvs ea=>
   cases (show u=Value.ref a from rx)
   obtain ⟨_,_,vs,_,p⟩:=(show br X.prog X.w H s.heap a (.dK kvs) from I.hok a _ ea)
   obtain ⟨o,es,ep,h1,h2,_⟩:=p
   exact PySem.W.kia_one PySem.W.kitx_dict I.cz ⟨o,h1,h2.1⟩ e (λz=>nomatch z) h
 | @dT a kvs ea=>
   cases (show u=Value.ref a from rx)
   obtain ⟨_,_,xs,_,o,es,ep,h1,h2,_⟩:=(show br X.prog X.w H s.heap a (.dT kvs) from I.hok a _ ea)
   exact PySem.W.kia_one PySem.W.kitx_dict I.cz ⟨o,h1,h2.1⟩ e (λz=>nomatch z) h
 | @ins a C dx fs ea cl ha hn htk hm=>
   cases (show u=Value.ref a from rx)
   obtain ⟨mA,O,_⟩:=j7 I.hok ea
   obtain ⟨od,J,_⟩:=O.look
   exact PySem.W.kia_one (PySem.W.kitx_own (cl.get _) cl.hd ha hn htk hm) I.cz J e (λz=>nomatch z) h
end
section
variable {A:Around}
structure bg (k:Nat) (A:Around):Prop where
 hd:A.handled=none
 dp:A.depth + 3 * k + 5 < recursionLimit
 un:A.units + 16 * k + 200 < cLine
theorem bg.mono {j k:Nat}(r:bg k A)(h:j<=k):bg j A:=⟨r.hd,by have:=r.dp;omega,by have:=r.un;omega⟩
theorem bg.deeper {k:Nat}(r:bg (k + 1) A)(env:Env):bg k (A.deeper env):=
 ⟨r.hd,by have:=r.dp;show A.depth + 1 + 3 * k + 5 < _;omega,by have:=r.un;show A.units + 3 + 16 * k + 200 < _;omega⟩
theorem oR {C:Addr}{us:List Value}{kw:List (Str×Value)}:(A.under (.builtin "type.__call__" ⟨.ref C::us,kw⟩)).depth=A.depth + 1:=by
 first | rfl | simp [Around.under,Code.weight,Code.isCreation,Code.isGuard,Code.isCaller,Code.frames,Code.isFrame,guardIds]
theorem oE {C:Addr}{us:List Value}{kw:List (Str×Value)}:(A.under (.builtin "type.__call__" ⟨.ref C::us,kw⟩)).units=A.units + 1:=by
 first | rfl | simp [Around.under,Code.cUnits,Code.frames,Code.isFrame]
theorem bg.make {k:Nat}(r:bg (k + 1) A)(C:Addr)(us:List Value)(kw:List (Str×Value)):bg k (A.under (.builtin "type.__call__" ⟨.ref C::us,kw⟩)):=
 ⟨r.hd,by have:=r.dp;rw [oR];omega,by have:=r.un;rw [oE];omega⟩
theorem bg.depth {k:Nat}(r:bg k A):A.depth < recursionLimit:=by have:=r.dp;omega
theorem bg.units {k:Nat}(r:bg k A):A.units + 64 < cLine:=by have:=r.un;omega
def xu:TA:=λ_ H Q=>Q [] H
def zy (ta:TE)(tr:TA):TA:=λσ H Q=>ta σ H λx H1=>tr σ H1 λxs H2=>Q (x::xs) H2
end
section
variable {X:Cx}{e:Expr}{es:List Expr}{te:TE}{t:TA}{pos:Pos}
theorem bt:PA X [] xu:=λ_ _ _ _ H Q I h=>Calls.spliced_nil ⟨[],H,I,.nil,h⟩
theorem aE (ha:PE X e te)(hr:PA X es t)(hs:starEach (e::es) X.env=(false,eval e X.env)::starEach es X.env:=by rfl):PA X (e::es) (zy te t):=by
 intro pos pins s σ H Q I h
 rw [hs]
 show wpAny _ _ (spliced ((false,eval e X.env)::backTo pos (starEach es X.env))) _ _ s
 refine Calls.spliced_cons (aI (ha pins s σ H _ I h) λu s1 ⟨x,H1,I1,r1,q1⟩=>?_)
 exact aI (hr pos pins s1 σ H1 _ I1 q1) λus s2 ⟨xs,H2,I2,r2,q2⟩=>⟨x::xs,H2,I2,.cons r1 r2,q2⟩
def Be (t:TA):TE:=λσ H Q=>t σ H λxs H1=>xs.length<=sizeLine/\∀p,H1 p=none->Q (.ref p) (upd H1 p (.tup xs))
def A4 (t:TA):TE:=λσ H Q=>t σ H λxs H1=>xs.length<=sizeLine/\∀p,H1 p=none->Q (.ref p) (upd H1 p (.lst xs))
theorem gu {x1}(h:PA X es t):PE X (.Tuple es x1 pos) (Be t):=by
 intro pins s σ H Q I hq
 refine wpAny_Tuple_spliced (aI (h pos pins s σ H _ I hq) λus s1 ⟨xs,H1,I1,r,z,q⟩=>⟨by rw [← r.length];exact z,?_⟩)
 have hf:H1 s1.heap.objs.size=none:=I1.hok.fresh (Nat.le_refl _)
 refine ⟨.ref s1.heap.objs.size,upd H1 s1.heap.objs.size (.tup xs),I1.laid (t':=s1.toks) (λb u e=>Heap.get?_push_of_some _ e) (Nat.le_refl _) ?_,rfl,q _ hf⟩
 exact ⟨z,us,r,⟨_,Heap.get?_push_size _ rfl,rfl,_,rfl⟩⟩
theorem lQ (h:PA X es t):PE X (.List es pos) (A4 t):=by
 intro pins s σ H Q I hq
 refine wpAny_List_spliced (aI (h pos pins s σ H _ I hq) λus s1 ⟨xs,H1,I1,r,z,q⟩=>⟨by rw [← r.length];exact z,?_⟩)
 have hf:H1 s1.heap.objs.size=none:=I1.hok.fresh (Nat.le_refl _)
 refine ⟨.ref s1.heap.objs.size,upd H1 s1.heap.objs.size (.lst xs),I1.laid (t':=s1.toks) (λb u e=>Heap.get?_push_of_some _ e) (Nat.le_refl _) ?_,rfl,q _ hf⟩
 exact ⟨z,us,0,r,Heap.get?_push_size _ rfl⟩
end
abbrev Sp:=List V->Hp->VK->XK->Prop
abbrev gI:=List Env->Hp->Shared->XK->Value->Shared->Prop
structure jo (P:Program) (w:World) (K:PySem.W.Frag) (mg:Str->Option Value) (base:Heap) (A:Around) (outer:List Env) (s:Shared) (H:Hp):Prop where
 frames:A.frames=some outer
 mod:Mod K mg base
 bs:∀b o,base.get? b=some o->s.heap.get? b=some o/\H b=none
 bsz:base.objs.size<=s.heap.objs.size
 funs:s.heap.FunFrames base outer
 frf:∀b∈bo outer,H b=none
 hok:bO P w H s.heap
 bare:AllBare s.gens
def CE (outer:List Env)(P:Program)(w:World)(H:Hp)(s:Shared)(Q:VK)(u:Value)(s':Shared):Prop:=
 ∃v H',s'.os=s.os/\AllBare s'.gens/\Un (bo outer) [] H H' s.heap s'.heap/\bO P w H' s'.heap/\RelV v u/\Q v H'
def CR (CX:gI)(outer:List Env)(P:Program)(w:World)(H:Hp)(s:Shared)(Q:VK)(E:XK)(r:Result)(s':Shared):Prop:=
 match r with
 | .ok (.ret u)=>CE outer P w H s Q u s'
 | .ok _=>False
 | .error e=>CX outer H s E e s'
structure cq (P:Program) (w:World) (K:PySem.W.Frag) (mg:Str->Option Value) (base:Heap) (CX:gI) (k:Nat) (f:Addr) (fd:FuncData) (ps:List Str) (sp:Sp):Prop where
 len:∀vs H Q E,sp vs H Q E->vs.length=ps.length
 run:∀(A:Around) (outer:List Env) (s:Shared) (H:Hp) (args:Args) (us:List Value) (vs:List V) (Q:VK) (E:XK),bg k A->jo P w K mg base A outer s H->BindsTo s fd args (ps.zip us)->Vals vs us->sp vs H Q E->
  codeAny (model P w) A (.call (.ref f) args) (CR CX outer P w H s Q E) s
theorem cq.mono {P:Program}{w:World}{K:PySem.W.Frag}{mg:Str->Option Value}{base:Heap}{CX:gI}{j k:Nat}{f:Addr}{fd:FuncData}{ps:List Str}{sp:Sp}(F:cq P w K mg base CX j f fd ps sp)(h:j<=k):
 cq P w K mg base CX k f fd ps sp:=⟨F.len,λA outer s H args us vs Q E hr=>F.run A outer s H args us vs Q E (hr.mono h)⟩
theorem jo.make {P:Program}{w:World}{K:PySem.W.Frag}{mg:Str->Option Value}{base:Heap}{A:Around}{outer:List Env}{s:Shared}{H:Hp}(e:jo P w K mg base A outer s H)(C:Addr)(us:List Value)(kw:List (Str×Value)):
 jo P w K mg base (A.under (.builtin "type.__call__" ⟨.ref C::us,kw⟩)) outer s H:=⟨by first | exact e.frames | (simpa [Around.under,Code.envs,Code.isFrame,pushEnvs] using e.frames),e.mod,e.bs,e.bsz,e.funs,e.frf,e.hok,e.bare⟩
section
variable {X:Cx}{pins:List (Addr×Obj)}{σ:St}{H:Hp}{s s':Shared}
theorem Inv.oW (I:Inv X pins σ H s):jo X.prog X.w X.K X.mg X.base X.A X.stack s H:=
 ⟨I.ok.frames,I.ok.mod,I.bs,Nat.le_trans I.ok.bsz I.sz,I.stack,I.fM,I.hok,I.bare⟩
theorem Inv.after {Q:VK}{u:Value}(I:Inv X pins σ H s)(h:CE X.stack X.prog X.w H s Q u s'):EP X pins σ Q u s':=by
 obtain ⟨v,H',os,bare,un,hok,r,q⟩:=h
 obtain ⟨hh,g,d,t,os'⟩:=s'
 obtain rfl:os'=s.os:=os
 exact ⟨v,H',I.call (h':=hh) (g':=g) (d':=d) (t':=t) (ch:=[]) un hok bare (λb z=>absurd z (by simp)),r,q⟩
end
def tH (sp:Sp)(dvs:List V)(E:XK)(t:TA):TE:=λσ H Q=>t σ H λvs H1=>sp (vs++dvs) H1 Q E
def zI (C:Addr)(sp:Sp)(dvs:List V)(E:XK)(t:TA):TE:=λσ H Q=>t σ H λvs H1=>∀x dx,H1 x=none->H1 dx=none->dx≠x->
 sp (.ref x::(vs++dvs)) (upd (upd H1 dx (.own x)) x (.ins C dx [])) (λv H2=>v= .non/\Q (.ref x) H2) E
def Binds (K:PySem.W.Frag)(fd:FuncData)(ps:List Str)(ds:List Value):Prop:=
 ∀(s:Shared) (us:List Value),K.In s.heap->(us++ds).length=ps.length->BindsTo s fd ⟨us,[]⟩ (ps.zip (us++ds))
theorem Binds.all {K:PySem.W.Frag}{fd:FuncData}{ps:List Str}(h:∀us:List Value,us.length=ps.length->bindArgs fd ⟨us,[]⟩=pure (ps.zip us)):Binds K fd ps []:=λs us _ hl=>by
 rw [List.append_nil] at hl ⊢
 exact .of_eq (h us hl)
def Passes (CX:gI)(X:Cx)(E:XK):Prop:=∀(pins:List (Addr×Obj)) (σ:St) (H:Hp) (s:Shared) (e:Value) (s':Shared),Inv X pins σ H s->CX X.stack H s E e s'->X.xe e s'
section
variable {X:Cx}{CX:gI}{k:Nat}{f C:Addr}{fd:FuncData}{ps:List Str}{sp:Sp}{dvs:List V}{ds:List Value}{E:XK}{x m:Str}{p pos apos:Pos}{e o:Expr}{es:List Expr}{ta:TE}{t:TA}
theorem pY {pins:List (Addr×Obj)}{σ:St}{H:Hp}{s:Shared}{Q:VK}{us:List Value}{vs:List V}(F:cq X.prog X.w X.K X.mg X.base CX k f fd ps sp)(hr:bg k X.A)(hb:Binds X.K fd ps ds)(hd:Vals dvs ds)(hx:Passes CX X E)
 (I:Inv X pins σ H s) (r:Vals vs us) (h:sp (vs++dvs) H Q E):wpAny (model X.prog X.w) X.A (call (.ref f) us) (EP X pins σ Q) X.xe s:=by
 have r2:Vals (vs++dvs) (us++ds):=r.append hd
 have hl:(us++ds).length=ps.length:=by rw [← r2.length];exact F.len _ _ _ _ h
 refine wpAny_call (codeAny_mono (F.run X.A X.stack s H ⟨us,[]⟩ (us++ds) (vs++dvs) Q E hr I.oW (hb s us I.cz hl) r2 h) λr s' hq=>?_)
 cases r with
 | error e=>exact hx pins σ H s e s' I hq
 | ok fl=>
   cases fl with
   | ret u=>exact I.after hq
   | next=>exact False.elim hq
   | brk=>exact False.elim hq
   | cont=>exact False.elim hq
theorem ki (F:cq X.prog X.w X.K X.mg X.base CX k f fd ps sp)(hr:bg k X.A)(hg:Gl X x)(hm:X.mg x=some (.ref f))(hk:PySem.W.keepIn X.K (.ref f)=true)(hb:Binds X.K fd ps ds)(hd:Vals dvs ds)(hx:Passes CX X E)
 (ha:PA X (e::es) t) (hdb:(x==("__debug__":Str))=false:=by decide) (he:starEach (e::es) X.env=(false,eval e X.env)::starEach es X.env:=by rfl) (hpl:(backTo pos (starEach es X.env)).any (·.1)=false:=by rfl):
 PE X (.Call (.Name x p) (e::es) [] pos) (tH sp dvs E t):=by
 intro pins s σ H Q I h
 refine wpAny_Call_Name_kw (eR I hg hm ?_ hdb)
 refine PySem.W.callWith_K (h₀:=X.base) I.ok.mod.kin hk (aI (ha pos pins s σ H _ I h) λus s1 ⟨vs,H1,I1,r,q⟩=>⟨I1.cz,?_⟩) he hpl
 exact pY F hr hb hd hx I1 r q
theorem sW (F:cq X.prog X.w X.K X.mg X.base CX k f fd ps sp)(hr:bg k X.A)(hg:Gl X x)(hm:X.mg x=some (.ref f))(hk:PySem.W.keepIn X.K (.ref f)=true)(hb:Binds X.K fd ps ds)(hd:Vals dvs ds)(hx:Passes CX X E)
 (hdb:(x==("__debug__":Str))=false:=by decide):PE X (.Call (.Name x p) [] [] pos) (tH sp dvs E xu):=by
 intro pins s σ H Q I h
 refine wpAny_Call_Name_kw (eR I hg hm ?_ hdb)
 exact PySem.W.callWith_K0 I.cz hk (pY (us:=[]) F hr hb hd hx I .nil h)
structure Mk (K:PySem.W.Frag) (C f:Addr):Prop where
 makes:PySem.W.makesIn K C=true
 init:PySem.W.findIn K (.ref C) "__init__"=some (some (.ref f))
 fn:PySem.W.isFn K (.ref f)=true
 kp:PySem.W.keepIn K (.ref C)=true
theorem sC {pins:List (Addr×Obj)}{σ:St}{H:Hp}{s:Shared}{Q:VK}{us:List Value}{vs:List V}(M:Mk X.K C f)(F:cq X.prog X.w X.K X.mg X.base CX k f fd ps sp)(hr:bg (k + 1) X.A)(hb:Binds X.K fd ps ds)(hd:Vals dvs ds)
 (hx:Passes CX X E) (I:Inv X pins σ H s) (r:Vals vs us)
 (h:∀x dx,H x=none->H dx=none->dx≠x->sp (.ref x::(vs++dvs)) (upd (upd H dx (.own x)) x (.ins C dx [])) (λv H2=>v= .non/\Q (.ref x) H2) E):
 wpAny (model X.prog X.w) X.A (call (.ref C) us) (EP X pins σ Q) X.xe s:=by
 have hq:=h (s.heap.objs.size + 1) s.heap.objs.size (I.hok.fresh (Nat.le_succ _)) (I.hok.fresh (Nat.le_refl _)) (Nat.ne_of_lt (Nat.lt_succ_self _))
 have I2:=Inv.made (C:=C) I
 have r2:Vals (V.ref (s.heap.objs.size + 1)::(vs++dvs)) (Value.ref (s.heap.objs.size + 1)::(us++ds)):=.cons rfl (r.append hd)
 have hl:(Value.ref (s.heap.objs.size + 1)::us++ds).length=ps.length:=by
  have e:=r2.length
  rw [F.len _ _ _ _ hq] at e
  exact e.symm
 refine wpAny_call (sE (f:=f) I.cz M.makes M.init (beq_iff_eq.mp M.fn) (codeAny_mono (F.run _ X.stack _ _ ⟨Value.ref (s.heap.objs.size + 1)::us,[]⟩ (Value.ref (s.heap.objs.size + 1)::(us++ds)) _ _ E (hr.make C us [])
  (I2.oW.make C us []) (hb _ (Value.ref (s.heap.objs.size + 1)::us) I2.cz hl) r2 hq) λr s' hq'=>?_))
 cases r with
 | error e=>exact hx pins σ _ _ e s' I2 hq'
 | ok fl=>
   cases fl with
   | ret u=>
     obtain ⟨v,H',I3,rv,ev,q3⟩:=I2.after hq'
     subst ev
     exact ⟨rv,⟨V.ref (s.heap.objs.size + 1),H',I3,rfl,q3⟩⟩
   | next=>exact False.elim hq'
   | brk=>exact False.elim hq'
   | cont=>exact False.elim hq'
theorem vC (M:Mk X.K C f)(F:cq X.prog X.w X.K X.mg X.base CX k f fd ps sp)(hr:bg (k + 1) X.A)(hg:Gl X x)(hm:X.mg x=some (.ref C))(hb:Binds X.K fd ps ds)(hd:Vals dvs ds)(hx:Passes CX X E)
 (ha:PA X (e::es) t) (hdb:(x==("__debug__":Str))=false:=by decide) (he:starEach (e::es) X.env=(false,eval e X.env)::starEach es X.env:=by rfl) (hpl:(backTo pos (starEach es X.env)).any (·.1)=false:=by rfl):
 PE X (.Call (.Name x p) (e::es) [] pos) (zI C sp dvs E t):=by
 intro pins s σ H Q I h
 refine wpAny_Call_Name_kw (eR I hg hm ?_ hdb)
 refine PySem.W.callWith_K (h₀:=X.base) I.ok.mod.kin M.kp (aI (ha pos pins s σ H _ I h) λus s1 ⟨vs,H1,I1,r,q⟩=>⟨I1.cz,?_⟩) he hpl
 exact sC M F hr hb hd hx I1 r q
end
section
variable {X:Cx}{CX:gI}{k:Nat}{f C:Addr}{fd:FuncData}{ps ks:List Str}{sp:Sp}{E:XK}{x m:Str}{p pos apos kpos:Pos}{e o:Expr}{es:List Expr}{kws:List Keyword}{te ta:TE}{t tk:TA}{nm:Option Str}
variable {g:List Value->List Value->List Value}{gV:List V->List V->List V}
end
structure aR (N P:List Str) (sc:Scope):Prop where
 kind:sc.kind= .function
 co:sc.isCoroutine=false
 gen:sc.isGenerator=false
 nd:N.Nodup
 pre:N.take P.length=P
 par:∀x∈P,sc.names.lookup x=some .local∨sc.names.lookup x=some .cell
 nofree:∀y∈sc.names,y.2≠ .free
theorem kH {kindOf:Str->Option NameKind}{x:Str}:∀{binds:List (Str×Value)} {m:Str->Option Value},(∀v,(x,v)∉binds)->bindL kindOf binds m x=m x
 | [],_,_=>rfl
 | (n,v)::r,m,h=>by
   unfold bindL
   rw [kH λw hw=>h w (List.mem_cons_of_mem _ hw)]
   split
   ·have:x≠n:=by rintro rfl;exact h v List.mem_cons_self
    simp [this]
   ·rfl
theorem kW {kindOf:Str->Option NameKind}{x:Str}:∀{binds:List (Str×Value)} {m:Str->Option Value},(∀v,(x,v)∉binds)->bindC kindOf binds m x=m x
 | [],_,_=>rfl
 | (n,v)::r,m,h=>by
   unfold bindC
   rw [kW λw hw=>h w (List.mem_cons_of_mem _ hw)]
   split
   ·rfl
   ·have:x≠n:=by rintro rfl;exact h v List.mem_cons_self
    simp [this]
theorem kM {kindOf:Str->Option NameKind}{x:Str}{v:Value}:∀{P:List Str} {vs:List Value} {i:Nat} {m:Str->Option Value},P.Nodup->P[i]?=some x->vs[i]?=some v->kindOf x=some .local->
 bindL kindOf (P.zip vs) m x=some v
 | [],_,_,_,_,h,_,_=>by simp at h
 | _::_,[],_,_,_,_,h,_=>by simp at h
 | p::P,w::vs,0,m,nd,h1,h2,hk=>by
   simp at h1 h2;subst h1;subst h2
   show bindL kindOf ((p,w)::P.zip vs) m p=_
   unfold bindL
   rw [kH λv hv=>(List.nodup_cons.mp nd).1 (List.of_mem_zip hv).1,if_pos hk]
   simp
 | p::P,w::vs,i + 1,m,nd,h1,h2,hk=>by
   show bindL kindOf ((p,w)::P.zip vs) m x=_
   unfold bindL
   exact kM (i:=i) (List.nodup_cons.mp nd).2 (by simpa using h1) (by simpa using h2) hk
theorem k9 {kindOf:Str->Option NameKind}{x:Str}{v:Value}:∀{P:List Str} {vs:List Value} {i:Nat} {m:Str->Option Value},P.Nodup->P[i]?=some x->vs[i]?=some v->kindOf x≠some .local->
 bindC kindOf (P.zip vs) m x=some v
 | [],_,_,_,_,h,_,_=>by simp at h
 | _::_,[],_,_,_,_,h,_=>by simp at h
 | p::P,w::vs,0,m,nd,h1,h2,hk=>by
   simp at h1 h2;subst h1;subst h2
   show bindC kindOf ((p,w)::P.zip vs) m p=_
   unfold bindC
   rw [kW λv hv=>(List.nodup_cons.mp nd).1 (List.of_mem_zip hv).1,if_neg hk]
   simp
 | p::P,w::vs,i + 1,m,nd,h1,h2,hk=>by
   show bindC kindOf ((p,w)::P.zip vs) m x=_
   unfold bindC
   exact k9 (i:=i) (List.nodup_cons.mp nd).2 (by simpa using h1) (by simpa using h2) hk
def start (N:List Str)(vs:List V):St:=vs.map some++List.replicate (N.length - vs.length) none
def bA (CX:gI)(P:Program)(w:World)(K:PySem.W.Frag)(mg:Str->Option Value)(base:Heap)(N:List Str)(qual:Str)(scope:Scope)(f:Addr)(cd:Value)(A:Around)(outer:List Env)(s:Shared)(H:Hp)(E:XK):Cx where
 prog:=P
 w:=w
 K:=K
 mg:=mg
 base:=base
 A:=A.deeper (envOfC qual scope s.heap.objs.size f cd)
 N:=N
 s₀:=s
 H₀:=H
 env:=envOfC qual scope s.heap.objs.size f cd
 outer:=outer
 stack:=envOfC qual scope s.heap.objs.size f cd::outer
 ex:=[]
 calm:=true
 fn:=λ_=>true
 pn:=[]
 xe:=λe s'=>wpAny (model P w) (A.deeper (envOfC qual scope s.heap.objs.size f cd)) (leaving (envOfC qual scope s.heap.objs.size f cd) e) (λ_ s''=>CX outer H s E e s'') (λe' s''=>CX outer H s E e' s'') s'
theorem cW {sc:Scope}{n:Nat}{x:Str}(h:sc.names.lookup x=some .cell):∃c,(cellsFrom n sc.names []).lookup x=some c:=by
 have q:=PySem.W.cellsFrom_some sc.names n [] (.inl h)
 exact Option.isSome_iff_exists.mp q
theorem qp {CX:gI}{P:Program}{w:World}{K:PySem.W.Frag}{mg:Str->Option Value}{base:Heap}{N ps:List Str}{qual:Str}{scope:Scope}{f:Addr}{cd:Value}{A:Around}{outer:List Env}{s s1:Shared}{H:Hp}{E:XK}{us:List Value}{vs:List V}
 (S:aR N ps scope) (hd:A.handled=none) (e0:jo P w K mg base A outer s H) (hl:vs.length=ps.length) (r:Vals vs us)
 (x:InCallC s s.heap.objs.size (bindL (envOfC qual scope s.heap.objs.size f cd).kindOf (ps.zip us) λ_=>none) (cellsFrom (s.heap.objs.size + 1) scope.names []) (bindC (envOfC qual scope s.heap.objs.size f cd).kindOf (ps.zip us) λ_=>none) s1):
 Inv (bA CX P w K mg base N qual scope f cd A outer s H E) [] (start N vs) H s1:=by
 have hpl:ps.length<=N.length:=by have:=congrArg List.length S.pre;rw [List.length_take] at this;omega
 obtain ⟨h1,tk,rfl,hk⟩:=x.done
 have noA:∀b:Addr,b∉(bA CX P w K mg base N qual scope f cd A outer s H E).ex:=λb z=>absurd (show b∈([]:List Addr) from z) (by simp)
 refine ⟨⟨e0.mod,S.kind,rfl,rfl,Nat.le_refl _,λy z c h1 h2=>?_,λy hy=>?_,λy c _ h=>?_,λ_=>hd,Around.frames_deeper e0.frames,.inr ⟨rfl,rfl⟩,λb z=>absurd z (noA b),e0.bs,e0.bsz,λb _ _=>noA b,λb z=>absurd z (noA b),e0.funs,e0.frf⟩,
  rfl,e0.bare,Un.kept hk,⟨_,x.toInCall.ns,λi y v h1 h2 h3=>?_⟩,λy c h=>⟨_,x.cell y c h⟩,e0.hok.fresh (Nat.le_refl _),λy c h=>?_,λp hp=>absurd (show p∈([]:List (Addr×Obj)) from hp) (by simp),e0.hok.kept hk,?_⟩
 ·exact name_of_addr x.apart (PySem.mem_of_lookup h1) (PySem.mem_of_lookup h2)
 ·have hy:scope.names.lookup y=some .cell∨scope.names.lookup y=some .free:=hy
  rcases hy with hy | hy
  ·exact cW hy
  ·exact absurd rfl (S.nofree _ (PySem.mem_of_lookup hy))
 ·exact Nat.le_of_lt (x.above y c (PySem.mem_of_lookup h))
 ·have hi:i < vs.length:=by
   unfold start at h2
   by_cases hi:i < vs.length
   ·exact hi
   ·rw [List.getElem?_append_right (by simpa using hi)] at h2
    rw [List.getElem?_replicate] at h2
    split at h2<;>cases h2
  have ha:vs[i]?=some v:=by
   unfold start at h2
   rw [List.getElem?_append_left (by simpa using hi),List.getElem?_map] at h2
   cases e:vs[i]? with
   | none=>rw [e] at h2;cases h2
   | some a=>rw [e] at h2;cases h2;rfl
  obtain ⟨u,hu,rv⟩:=r.get ha
  have hp:ps[i]?=some y:=by
   rw [← S.pre,List.getElem?_take_of_lt (by omega)];exact h1
  have ndP:ps.Nodup:=by rw [← S.pre];exact S.nd.sublist (List.take_sublist _ _)
  refine ⟨u,rv,?_⟩
  rcases S.par y (List.mem_of_getElem? hp) with k | k
  ·exact .inl ⟨k,kM ndP hp hu k⟩
  ·obtain ⟨c,e⟩:=cW (n:=s.heap.objs.size + 1) k
   refine .inr ⟨.inl k,c,e,?_⟩
   have q:=x.cell y c e
   rw [k9 ndP hp hu (by show scope.names.lookup y≠_;rw [k];decide)] at q
   exact q
 ·exact e0.hok.fresh (Nat.le_of_lt (x.above y c (PySem.mem_of_lookup h)))
 ·unfold start
  show _=N.length
  rw [List.length_append,List.length_map,List.length_replicate]
  omega
theorem oY {CX:gI}{P:Program}{w:World}{K:PySem.W.Frag}{mg:Str->Option Value}{base:Heap}{k:Nat}{f:Addr}{name qual:Str}{params:Arguments}{body:List Stmt}{scope:Scope}{dV kV doc pm cdv ct oc:Value}{an od:Option Addr}
 {osl:Array (Option Value)} {N ps:List Str} {sp:Sp} (lk:K.lookup f=some ⟨oc,od,.func (PySem.W.fnOf name qual params body scope dV kV doc pm an cdv ct),osl⟩) (hcd:PySem.W.codeIn K cdv qual=true) (S:aR N ps scope)
 (len:∀vs H Q E,sp vs H Q E->vs.length=ps.length)
 (hbody:∀(A:Around) (outer:List Env) (s:Shared) (H:Hp) (vs:List V) (Q:VK) (E:XK),bg k (A.deeper (envOfC qual scope s.heap.objs.size f cdv))->sp vs H Q E->
  ∃t,f7 (bA CX P w K mg base N qual scope f cdv A outer s H E) body t/\t {nx:=λ_ H'=>Q .non H',rt:=Q} (start N vs) H):
 cq P w K mg base CX (k + 1) f (PySem.W.fnOf name qual params body scope dV kV doc pm an cdv ct) ps sp:=by
 refine ⟨len,λA outer s H args us vs Q E hr e0 hb r hsp=>?_⟩
 have hl:=len _ _ _ _ hsp
 have KX:K.In s.heap:=e0.mod.kin.keeps λb o e=>(e0.bs b o e).1
 have lim:s.heap.NoLimit:=e0.mod.nolimit.keeps λb o e=>(e0.bs b o e).1
 have hkind:∀y∈ps.zip us,scope.names.lookup y.1=some .local∨(scope.names.lookup y.1=some .cell/\((cellsFrom (s.heap.objs.size + 1) scope.names []).lookup y.1).isSome=true):=λ⟨n,v⟩ hy=>by
  rcases S.par n (List.of_mem_zip hy).1 with q | q
  ·exact .inl q
  ·exact .inr ⟨q,PySem.W.cellsFrom_some _ _ _ (.inl q)⟩
 refine codeAny_call_function hr.depth (KX _ _ lk) rfl S.co S.gen rfl (PySem.W.codeRec_of KX hcd) (hb _ _ _ _ ?_)
 refine wpAny_newFunctionEnv_cells S.kind hkind λenv he s1 x=>?_
 subst he
 refine ⟨lim.keeps x.toInCall.keep,codeAny_func ?_⟩
 obtain ⟨t,ht,hq⟩:=hbody A outer s H vs Q E (hr.deeper _) hsp
 have I:Inv (bA CX P w K mg base N qual scope f cdv A outer s H E) [] (start N vs) H s1:=qp S hr.hd e0 hl r x
 refine wpAny_mono (ht [] s1 (start N vs) H _ I hq) (λfl s' hs=>?_) λe s' hs=>hs
 have fin:∀{σ':St} {H':Hp} {v:V} {u:Value},Inv (bA CX P w K mg base N qual scope f cdv A outer s H E) [] σ' H' s'->RelV v u->Q v H'->CE outer P w H s Q u s':=
  λ{σ' H' v u} J rv q=>⟨v,H',J.os,J.bare,J.base,J.hok,rv,q⟩
 cases fl with
 | ret u=>
   obtain ⟨v,σ',H',J,rv,q⟩:=hs
   exact fin J rv q
 | next=>
   obtain ⟨σ',H',J,q⟩:=hs
   exact fin (v:=V.non) (u:=Value.none) J rfl q
 | brk=>
   obtain ⟨_,_,_,q⟩:=hs
   exact False.elim q
 | cont=>
   obtain ⟨_,_,_,q⟩:=hs
   exact False.elim q
section
variable {X:Cx}{x:Str}{p pos:Pos}{e:Expr}{es:List Expr}{t:TA}{id T:String}{r:List V->Hp->VK->Prop}
def Ar (r:List V->Hp->VK->Prop)(t:TA):TE:=λσ H Q=>t σ H λvs H1=>r vs H1 Q
theorem cj (hc:dz X (.builtin id) r)(hg:Gl X x)(hm:X.mg x=none)(hv:bootBuiltins x=some (.builtin id))(ha:PA X (e::es) t)(hn:x≠"__name__":=by decide)(hdb:(x==("__debug__":Str))=false:=by decide)
 (he:starEach (e::es) X.env=(false,eval e X.env)::starEach es X.env:=by rfl) (hpl:(backTo pos (starEach es X.env)).any (·.1)=false:=by rfl):PE X (.Call (.Name x p) (e::es) [] pos) (Ar r t):=by
 intro pins s σ H Q I h
 refine wpAny_Call_Name_kw (gr I hg hm hv ?_ hn hdb)
 exact PyProof.Rows.callWith_builtin1 (aI (ha pos pins s σ H _ I h) λus s1 ⟨vs,H1,I1,r1,q1⟩=>hc pins s1 σ H1 vs us Q I1 r1 q1) he hpl
theorem gz (hc:dz X (.type T) r)(hg:Gl X x)(hm:X.mg x=none)(hv:bootBuiltins x=some (.type T))(ha:PA X (e::es) t)(hn:x≠"__name__":=by decide)(hdb:(x==("__debug__":Str))=false:=by decide)
 (he:starEach (e::es) X.env=(false,eval e X.env)::starEach es X.env:=by rfl) (hpl:(backTo pos (starEach es X.env)).any (·.1)=false:=by rfl):PE X (.Call (.Name x p) (e::es) [] pos) (Ar r t):=by
 intro pins s σ H Q I h
 refine wpAny_Call_Name_kw (gr I hg hm hv ?_ hn hdb)
 exact PyProof.Rows.callWith_type1 (aI (ha pos pins s σ H _ I h) λus s1 ⟨vs,H1,I1,r1,q1⟩=>hc pins s1 σ H1 vs us Q I1 r1 q1) he hpl
end
end L2
namespace HT
open PySem PyProof.Rows
section
open PySem.SeqAt
open PySem.AutoSeq1 (wpAny_loadPart')
open PySem.MeetsSeq PySem.MeetsSeq2 PySem.MeetsSeq3
end
section
variable {prog:Program}{w:World}{A:Around}{E:Value->Shared->Prop}{s:Shared}
theorem vV {t b:Addr}{vs ws:List Value}{Q:Value->Shared->Prop}(ht:IsTup s.heap t vs.toArray)(hb:IsTup s.heap b ws.toArray)(hv:vs≠[])
 (h1:ws=[]->Q (.ref t) s) (h2:ws≠[]->Q (.ref s.heap.objs.size) {s with heap:=s.heap.push {cls:=.type "tuple",data:=.seq (vs++ws).toArray}})
 (hsz:vs.length + ws.length<=sizeLine):wpAny (model prog w) A (binaryOp .Add (.ref t) (.ref b)) Q E s:=by
 obtain ⟨⟨cls,dd,data,sl⟩,ho,hc,n,hd⟩:=id ht
 obtain ⟨⟨cls2,dd2,data2,sl2⟩,ho2,hc2,n2,hd2⟩:=id hb
 simp only at hc hd hc2 hd2
 subst hc hd hc2 hd2
 have e:vs.toArray++ws.toArray=(vs++ws).toArray:=by simp
 by_cases hw:ws=[]
 ·exact concat_meets ⟨_,ho,rfl⟩ ⟨_,ho2,rfl⟩ noFill_tuple_add seq_tuple_add PySem.F.slot_tuple_add PySem.F.entry_tuple_add (PySem.F.args_tuple_add_2 _ _)
   (tuple_addW1 t b vs.toArray ws.toArray n n2 dd dd2 sl sl2 (by simpa using hv) (by simp [hw])) ⟨ho,ho2,h1 hw⟩
 ·refine concat_meets ⟨_,ho,rfl⟩ ⟨_,ho2,rfl⟩ noFill_tuple_add seq_tuple_add PySem.F.slot_tuple_add PySem.F.entry_tuple_add (PySem.F.args_tuple_add_2 _ _)
   (tuple_addW2 t b vs.toArray ws.toArray n n2 dd dd2 sl sl2 (by simpa using hv) (by simpa using hw) (by rw [List.size_toArray,List.size_toArray];exact hsz)) ⟨ho,ho2,?_⟩
  rw [e]
  exact h2 hw
def sIx (n d:Nat):Option Int->Nat
 | none=>d
 | some v=>if v < 0 then (v + (n:Int)).toNat else min v.toNat n
theorem rT (n d:Nat):sIx n d none=d:=rfl
theorem uJ (n d k:Nat):sIx n d (some (k:Int))=min k n:=by
 show (if (k:Int) < 0 then ((k:Int) + (n:Int)).toNat else min (k:Int).toNat n)=min k n
 rw [if_neg (by omega),Int.toNat_natCast]
theorem wa (n d:Nat)(hd:d<=n)(o:Option Int):sIx n d o<=n:=by
 cases o with
 | none=>exact hd
 | some v=>
   show (if v < 0 then (v + (n:Int)).toNat else min v.toNat n)<=n
   by_cases hv:v < 0
   ·rw [if_pos hv];omega
   ·rw [if_neg hv];exact Nat.min_le_right _ _
theorem nM (v:Int)(n d:Nat):(if v < 0 then max (v + (n:Int)) 0 else min v (n:Int))=((sIx n d (some v):Nat):Int):=by
 show (if v < 0 then max (v + (n:Int)) 0 else min v (n:Int))=(((if v < 0 then (v + (n:Int)).toNat else min v.toNat n):Nat):Int)
 by_cases hv:v < 0
 ·simp only [if_pos hv];omega
 ·simp only [if_neg hv];omega
theorem oU (lo hi:Option Int)(n:Nat):Builtin.Slice.sliceAdjust lo hi 1 (n:Int)=(((sIx n 0 lo:Nat):Int),((sIx n n hi:Nat):Int)):=by
 have h1:¬((1:Int) < 0):=by omega
 unfold Builtin.Slice.sliceAdjust
 simp only [h1,if_false]
 refine Prod.ext ?_ ?_
 ·cases lo with
  | none=>rfl
  | some v=>exact nM v n 0
 ·cases hi with
  | none=>rfl
  | some v=>exact nM v n n
theorem pj (i j:Nat):Builtin.Slice.slicePlaces (i:Int) (j:Int) 1=j - i:=by
 unfold Builtin.Slice.slicePlaces
 have h1:(1:Int) > 0:=by omega
 simp only [h1,if_true,Int.ediv_one]
 split<;>omega
theorem jI {v:Value}{o:Option Int}{Q:Option Int->Shared->Prop}(p:IsPart v o)(h:Q o s):wpAny (model prog w) A (Builtin.Slice.slicePartIndex v) Q E s:=by
 cases p with
 | none=>exact slicePart_none h
 | int i t=>exact slicePart_int h
theorem f6 {sl:Addr}{vl vu:Value}{lo hi:Option Int}{n:Nat}{Q:Int×Int×Nat->Shared->Prop}(hs:s.heap.IsSliceOf sl vl vu .none)(pl:IsPart vl lo)(pu:IsPart vu hi)
 (h:Q (((sIx n 0 lo:Nat):Int),1,sIx n n hi - sIx n 0 lo) s):wpAny (model prog w) A (Builtin.Slice.sliceApplied (.ref sl) (pure (n:Int))) Q E s:=by
 obtain ⟨os,hos,hcs,hds⟩:=id hs
 unfold Builtin.Slice.sliceApplied Builtin.Slice.sliceFields
 refine wpAny_bind (wpAny_bind (wpAny_field hos hds (x:=vl) rfl (wpAny_bind (wpAny_field hos hds (x:=vu) rfl (wpAny_bind (wpAny_field hos hds (x:=.none) rfl (wpAny_pure ?_)))))))
 refine wpAny_bind (slicePart_none ?_)
 show wpAny _ _ (if ((1:Int)==0)=true then _ else _) _ _ s
 rw [if_neg (by decide)]
 refine wpAny_bind (jI pl (wpAny_bind (jI pu (wpAny_bind (wpAny_pure ?_)))))
 show wpAny _ _ (match Builtin.Slice.sliceAdjust lo hi 1 (n:Int) with | (lo,hi)=>pure (lo,(1:Int),Builtin.Slice.slicePlaces lo hi 1)) _ _ s
 rw [oU lo hi n]
 show wpAny _ _ (pure (((sIx n 0 lo:Nat):Int),(1:Int),Builtin.Slice.slicePlaces ((sIx n 0 lo:Nat):Int) ((sIx n n hi:Nat):Int) 1)) _ _ s
 rw [pj]
 exact wpAny_pure h
theorem se (xs:Array Value)(i k:Nat):((List.range k).filterMap λ(m:Nat)=>xs[((i:Int) + (m:Int) * 1).toNat]?).toArray=((xs.toList.drop i).take k).toArray:=by
 have e:(λ(m:Nat)=>xs[((i:Int) + (m:Int) * 1).toNat]?)=λm=>xs[i + m]?:=by
  funext m
  have:((i:Int) + (m:Int) * 1).toNat=i + m:=by omega
  rw [this]
 rw [e]
 have:=pick_run xs i k
 rw [List.filterMap_map] at this
 have e2:((λx=>xs[x]?) ∘ λx=>i + x)=λm=>xs[i + m]?:=rfl
 rw [e2] at this
 rw [this]
theorem i9 {t sl:Addr}{items:Array Value}{vl vu:Value}{lo hi:Option Int}{Q:Value->Shared->Prop}(ht:IsTup s.heap t items)(hs:s.heap.IsSliceOf sl vl vu .none)(pl:IsPart vl lo)(pu:IsPart vu hi)
 (hw:¬(sIx items.size 0 lo=0/\sIx items.size items.size hi=items.size))
 (h:Q (.ref s.heap.objs.size) {s with heap:=s.heap.push {cls:=.type "tuple",data:=.seq ((items.toList.drop (sIx items.size 0 lo)).take (sIx items.size items.size hi - sIx items.size 0 lo)).toArray}})
 (hsz:items.size<=sizeLine):wpAny (model prog w) A (getItem (.ref t) (.ref sl)) Q E s:=by
 have htake:sizeOk (.seq ((items.toList.drop (sIx items.size 0 lo)).take (sIx items.size items.size hi - sIx items.size 0 lo)).toArray):=by
  show ((items.toList.drop (sIx items.size 0 lo)).take (sIx items.size items.size hi - sIx items.size 0 lo)).toArray.size<=sizeLine
  rw [List.size_toArray,List.length_take,List.length_drop,Array.length_toList]
  omega
 have hj:sIx items.size items.size hi<=items.size:=wa _ _ (Nat.le_refl _) hi
 obtain ⟨os,hos,hcs,hds⟩:=id hs
 have hTs:s.TypeIs (.ref sl) "slice":=⟨os,hos,hcs⟩
 unfold getItem
 try with_reducible refine wpAny_holding ?_
 first | refine wpAny_bind (wpAny_pure ?_) | skip
 refine wpAny_bind (wpAny_sequenceKey ht.typeIs (by decide) ?_)
 refine wpAny_bind (wpAny_callSpecial?_slot (name:=Str.ofString "__getitem__") ht.typeIs PyProof.Rows.slot_tuple_getitem
  (wpAny_call_entry PyProof.Rows.slot_tuple_getitem ht.typeIs entry_tuple_getitem ?_ (args_tuple_getitem _ _)))
 show wpAny _ _ (Builtin.Tuple.tupleItemsOf (.ref t) >>=_) _ _ s
 refine wpAny_bind (tupleItemsOf_ ht ?_)
 refine wpAny_bind (wpAny_typeOf hTs ?_)
 rw [if_pos (by decide)]
 refine wpAny_bind (f6 hs pl pu ?_)
 have hno:¬((((sIx items.size 0 lo:Nat):Int)==0&&(1:Int)==1&&(sIx items.size items.size hi - sIx items.size 0 lo)==items.size)=true):=by
  intro q
  rw [Bool.and_eq_true,Bool.and_eq_true] at q
  have q1:((sIx items.size 0 lo:Nat):Int)=0:=eq_of_beq q.1.1
  have q2:sIx items.size items.size hi - sIx items.size 0 lo=items.size:=eq_of_beq q.2
  exact hw ⟨by omega,by omega⟩
 show wpAny _ _ (if (((sIx items.size 0 lo:Nat):Int)==0&&(1:Int)==1&&(sIx items.size items.size hi - sIx items.size 0 lo)==items.size)=true then _ else _) _ _ s
 rw [if_neg hno,se]
 first
  | exact wpAny_bind (m:=Builtin.Tuple.tupleExact _) (wpAny_newObj_type (wpAny_pure ⟨_,rfl,wpAny_pure h⟩) htake)
  | exact wpAny_bind (m:=Builtin.Tuple.tupleExact _) (wpAny_newObj_type (wpAny_bind (wpAny_pure (wpAny_pure ⟨_,rfl,wpAny_pure h⟩))) htake)
  | exact wpAny_bind (wpAny_bind (m:=Builtin.Tuple.tupleExact _) (wpAny_newObj_type (wpAny_pure (wpAny_pure ⟨_,rfl,wpAny_pure h⟩)) htake))
  | exact wpAny_bind (wpAny_bind (m:=Builtin.Tuple.tupleExact _) (wpAny_newObj_type (wpAny_pure ⟨_,rfl,wpAny_pure h⟩) htake))
end
end HT
namespace L2
open PySem PySem.Spec PyProof.Rows
abbrev TO:=St->Hp->(Option Int->Hp->Prop)->Prop
def PO (X:Cx)(e:Option Expr)(t:TO):Prop:=
 ∀(pins:List (Addr×Obj)) (s:Shared) (σ:St) (H:Hp) (Q:Option Int->Hp->Prop),Inv X pins σ H s->t σ H Q->
  wpAny (model X.prog X.w) X.A (evalPart e X.env) (λu s'=>∃o H',Inv X pins σ H' s'/\IsPart u o/\Q o H') X.xe s
def uH:TO:=λ_ H Q=>Q none H
def Ah (t:TE):TO:=λσ H Q=>t σ H λx H1=>∃i,x= .int i/\Q (some i) H1
section
variable {X:Cx}{e:Expr}{te:TE}{lo hi:Option Expr}{tl th:TO}{pos p2:Pos}
theorem vm:PO X none uH:=by
 intro pins s σ H Q I h
 rw [evalPart_none]
 exact wpAny_pure ⟨none,H,I,.none,h⟩
theorem uQ (h:PE X e te):PO X (some e) (Ah te):=by
 intro pins s σ H Q I hw
 rw [evalPart_some]
 refine aI (h pins s σ H _ I hw) λu s1 ⟨x,H1,I1,r1,q1⟩=>?_
 obtain ⟨i,rfl,q⟩:=q1
 obtain ⟨t,rfl⟩:=r1
 exact ⟨some i,H1,I1,.int i t,q⟩
def xG (X:Cx)(r:V->Option Int->Option Int->Hp->VK->Prop):Prop:=
 ∀(pins:List (Addr×Obj)) (s:Shared) (σ:St) (H:Hp) (x:V) (v vl vu:Value) (lo hi:Option Int) (sl:Addr) (Q:VK),Inv X pins σ H s->RelV x v->s.heap.IsSliceOf sl vl vu .none->IsPart vl lo->IsPart vu hi->r x lo hi H Q->
  ∃T id,typeLookup (.type T) "__getitem__"=pure (some (.builtin id))/\s.TypeIs v T/\wpAny (model X.prog X.w) X.A (getItem v (.ref sl)) (EP X pins σ Q) X.xe s
def tSl (r:V->Option Int->Option Int->Hp->VK->Prop)(te:TE)(tl th:TO):TE:=λσ H Q=>te σ H λx H1=>tl σ H1 λl H2=>th σ H2 λu H3=>r x l u H3 Q
theorem lL {r:V->Option Int->Option Int->Hp->VK->Prop}(hr:xG X r)(he:PE X e te)(hl:PO X lo tl)(hu:PO X hi th):PE X (.Subscript e (.Slice lo hi none p2) pos) (tSl r te tl th):=by
 intro pins s σ H Q I h
 refine Subscript_ (aI (he pins s σ H _ I h) λv s1 ⟨x,H1,I1,r1,q1⟩=>?_)
 refine wpAny_Slice (aI (hl pins s1 σ H1 _ I1 q1) λvl s2 ⟨l,H2,I2,pl,q2⟩=>aI (hu pins s2 σ H2 _ I2 q2) λvu s3 ⟨u,H3,I3,pu,q3⟩=>?_)
 rw [evalPart_none]
 refine wpAny_pure ?_
 have I4:Inv X pins σ H3 {s3 with heap:=s3.heap.push {cls:=.type "slice",data:=.fields #[vl,vu,.none]}}:=I3.kept (t':=s3.toks) λb ob q=>Heap.get?_push_of_some _ q
 obtain ⟨T,id,hT,ht,hg⟩:=hr pins {s3 with heap:=s3.heap.push {cls:=.type "slice",data:=.fields #[vl,vu,.none]}} σ H3 x v vl vu l u s3.heap.objs.size Q I4 r1 (Heap.IsSliceOf.new ..) pl pu q3
 show wpAny (model X.prog X.w) X.A (subscriptTail e (.Slice lo hi none p2) v (.ref s3.heap.objs.size)) (EP X pins σ Q) X.xe {s3 with heap:=s3.heap.push {cls:=.type "slice",data:=.fields #[vl,vu,.none]}}
 exact tail_any (ops:=[.ref s3.heap.objs.size,v]) ht hT hg (by with_unfolding_all rfl)
def jx (xs:List V)(lo hi:Option Int):List V:=(xs.drop (HT.sIx xs.length 0 lo)).take (HT.sIx xs.length xs.length hi - HT.sIx xs.length 0 lo)
theorem mQ (xs:List V)(lo hi:Option Int):(jx xs lo hi).length<=xs.length:=by
 unfold jx
 rw [List.length_take,List.length_drop]
 omega
def A7 (K:PySem.W.Frag):V->Option Int->Option Int->Hp->VK->Prop:=λx lo hi H Q=>∃a xs,x= .ref a/\bH K H a xs/\
 ¬(HT.sIx xs.length 0 lo=0/\HT.sIx xs.length xs.length hi=xs.length)/\∀p,H p=none->Q (.ref p) (upd H p (.tup (jx xs lo hi)))
theorem ya:xG X (A7 X.K):=by
 intro pins s σ H x v vl vu lo hi sl Q I rx hs pl pu h
 obtain ⟨a,xs,rfl,hx,hw,q⟩:=h
 cases rx
 obtain ⟨its,r,ht,hz⟩:=I.tuple hx
 have hlen:its.toArray.size=xs.length:=by rw [List.size_toArray];exact r.length.symm
 refine ⟨"tuple",_,PyProof.Rows.slot_tuple_getitem.lookup,ht.typeIs,?_⟩
 refine HT.i9 ht hs pl pu (by rw [hlen];exact hw) ?_ (by rw [hlen];exact hz)
 rw [hlen]
 refine ⟨.ref s.heap.objs.size,_,I.laid (t':=s.toks) (o:=.tup (jx xs lo hi)) (λb ob q=>Heap.get?_push_of_some _ q) (Nat.le_refl _) ?_,rfl,q _ (I.hok.fresh (Nat.le_refl _))⟩
 exact ⟨Nat.le_trans (mQ xs lo hi) hz,_,(r.drop (HT.sIx xs.length 0 lo)).take (HT.sIx xs.length xs.length hi - HT.sIx xs.length 0 lo),IsTup.new _ _⟩
def Ao (K:PySem.W.Frag):R2:=λx y H Q=>∃a b xs ys,x= .ref a/\y= .ref b/\bH K H a xs/\bH K H b ys/\xs≠[]/\xs.length + ys.length<=sizeLine/\
 (ys=[]->Q (.ref a) H)/\(ys≠[]->∀p,H p=none->Q (.ref p) (upd H p (.tup (xs++ys))))
theorem Vals.ko {xs:List V}{us:List Value}(r:Vals xs us):us=[]↔xs=[]:=by
 cases r with
 | nil=>simp
 | cons _ _=>simp
theorem nC:cU X (binaryOp .Add) (Ao X.K):=by
 intro pins s σ H x y v u Q I rx ry h
 obtain ⟨a,b,xs,ys,rfl,rfl,ha,hb,hx,hz,q1,q2⟩:=h
 cases rx
 cases ry
 obtain ⟨its,r1,p1,_⟩:=I.tuple ha
 obtain ⟨its2,r2,p2,_⟩:=I.tuple hb
 refine HT.vV p1 p2 (λz=>hx (r1.ko.mp z)) (λz=>⟨.ref a,H,I,rfl,q1 (r2.ko.mp z)⟩) (λz=>?_) (by rw [← r1.length,← r2.length];exact hz)
 refine ⟨.ref s.heap.objs.size,_,I.laid (t':=s.toks) (o:=.tup (xs++ys)) (λb ob q=>Heap.get?_push_of_some _ q) (Nat.le_refl _) ?_,rfl,q2 (λw=>z (r2.ko.mpr w)) _ (I.hok.fresh (Nat.le_refl _))⟩
 exact ⟨by rw [List.length_append];exact hz,_,r1.append r2,IsTup.new _ _⟩
end
section
variable {α:Type}
def gb (n:Nat)(i:Int):Option Nat:=if 0<=i then (if i < n then some i.toNat else none) else if -(n:Int)<=i then some (i + n).toNat else none
def da (xs:List α)(i:Int):Option α:=(gb xs.length i).bind λj=>xs[j]?
theorem nB {n:Nat}{i:Int}{j:Nat}(h:gb n i=some j):seqIndex? i n=some j/\j < n/\ -(n:Int)<=i/\i < n:=by
 unfold gb at h
 by_cases h0:0<=i
 ·rw [if_pos h0] at h
  by_cases h1:i < n
  ·rw [if_pos h1] at h
   have e:i.toNat=j:=Option.some.inj h
   exact ⟨by rw [seqIndex_of h0 h1,e],by omega,by omega,h1⟩
  ·rw [if_neg h1] at h;cases h
 ·rw [if_neg h0] at h
  by_cases h1: -(n:Int)<=i
  ·rw [if_pos h1] at h
   have e:(i + n).toNat=j:=Option.some.inj h
   exact ⟨by rw [seqIndex_neg (by omega) h1,e],by omega,h1,by omega⟩
  ·rw [if_neg h1] at h;cases h
theorem mX {xs:List α}{i:Int}{v:α}(h:da xs i=some v):∃j,seqIndex? i xs.length=some j/\xs[j]?=some v/\j < xs.length/\ -(xs.length:Int)<=i/\i < xs.length:=by
 unfold da at h
 cases e:gb xs.length i with
 | none=>rw [e] at h;cases h
 | some j=>
   rw [e] at h
   obtain ⟨h1,h2,h3,h4⟩:=nB e
   exact ⟨j,h1,h,h2,h3,h4⟩
theorem uT {xs:List α}{j:Nat}{v:α}(h:xs[j]?=some v):da xs (j:Int)=some v:=by
 have hj:j < xs.length:=(List.getElem?_eq_some_iff.mp h).1
 have e:gb xs.length (j:Int)=some j:=by
  unfold gb
  rw [if_pos (by omega),if_pos (by omega)];simp
 unfold da;rw [e];exact h
def gQ (b:Expr):Prop:=∀o i,subscripted b false o i=operate [o,i] (getItem o i)
def wq (X:Cx)(r:R2):Prop:=
 ∀(value slice:Expr) (pins:List (Addr×Obj)) (s:Shared) (σ:St) (H:Hp) (x y:V) (v u:Value) (Q:VK),Inv X pins σ H s->RelV x v->RelV y u->r x y H Q->
  subscripted slice false v u=operate [v,u] (getItem v u)->wpAny (model X.prog X.w) X.A (subscriptTail value slice v u) (EP X pins σ Q) X.xe s
def x5 (X:Cx)(id:String)(r:V->List V->Hp->VK->Prop):Prop:=
 ∀(pins:List (Addr×Obj)) (s:Shared) (σ:St) (H:Hp) (x:V) (xs:List V) (v:Value) (us:List Value) (Q:VK),Inv X pins σ H s->RelV x v->Vals xs us->r x xs H Q->
  wpAny (model X.prog X.w) X.A (call (.builtin id) (v::us)) (EP X pins σ Q) X.xe s
end
section
variable {X:Cx}{a b:Expr}{ta tb:TE}{pos:Pos}
theorem lr {r:R2}(hr:wq X r)(ha:PE X a ta)(hb:PE X b tb)(hs:gQ b):PE X (.Subscript a b pos) (tO r ta tb):=by
 intro pins s σ H Q I h
 exact Subscript_ (rF ha hb I h λv u s2 x y H2 I2 rx ry q=>hr a b pins s2 σ H2 x y v u Q I2 rx ry q (hs _ _))
def Bt (K:PySem.W.Frag):R2:=λx y H Q=>∃p xs i v,x= .ref p/\y= .int i/\bI K H p xs/\da xs i=some v/\Q v H
def A8 (K:PySem.W.Frag):R2:=λx y H Q=>∃p xs i v,x= .ref p/\y= .int i/\bH K H p xs/\da xs i=some v/\Q v H
theorem ku:wq X (Bt X.K):=by
 intro value slice pins s σ H x y v u Q I rx ry h hs
 obtain ⟨p,xs,i,z,rfl,rfl,hq,he,q⟩:=h
 cases rx
 obtain ⟨t,rfl⟩:=ry
 obtain ⟨its,r,pl,hz⟩:=I.list hq
 obtain ⟨j,h1,h2,h3,h4,h5⟩:=mX he
 obtain ⟨w,ew,rw'⟩:=r.get h2
 have hl:=r.length
 have hn:=gX
 have fin:EP X pins σ Q w s:=⟨z,H,I,rw',q⟩
 by_cases h0:0<=i
 ·have hj:i.toNat=j:=by
   rw [seqIndex_of h0 h5] at h1
   exact Option.some.inj h1
  exact item_listR pl.isList h0 (by omega) (by rw [hj];simpa using ew) fin hs
 ·have hj:(i + (its.toArray.size:Int)).toNat=j:=by
   rw [seqIndex_neg (by omega) h4] at h1
   rw [List.size_toArray,← hl]
   exact Option.some.inj h1
  exact subscriptTail_builtinR (x:=w) pl.isList.typeIs slot_list_getitem.lookup
   (wpAny_getItem_list_neg (Q:=λr s'=>r=w/\EP X pins σ Q r s') pl.isList (by omega) (by rw [List.size_toArray]<;>omega) (by omega) (by rw [hj];simpa using ew) ⟨rfl,fin⟩) hs
theorem xr:wq X (A8 X.K):=by
 intro value slice pins s σ H x y v u Q I rx ry h hs
 obtain ⟨p,xs,i,z,rfl,rfl,hq,he,q⟩:=h
 cases rx
 obtain ⟨t,rfl⟩:=ry
 obtain ⟨its,r,pl,hz⟩:=I.tuple hq
 obtain ⟨j,h1,h2,h3,h4,h5⟩:=mX he
 obtain ⟨w,ew,rw'⟩:=r.get h2
 have hl:=r.length
 have hn:=gX
 have fin:EP X pins σ Q w s:=⟨z,H,I,rw',q⟩
 exact subscriptTail_builtinR (x:=w) pl.typeIs slot_tuple_getitem.lookup
  (getItem_tuple (j:=j) (Q:=λr s'=>r=w/\EP X pins σ Q r s') pl (by omega) (by omega) (by rw [List.size_toArray,← hl];exact h1) (by simpa using ew) ⟨rfl,fin⟩) hs
theorem oA (its:List Value)(n j:Nat)(u:Value):Obj.mapSeq (·.setIfInBounds j u) {cls:=.type "list",data:=.seq its.toArray n}={cls:=.type "list",data:=.seq (its.set j u).toArray n}:=by
 simp [Obj.mapSeq]
theorem Inv.lst {pins:List (Addr×Obj)}{σ:St}{H:Hp}{s:Shared}{p:Addr}{xs:List V}(I:Inv X pins σ H s)(h:H p=some (.lst xs)):
 ∃(its:List Value) (n:Nat),Vals xs its/\s.heap.get? p=some {cls:=.type "list",data:=.seq its.toArray n}/\xs.length<=sizeLine:=by
 obtain ⟨z,its,n,r,e⟩:=I.hok p _ h
 exact ⟨its,n,r,e,z⟩
theorem Inv.xD {pins:List (Addr×Obj)}{σ:St}{H:Hp}{s:Shared}{p:Addr}{xs ys:List V}{its its':List Value}{n n':Nat}{f:Obj->Obj}(I:Inv X pins σ H s)(h:H p=some (.lst xs))
 (ho:s.heap.get? p=some {cls:=.type "list",data:=.seq its.toArray n}) (hf:f {cls:=.type "list",data:=.seq its.toArray n}={cls:=.type "list",data:=.seq its'.toArray n'}) (r:Vals ys its') (hz:ys.length<=sizeLine) (t:Nat):
 Inv X pins σ (upd H p (.lst ys)) {s with heap:=s.heap.update p f,toks:=t}:=by
 have e:(s.heap.update p f).get? p=some {cls:=.type "list",data:=.seq its'.toArray n'}:=by
  rw [Heap.get?_update_self f ho (by rw [hf]<;>rfl),hf]
 refine I.write (x:=p) (e:=p) (by rw [h];trivial) (.inl rfl) (λb u hb q=>(Heap.get?_update_other _ _ (Ne.symm hb)).trans q) ⟨_,e⟩ ?_
 exact ⟨hz,its',n',r,e⟩
def zE:V->V->V->Hp->(Hp->Prop)->Prop:=λo i v H Q=>∃p xs k j,o= .ref p/\i= .int k/\H p=some (.lst xs)/\gb xs.length k=some j/\Q (upd H p (.lst (xs.set j v)))
theorem set_list:wx X zE:=by
 intro pins s σ H o i v ov iv u Q I ro ri rv h
 obtain ⟨p,xs,k,j,rfl,rfl,hp,hj,q⟩:=h
 cases ro
 obtain ⟨t,rfl⟩:=ri
 obtain ⟨its,n,r,ho,hz⟩:=I.lst hp
 obtain ⟨h1,h2,h3,h4⟩:=nB hj
 have hl:=r.length
 have hn:=gX
 have I':Inv X pins σ (upd H p (.lst (xs.set j v))) {s with heap:=s.heap.update p (Obj.mapSeq (·.setIfInBounds j u))}:=
  I.xD hp ho (oA its n j u) (r.set rv j) (by rw [List.length_set];exact hz) s.toks
 by_cases h0:0<=k
 ·have hk:k.toNat=j:=by
   rw [seqIndex_of h0 h4] at h1
   exact Option.some.inj h1
  exact PySem.W.ki_setAt ho h0 (by omega) (by rw [List.size_toArray,← hl];exact h4) (by rw [hk];exact ⟨_,I',q⟩)
 ·have hk:(k + (its.toArray.size:Int)).toNat=j:=by
   rw [seqIndex_neg (by omega) h3] at h1
   rw [List.size_toArray,← hl]
   exact Option.some.inj h1
  exact PySem.W.ki_setBack ho (by omega) (by rw [List.size_toArray,← hl];exact h3) (by omega) (by rw [hk];exact ⟨_,I',q⟩)
def fD:V->Bool
 | .non=>true
 | .bl _=>true
 | .int _=>true
 | .str _=>true
 | _=>false
def jV:V->V->Bool
 | .non,.non=>true
 | .bl a,.bl b=>a==b
 | .bl a,.int b=>(if a then 1 else 0)==b
 | .int a,.bl b=>a==(if b then 1 else 0)
 | .int a,.int b=>a==b
 | .str a,.str b=>a==b
 | _,_=>false
theorem wD {A:Around}{s:Shared}{y x:V}{u v:Value}(ry:RelV y u)(rx:RelV x v)(fy:fD y=true)(fx:fD x=true):SeqAt.EqAt A s u v (jV y x):=by
 cases y with
 | non=>
   cases ry
   cases x with
   | non=>cases rx;exact SeqAt.EqAt.same _
   | bl b=>cases rx;exact SeqAt.EqAt.none_bool b
   | int b=>obtain ⟨t,rfl⟩:=rx;exact SeqAt.EqAt.none_int b t
   | str b=>obtain ⟨t,rfl⟩:=rx;exact SeqAt.EqAt.none_str b t
   | _=>exact absurd (show false=true from fx) Bool.false_ne_true
 | bl a=>
   cases ry
   cases x with
   | non=>cases rx;exact SeqAt.EqAt.bool_none a
   | bl b=>cases rx;exact SeqAt.EqAt.bool_bool a b
   | int b=>obtain ⟨t,rfl⟩:=rx;exact SeqAt.EqAt.bool_int a b t
   | str b=>obtain ⟨t,rfl⟩:=rx;exact SeqAt.EqAt.bool_str a b t
   | _=>exact absurd (show false=true from fx) Bool.false_ne_true
 | int a=>
   obtain ⟨t',rfl⟩:=ry
   cases x with
   | non=>cases rx;exact SeqAt.EqAt.int_none a t'
   | bl b=>cases rx;exact SeqAt.EqAt.int_bool a t' b
   | int b=>obtain ⟨t,rfl⟩:=rx;exact SeqAt.EqAt.int_int a t' b t
   | str b=>obtain ⟨t,rfl⟩:=rx;exact SeqAt.EqAt.int_str a t' b t
   | _=>exact absurd (show false=true from fx) Bool.false_ne_true
 | str a=>
   obtain ⟨t',rfl⟩:=ry
   cases x with
   | non=>cases rx;exact SeqAt.EqAt.str_none a t'
   | bl b=>cases rx;exact SeqAt.EqAt.str_bool a t' b
   | int b=>obtain ⟨t,rfl⟩:=rx;exact SeqAt.EqAt.str_int a t' b t
   | str b=>obtain ⟨t,rfl⟩:=rx;exact SeqAt.EqAt.str_str a t' b t
   | _=>exact absurd (show false=true from fx) Bool.false_ne_true
 | _=>exact absurd (show false=true from fy) Bool.false_ne_true
def jE (x:V)(u:Value):Bool:=match u with
 | .none=>jV .non x
 | .bool b=>jV (.bl b) x
 | .int i _=>jV (.int i) x
 | .str z _=>jV (.str z) x
 | _=>false
theorem rn {x y:V}{u:Value}(r:RelV y u)(f:fD y=true):jE x u=jV y x:=by
 cases y with
 | non=>cases r;rfl
 | bl b=>cases r;rfl
 | int i=>obtain ⟨t,rfl⟩:=r;rfl
 | str z=>obtain ⟨t,rfl⟩:=r;rfl
 | _=>exact absurd (show false=true from f) Bool.false_ne_true
theorem kA {x:V}:∀{xs:List V} {us:List Value},Vals xs us->xs.all fD=true->us.any (jE x)=xs.any λy=>jV y x
 | _,_,.nil,_=>rfl
 | y::xs,u::us,.cons r t,f=>by
   rw [List.all_cons,Bool.and_eq_true] at f
   rw [List.any_cons,List.any_cons,rn r f.1,kA t f.2]
theorem js {A:Around}{s:Shared}{x:V}{v:Value}(rx:RelV x v)(fx:fD x=true):∀{xs:List V} {us:List Value},Vals xs us->xs.all fD=true->∀u∈us,SeqAt.EqAt A s u v (jE x u)
 | _,_,.nil,_=>λu hu=>by cases hu
 | y::xs,u::us,.cons r t,f=>λu' hu=>by
   rw [List.all_cons,Bool.and_eq_true] at f
   rcases List.mem_cons.mp hu with rfl | hu
   ·rw [rn r f.1];exact wD r rx f.1 fx
   ·exact js rx fx t f.2 u' hu
def uk (x:V)(xs:List V):Bool:=xs.any λy=>jV y x
def rIn (K:PySem.W.Frag)(neg:Bool):R2:=λx y H Q=>∃p xs,y= .ref p/\(bI K H p xs∨bH K H p xs)/\fD x=true/\xs.all fD=true/\Q (.bl (if neg then !uk x xs else uk x xs)) H
theorem rl:cU X (compareOp .In) (rIn X.K false):=by
 intro pins s σ H x y v u Q I rx ry h
 obtain ⟨p,xs,rfl,hq,fx,fs,q⟩:=h
 cases ry
 rcases hq with hq | hq
 ·obtain ⟨its,r,pl,hz⟩:=I.list hq
  refine SeqAt.in_listAt (jE x) pl.isList (λw hw=>js rx fx r fs w (by simpa using hw)) ⟨.bl _,H,I,rfl,?_⟩
  rw [show its.toArray.any (jE x)=its.any (jE x) by simp,kA r fs]
  exact q
 ·obtain ⟨its,r,pl,hz⟩:=I.tuple hq
  refine SeqAt.in_tupleAt (jE x) pl (λw hw=>js rx fx r fs w (by simpa using hw)) ⟨.bl _,H,I,rfl,?_⟩
  rw [show its.toArray.any (jE x)=its.any (jE x) by simp,kA r fs]
  exact q
theorem dC:dz X (.builtin "len") (λxs H Q=>∃p ys,xs=[.ref p]/\(bI X.K H p ys∨bH X.K H p ys)/\Q (.int ys.length) H):=by
 intro pins s σ H xs us Q I r h
 obtain ⟨p,ys,rfl,hq,q⟩:=h
 obtain ⟨u,rfl,rx⟩:=vals1 r
 cases rx
 have hn:=gX
 rcases hq with hq | hq
 ·obtain ⟨its,r',pl,hz⟩:=I.list hq
  have hlen:=r'.length
  exact Calls.call_len_list pl.isList (by simp only [List.size_toArray]<;>omega) ⟨.int ys.length,H,I.tok _,⟨s.toks + 1,by rw [List.size_toArray,hlen]⟩,q⟩
 ·obtain ⟨its,r',pl,hz⟩:=I.tuple hq
  have hlen:=r'.length
  exact len_tuple pl (by simp only [List.size_toArray]<;>omega) ⟨.int ys.length,H,I.tok _,⟨s.toks + 1,by rw [List.size_toArray,hlen]⟩,q⟩
theorem mf:dz X (.builtin "len") (λxs H Q=>∃z,xs=[.str z]/\z.length<=sizeLine/\Q (.int z.length) H):=by
 intro pins s σ H xs us Q I r h
 obtain ⟨z,rfl,hz,q⟩:=h
 obtain ⟨u,rfl,t,rfl⟩:=vals1 r
 have hn:=gX
 exact len_str (by omega) ⟨.int z.length,H,I.tok _,⟨_,rfl⟩,q⟩
theorem fR:dz X (.type "list") (λxs H Q=>∃p ys,xs=[.ref p]/\(bI X.K H p ys∨bH X.K H p ys)/\∀l,H l=none->Q (.ref l) (upd H l (.lst ys))):=by
 intro pins s σ H xs us Q I r h
 obtain ⟨p,ys,rfl,hq,q⟩:=h
 obtain ⟨u,rfl,rx⟩:=vals1 r
 cases rx
 have fin:∀(its:List Value),Vals ys its->ys.length<=sizeLine->∀(h':Heap) (c':Nat),(∀b o',s.heap.get? b=some o'->h'.get? b=some o')->
  h'.get? s.heap.objs.size=some {cls:=.type "list",dict:=none,data:=.seq its.toArray c',slots:= #[]}->EP X pins σ Q (.ref s.heap.objs.size) {s with heap:=h'}:=λits r' hz h' c' kp e=>
  ⟨.ref s.heap.objs.size,_,I.laid (t':=s.toks) kp (Nat.le_refl _) (show br X.prog X.w _ h' _ (.lst ys) from ⟨hz,its,c',r',e⟩),rfl,q _ (I.hok.fresh (Nat.le_refl _))⟩
 rcases hq with hq | hq
 ·obtain ⟨its,r',pl,hz⟩:=I.list hq
  have hlen:=r'.length
  obtain ⟨o,ho,hc,n,hd⟩:=pl.isList
  exact call_list_seq p (.inl rfl) ho hc hd (λh' c' kp e=>fin its r' hz h' c' kp e) (by simp only [List.size_toArray]<;>omega)
 ·obtain ⟨its,r',pl,hz⟩:=I.tuple hq
  have hlen:=r'.length
  obtain ⟨o,ho,hc,n,hd⟩:=pl
  exact call_list_seq p (.inr rfl) ho hc hd (λh' c' kp e=>fin its r' hz h' c' kp e) (by simp only [List.size_toArray]<;>omega)
def xO (K:PySem.W.Frag)(T:String)(x:V)(H:Hp):Prop:=match x with
 | .str _=>T="str"
 | .int _=>T="int"
 | .ref p=>(T="list"/\∃xs,bI K H p xs)∨(T="tuple"/\∃o,K.lookup p=some o/\o.cls= .type "tuple"/\o.dict=none)∨
  (T="dict"/\((∃kvs,H p=some (.dK kvs))∨∃kvs,H p=some (.dT kvs)))∨(T="set"/\∃S n,H p=some (.set S n))
 | _=>False
theorem qy {pins:List (Addr×Obj)}{σ:St}{H:Hp}{s:Shared}{T:String}{x:V}{v:Value}(I:Inv X pins σ H s)(r:RelV x v)(ty:xO X.K T x H):
 s.TypeIs v T/\∀a,v= .ref a->∃ob,s.heap.get? a=some ob/\ob.dict=none:=by
 cases x with
 | str z=>
   obtain ⟨t,rfl⟩:=r
   cases (show T="str" from ty)
   exact ⟨typeIs_str s z t,λ_ e=>nomatch e⟩
 | int i=>
   obtain ⟨t,rfl⟩:=r
   cases (show T="int" from ty)
   exact ⟨typeIs_int s i t,λ_ e=>nomatch e⟩
 | ref p=>
   cases r
   rcases ty with ⟨rfl,xs,hq⟩ | ⟨rfl,o,hk,hc,hd⟩ | ⟨rfl,hk⟩ | ⟨rfl,S,n,hk⟩
   ·obtain ⟨its,_,pl,_⟩:=I.list hq
    refine ⟨pl.isList.typeIs,λa e=>?_⟩
    cases e
    obtain ⟨o,n,e,c,hd,_⟩:=pl
    exact ⟨o,e,hd⟩
   ·refine ⟨⟨o,I.cz p o hk,hc⟩,λa e=>?_⟩
    cases e
    exact ⟨o,I.cz _ o hk,hd⟩
   ·have z:∃o,s.heap.get? p=some o/\o.ExactDict:=by
     rcases hk with ⟨kvs,hk⟩ | ⟨kvs,hk⟩
     ·obtain ⟨_,_,_,_,o,_,_,e,ex,_⟩:=I.hok p _ hk
      exact ⟨o,e,ex⟩
     ·obtain ⟨_,_,_,_,o,_,_,e,ex,_⟩:=I.hok p _ hk
      exact ⟨o,e,ex⟩
    obtain ⟨o,e,ex⟩:=z
    refine ⟨⟨o,e,ex.1⟩,λa e2=>?_⟩
    cases e2
    exact ⟨o,e,ex.2.1⟩
   ·obtain ⟨o,_,_,_,e,ex,_⟩:=I.hok p _ hk
    refine ⟨⟨o,e,ex.1⟩,λa e2=>?_⟩
    cases e2
    exact ⟨o,e,ex.2.1⟩
 | _=>exact False.elim ty
def A2 (K:PySem.W.Frag)(T:String)(r:V->List V->Hp->VK->Prop)(to:TE):TE:=λσ H Q=>to σ H λx H1=>xO K T x H1/\r x [] H1 Q
def tBM (K:PySem.W.Frag)(T:String)(r:V->List V->Hp->VK->Prop)(to:TE)(t:TA):TE:=λσ H Q=>to σ H λx H1=>xO K T x H1/\t σ H1 λxs H2=>r x xs H2 Q
variable {o e:Expr}{es:List Expr}{to:TE}{t:TA}{name:Str}{apos cpos:Pos}{T id:String}{r:V->List V->Hp->VK->Prop}
theorem rq (pa:PlainAttrs T)(slot:Slot T name id)(hty:typeOf (.builtin id)=pure (.type "method_descriptor"))(hm:x5 X id r)(ho:PE X o to)
 (hbase:attributeBase o name X.env (eval o X.env)=eval o X.env:=by rfl) (hline:(apos.endLine==cpos.line)=true:=by rfl):PE X (.Call (.Attribute o name apos) [] [] cpos) (A2 X.K T r to):=by
 intro pins s σ H Q I h
 refine wpAny_Call_method0_late hbase hline (aI (ho pins s σ H _ I h) λv s1 ⟨x,H1,I1,r1,ty,q1⟩=>?_)
 obtain ⟨h1,h2⟩:=qy I1 r1 ty
 exact ⟨T,id,pa,slot,hty,h1,h2,Calls.callWith_builtin rfl (PySem.evalArgs_none (hm pins s1 σ H1 x [] v [] Q I1 r1 .nil q1))⟩
theorem ug (pa:PlainAttrs T)(slot:Slot T name id)(hty:typeOf (.builtin id)=pure (.type "method_descriptor"))(hm:x5 X id r)(ho:PE X o to)(ha:PA X (e::es) t)
 (hbase:attributeBase o name X.env (eval o X.env)=eval o X.env:=by rfl)
 (hfew:((backTo cpos (starEach (e::es) X.env)).all (λx=> !x.1)&&(backToKw cpos (keywordEach [] X.env)).all (λx=>x.1.isSome)
  &&decide ((e::es).length + ([]:List Keyword).length + (if ([]:List Keyword).isEmpty then 0 else 1) < 30))=true:=by rfl)
 (hline:(apos.endLine==cpos.line)=true:=by rfl) (hs:starEach (e::es) X.env=(false,eval e X.env)::starEach es X.env:=by rfl) (hplain:(backTo cpos (starEach es X.env)).any (·.1)=false:=by rfl):
 PE X (.Call (.Attribute o name apos) (e::es) [] cpos) (tBM X.K T r to t):=by
 intro pins s σ H Q I h
 refine wpAny_Call_method_late hbase hfew hline rfl (aI (ho pins s σ H _ I h) λv s1 ⟨x,H1,I1,r1,ty,q1⟩=>?_)
 obtain ⟨h1,h2⟩:=qy I1 r1 ty
 refine ⟨T,id,pa,slot,hty,h1,h2,?_⟩
 have hA:=ha cpos pins s1 σ H1 _ I1 q1
 rw [hs] at hA ⊢
 refine Calls.callWith_builtin (by show (false ||(backTo cpos (starEach es X.env)).any (·.1))=false;rw [hplain]<;>rfl) (Calls.evalArgs_plain ?_)
 exact aI hA λus s2 ⟨vs,H2,I2,r2,q2⟩=>hm pins s2 σ H2 x vs v us Q I2 r1 r2 q2
end
def AD (X:Cx)(id:String)(r:V->List V->Hp->VK->Prop):Prop:=
 ∀(pins:List (Addr×Obj)) (s:Shared) (σ:St) (H:Hp) (x:V) (xs:List V) (v:Value) (us:List Value) (Q:VK),Inv X pins σ H s->RelV x v->Vals xs us->r x xs H Q->
  wpAny (model X.prog X.w) X.A (call (.builtin id) (v::us)) (EP X pins σ Q) X.xe s
theorem Vals.one:∀{x:V} {us:List Value},Vals [x] us->∃u,us=[u]/\RelV x u
 | _,_,.cons r .nil=>⟨_,rfl,r⟩
theorem Vals.zero:∀{us:List Value},Vals [] us->us=[]
 | _,.nil=>rfl
theorem Vals.dropLast {xs:List V}{us:List Value}(h:Vals xs us):Vals xs.dropLast us.dropLast:=by
 induction h with
 | nil=>exact .nil
 | cons r t ih=>
   cases t with
   | nil=>exact .nil
   | cons q t'=>exact .cons r ih
theorem om {α:Type}(l:List α):l.eraseIdx (l.length - 1)=l.dropLast:=by
 induction l with
 | nil=>rfl
 | cons a r ih=>
   cases r with
   | nil=>rfl
   | cons b r=>
     have e:(a::b::r).length - 1=((b::r).length - 1) + 1:=by
      have h1:(a::b::r).length=r.length + 2:=rfl
      have h2:(b::r).length=r.length + 1:=rfl
      omega
     rw [e,List.eraseIdx_cons_succ,ih]
     all_goals rfl
section
variable {X:Cx}{pins:List (Addr×Obj)}{σ:St}{H:Hp}{s:Shared}{l b:Addr}{xs ys zs:List V}
theorem Inv.xb {its its':List Value}{n:Nat}{f:Array Value->Array Value}{t':Nat}(I:Inv X pins σ H s)(hH:H l=some (.lst xs))
 (e:s.heap.get? l=some {cls:=.type "list",data:=.seq its.toArray n}) (hf:f its.toArray=its'.toArray) (hv:Vals ys its') (hz:ys.length<=sizeLine):
 Inv X pins σ (upd H l (.lst ys)) {s with heap:=s.heap.update l (Obj.mapSeq f),toks:=t'}:=by
 have q:=PySem.IsL.update e f
 rw [hf] at q
 refine I.write (x:=l) (e:=l) (by rw [hH];exact trivial) (.inl rfl) (λb' u hb hu=>(Heap.get?_update_other s.heap (Obj.mapSeq f) (Ne.symm hb)).trans hu) ⟨_,q⟩ ?_
 exact ⟨hz,its',_,hv,q⟩
theorem Inv.xv (I:Inv X pins σ H s)(hH:H l=some (.lst xs)):xs.length<=sizeLine/\∃(its:List Value) (n:Nat),Vals xs its/\xs.length=its.length/\s.heap.get? l=some {cls:=.type "list",data:=.seq its.toArray n}:=by
 obtain ⟨z,its,n,r,e⟩:=I.hok l _ hH
 exact ⟨z,its,n,r,r.length,e⟩
end
section
variable {X:Cx}
def uK:V->List V->Hp->VK->Prop:=λx vs H Q=>∃l xs y,x= .ref l/\vs=[y]/\H l=some (.lst xs)/\xs.length < sizeLine/\Q .non (upd H l (.lst (xs++[y])))
theorem kQ:AD X "list.append" uK:=by
 intro pins s σ H x vs v us Q I rx rv h
 obtain ⟨l,xs,y,rfl,rfl,hH,hz,q⟩:=h
 cases rx
 obtain ⟨u,rfl,ru⟩:=rv.one
 obtain ⟨z,its,n,r,hl,e⟩:=I.xv hH
 refine call_meets F.slot_list_append ⟨_,e,rfl⟩ F.entry_list_append (F.args_list_append_2 _ _) (PySem.list_append l its.toArray n u (by rw [List.size_toArray];omega)) ⟨e,?_⟩
 refine ⟨.non,_,I.xb (its':=its++[u]) hH e (by simp) (r.append (.cons ru .nil)) ?_,rfl,q⟩
 rw [List.length_append,List.length_singleton]
 omega
def Bs:V->List V->Hp->VK->Prop:=λx vs H Q=>∃l xs y,x= .ref l/\vs=[]/\H l=some (.lst xs)/\xs[xs.length - 1]?=some y/\Q y (upd H l (.lst xs.dropLast))
theorem yK:AD X "list.pop" Bs:=by
 intro pins s σ H x vs v us Q I rx rv h
 obtain ⟨l,xs,y,rfl,rfl,hH,hy,q⟩:=h
 cases rx
 have hus:=rv.zero
 subst hus
 obtain ⟨z,its,n,r,hl,e⟩:=I.xv hH
 obtain ⟨u,hu,ru⟩:=r.get hy
 have hy':its.toArray[its.toArray.size - 1]?=some u:=by
  show its.toArray[its.length - 1]?=some u
  rw [← Array.getElem?_toList,← hl]
  exact hu
 refine call_meets F.slot_list_pop ⟨_,e,rfl⟩ F.entry_list_pop (F.args_list_pop_1 _) (MeetsSeq.list_pop_last l its.toArray n u hy' (by rw [List.size_toArray];omega)) ⟨e,?_⟩
 refine ⟨y,_,I.xb (its':=its.dropLast) hH e ?_ r.dropLast ?_,ru,q⟩
 ·show its.toArray.eraseIdxIfInBounds (its.toArray.size - 1)=its.dropLast.toArray
  rw [List.size_toArray,List.eraseIdxIfInBounds_toArray,om]
 ·rw [List.length_dropLast]
  omega
end
section
variable {prog:Program}{w:World}{A:Around}{E:Value->Shared->Prop}{s:Shared}
end
section
variable {X:Cx}
end
section
variable {κ:Type} [DecidableEq κ]
variable {kvs:List (κ×V)}{vs:List (κ×Value)}
def ej (kvs:List (κ×V))(k:κ):Option V:=(kvs.find? λkv=>decide (kv.1=k)).map (·.2)
def putK (kvs:List (κ×V))(k:κ)(v:V):List (κ×V):=
 if (kvs.any λkv=>decide (kv.1=k))=true then kvs.map (λkv=>if kv.1=k then (kv.1,v) else kv) else kvs++[(k,v)]
theorem jw {p:κ×V}{r:List (κ×V)}{k:κ}(e:p.1=k):ej (p::r) k=some p.2:=by simp [ej,List.find?_cons,e]
theorem ju {p:κ×V}{r:List (κ×V)}{k:κ}(e:¬p.1=k):ej (p::r) k=ej r k:=by simp [ej,List.find?_cons,e]
theorem mv (k:κ):∀kvs:List (κ×V),(kvs.any λkv=>decide (kv.1=k))=(ej kvs k).isSome
 | []=>rfl
 | p::r=>by
   rw [List.any_cons]
   by_cases e:p.1=k
   ·simp only [jw e,decide_eq_true e,Bool.true_or,Option.isSome_some]
   ·rw [ju e,decide_eq_false e,Bool.false_or];exact mv k r
theorem gB (kvs:List (κ×V))(k:κ)(v:V):(putK kvs k v).length<=kvs.length + 1:=by
 unfold putK
 split
 ·rw [List.length_map];omega
 ·rw [List.length_append,List.length_cons,List.length_nil];omega
theorem dW.iE {o:Option V}{u:Option Value}(r:dW o u):o.isSome=u.isSome:=by
 cases o with
 | none=>cases u with
   | none=>rfl
   | some _=>exact (show False from r).elim
 | some _=>cases u with
   | none=>exact (show False from r).elim
   | some _=>rfl
theorem dW.getD {o:Option V}{u:Option Value}{d:V}{d':Value}(r:dW o u)(rd:RelV d d'):RelV (o.getD d) (u.getD d'):=by
 cases o with
 | none=>cases u with
   | none=>exact rd
   | some _=>exact (show False from r).elim
 | some _=>cases u with
   | none=>exact (show False from r).elim
   | some _=>exact r
theorem KV.val (r:KV kvs vs)(k:κ):dW (ej kvs k) (valueAt vs k):=by
 unfold KV at r
 induction r with
 | nil=>exact True.intro
 | @cons p q ps qs h t ih=>
   obtain ⟨h1,h2⟩:=h
   by_cases e:p.1=k
   ·have e':q.1=k:=h1.symm.trans e
    have b:valueAt (q::qs) k=some q.2:=by simp [valueAt,List.find?_cons,e']
    rw [jw e,b];exact h2
   ·have e':¬q.1=k:=λz=>e (h1.trans z)
    have b:valueAt (q::qs) k=valueAt qs k:=by simp [valueAt,List.find?_cons,e']
    rw [ju e,b];exact ih
theorem KV.any (r:KV kvs vs)(k:κ):(kvs.any λkv=>decide (kv.1=k))=vs.any λkv=>decide (kv.1=k):=by
 unfold KV at r
 induction r with
 | nil=>rfl
 | cons h t ih=>rw [List.any_cons,List.any_cons,ih,h.1]
theorem KV.sf (r:KV kvs vs)(k:κ){y:V}{u:Value}(ry:RelV y u):
 KV (kvs.map λkv=>if kv.1=k then (kv.1,y) else kv) (vs.map λkv=>if kv.1=k then (kv.1,u) else kv):=by
 unfold KV at r ⊢
 induction r with
 | nil=>exact .nil
 | @cons p q ps qs h t ih=>
   rw [List.map_cons,List.map_cons]
   refine .cons ?_ ih
   obtain ⟨h1,h2⟩:=h
   by_cases e:p.1=k
   ·rw [if_pos e,if_pos (h1.symm.trans e)];exact ⟨h1,ry⟩
   ·rw [if_neg e,if_neg (λz=>e (h1.trans z))];exact ⟨h1,h2⟩
theorem KV.put (r:KV kvs vs)(k:κ){y:V}{u:Value}(ry:RelV y u):KV (putK kvs k y) (stored vs k u):=by
 unfold putK stored
 rw [r.any k]
 by_cases e:(vs.any λkv=>decide (kv.1=k))=true
 ·rw [if_pos e,if_pos e];exact r.sf k ry
 ·rw [if_neg e,if_neg e];exact Paired.snoc r ⟨rfl,ry⟩
theorem KV.length (r:KV kvs vs):kvs.length=vs.length:=Paired.length r
end
section
variable {H:Hp}{kvs:List (List Key×V)}{xs:List (List Key×Addr×Value)}{u:Value}
theorem fF {P:Program}{w:World}{k:Key}(r:RelV (kV k) u):(bw P w).is k u=true:=by
 cases k with
 | inl i=>obtain ⟨t,e⟩:=(show∃t,u=Value.int i t from r);subst e;exact mT P w i t
 | inr x=>obtain ⟨t,e⟩:=(show∃t,u=Value.str x t from r);subst e;exact ba P w x t
theorem kL {P:Program}{w:World}:∀{ks:List Key} {us:List Value},Vals (ks.map kV) us->ItemsAre (bw P w) ks us
 | [],_,r=>by rw [List.map_nil] at r;cases r;exact .nil
 | k::ks,_,r=>by
   rw [List.map_cons] at r
   cases r with
   | cons h t=>exact .cons (fF h) (kL t)
abbrev KT (H:Hp):List (List Key×V)->List (List Key×Addr×Value)->Prop:=Paired λp q=>p.1=q.1/\H q.2.1=some (.tup (p.1.map kV))/\RelV p.2 q.2.2
theorem KT.val (r:KT H kvs xs)(k:List Key):dW (ej kvs k) ((atKey xs k).map (·.2)):=by
 induction r with
 | nil=>exact True.intro
 | @cons p q ps qs h t ih=>
   obtain ⟨h1,_,h2⟩:=h
   by_cases e:p.1=k
   ·have e':q.1=k:=h1.symm.trans e
    have b:atKey (q::qs) k=some q.2:=by simp [atKey,List.find?_cons,e']
    rw [jw e,b];exact h2
   ·have e':¬q.1=k:=λz=>e (h1.trans z)
    have b:atKey (q::qs) k=atKey qs k:=by simp [atKey,List.find?_cons,e']
    rw [ju e,b];exact ih
theorem KT.sf (r:KT H kvs xs)(k:List Key){y:V}(ry:RelV y u):
 KT H (kvs.map λkv=>if kv.1=k then (kv.1,y) else kv) (xs.map (putAt k u)):=by
 induction r with
 | nil=>exact .nil
 | @cons p q ps qs h t ih=>
   rw [List.map_cons,List.map_cons]
   refine .cons ?_ ih
   obtain ⟨h1,h2,h3⟩:=h
   unfold putAt
   by_cases e:p.1=k
   ·rw [if_pos e,if_pos (h1.symm.trans e)];exact ⟨h1,h2,ry⟩
   ·rw [if_neg e,if_neg (λz=>e (h1.trans z))];exact ⟨h1,h2,h3⟩
theorem KT.put (r:KT H kvs xs)(k:List Key){b:Addr}{y:V}(hb:H b=some (.tup (k.map kV)))(ry:RelV y u):
 KT H (putK kvs k y) (storedH xs k b u):=by
 have e:(kvs.any λkv=>decide (kv.1=k))=(atKey xs k).isSome:=by
  rw [mv,(r.val k).iE,Option.isSome_map]
 unfold putK storedH
 rw [e]
 by_cases q:(atKey xs k).isSome=true
 ·rw [if_pos q,if_pos q];exact r.sf k ry
 ·rw [if_neg q,if_neg q];exact Paired.snoc r ⟨rfl,hb,ry⟩
theorem KT.keeps {H':Hp}(r:KT H kvs xs)(ht:∀b ys,H b=some (.tup ys)->H' b=some (.tup ys)):KT H' kvs xs:=
 Paired.rG r λ_ _ z=>⟨z.1,ht _ _ z.2.1,z.2.2⟩
end
section
variable {P:Program}{w:World}{H:Hp}{h:Heap}{a:Addr}
theorem ui {u:HO}(ok:bO P w H h)(e:Rd H a u):br P w H h a u:=e.ok ok
theorem i3 {kvs:List (Key×V)}(ok:bO P w H h)(e:Rd H a (.dK kvs)):kvs.length<=sizeLine/\(a==sysModules)=false/\∃vs,KV kvs vs/\h.DictOf (bw P w) a vs:=
 show br P w H h a (.dK kvs) from ui ok e
theorem oK {kvs:List (Key×V)}(ok:bO P w H h)(e:H a=some (.dK kvs)):kvs.length<=sizeLine/\(a==sysModules)=false/\∃vs,KV kvs vs/\h.DictOf (bw P w) a vs:=i3 ok (.inl e)
theorem iG {ks:List Key}(ok:bO P w H h)(e:H a=some (.tup (ks.map kV))):(tupleKind (bw P w)).is h ks a:=by
 obtain ⟨_,its,r,o,h1,h2,n,h3⟩:=(show br P w H h a (.tup (ks.map kV)) from ok a _ e)
 exact ⟨o,its.toArray,n,h1,h2,h3,by simpa using kL r⟩
theorem i4 {kvs:List (List Key×V)}(ok:bO P w H h)(e:Rd H a (.dT kvs)):kvs.length<=sizeLine/\(a==sysModules)=false/\
 ∃xs,KT H kvs xs/\h.DictOfH (tupleKind (bw P w)) a xs:=by
 obtain ⟨z,y,xs,r,o,es,ep,h1,h2,h3,h4,h5⟩:=(show br P w H h a (.dT kvs) from ui ok e)
 refine ⟨z,y,xs,r,o,es,ep,h1,h2,h3,h4,λx hx=>?_,h5⟩
 have all:∀{l:List (List Key×V)} {m:List (List Key×Addr×Value)},KT H l m->∀x∈m,(tupleKind (bw P w)).is h x.1 x.2.1:=by
  intro l m q
  induction q with
  | nil=>intro x hx;exact nomatch hx
  | @cons p q ps qs hq t ih=>
    intro x hx
    rcases List.mem_cons.mp hx with e | hx
    ·subst e
     exact iG ok (by rw [← hq.1];exact hq.2.1)
    ·exact ih x hx
 exact all r x hx
theorem z8 {kvs:List (List Key×V)}(ok:bO P w H h)(e:H a=some (.dT kvs)):kvs.length<=sizeLine/\(a==sysModules)=false/\
 ∃xs,KT H kvs xs/\h.DictOfH (tupleKind (bw P w)) a xs:=i4 ok (.inl e)
end
def eX (H:Hp)(a:Addr)(y:V)(r:Option V):Prop:=
 (∃kvs k,Rd H a (.dK kvs)/\y=kV k/\r=ej kvs k)∨∃kvs k b,Rd H a (.dT kvs)/\y= .ref b/\H b=some (.tup (k.map kV))/\r=ej kvs k
def me (H:Hp)(a:Addr)(y v:V)(H':Hp):Prop:=
 (∃kvs k,H a=some (.dK kvs)/\y=kV k/\kvs.length < sizeLine/\H'=upd H a (.dK (putK kvs k v)))∨
 ∃kvs k b,H a=some (.dT kvs)/\y= .ref b/\H b=some (.tup (k.map kV))/\kvs.length < sizeLine/\H'=upd H a (.dT (putK kvs k v))
theorem eX.k {H:Hp}{a:Addr}{kvs:List (Key×V)}{k:Key}(e:H a=some (.dK kvs)):eX H a (kV k) (ej kvs k):=.inl ⟨kvs,k,.inl e,rfl,rfl⟩
theorem me.k {H:Hp}{a:Addr}{kvs:List (Key×V)}{k:Key}{v:V}(e:H a=some (.dK kvs))(hl:kvs.length < sizeLine):me H a (kV k) v (upd H a (.dK (putK kvs k v))):=.inl ⟨kvs,k,e,rfl,hl,rfl⟩
section
variable {X:Cx}{pins:List (Addr×Obj)}{σ:St}{H:Hp}{s:Shared}{a:Addr}{y v:V}{u r:Value}{o:Option V}{A:Around}{E:Value->Shared->Prop}
theorem Inv.big (I:Inv X pins σ H s):sysModules < s.heap.objs.size:=by
 have h:mainGlobals < s.heap.objs.size:=(I.mod.glob.keeps I.bk).lt
 exact Nat.lt_trans (by decide) h
theorem pR {Q:Value->Shared->Prop}(hu:A.units + 1 < cLine)(I:Inv X pins σ H s)(g:eX H a y (some v))(ry:RelV y u)(h:∀w' s',Inv X pins σ H s'->RelV v w'->Q w' s'):
 wpAny (model X.prog X.w) A (getItem (.ref a) u) Q E s:=by
 rcases g with ⟨kvs,k,e,ey,l⟩ | ⟨kvs,k,b,e,ey,eb,l⟩
 ·subst ey
  obtain ⟨z,hd,vs,rel,dd⟩:=i3 I.hok e
  obtain ⟨w',hw,rw'⟩:=dW.some_of (v:=v) (o:=valueAt vs k) (by rw [l];exact rel.val k)
  exact wpAny_getItem_of (fF ry) dd.mapOf hw (h w' _ (I.tok _) rw')
 ·subst ey
  cases (show u=Value.ref b from ry)
  obtain ⟨z,hd,xs,rel,dd⟩:=i4 I.hok e
  obtain ⟨w',hw,rw'⟩:=dW.some_of (v:=v) (o:=(atKey xs k).map (·.2)) (by rw [l];exact rel.val k)
  obtain ⟨p,hp,hp2⟩:=Option.map_eq_some_iff.mp hw
  refine wpAny_getItem_heap (tupleKind_room_in1 hu) (iG I.hok eb) dd hp ?_
  rw [hp2]
  exact h w' _ (I.tok _) rw'
theorem vw {Q:Value->Shared->Prop}(hu:A.units + 1 < cLine)(I:Inv X pins σ H s)(g:eX H a y o)(ry:RelV y u)(h:∀s',Inv X pins σ H s'->Q (.bool (!o.isSome)) s'):
 wpAny (model X.prog X.w) A (compareOp .NotIn u (.ref a)) Q E s:=by
 rcases g with ⟨kvs,k,e,ey,l⟩ | ⟨kvs,k,b,e,ey,eb,l⟩
 ·subst ey
  obtain ⟨z,hd,vs,rel,dd⟩:=i3 I.hok e
  refine wpAny_notIn_of (fF ry) hd dd.mapOf ?_
  rw [← (rel.val k).iE,← l]
  exact h _ (I.tok _)
 ·subst ey
  cases (show u=Value.ref b from ry)
  obtain ⟨z,hd,xs,rel,dd⟩:=i4 I.hok e
  refine wpAny_notIn_heap (tupleKind_room_in1 hu) (iG I.hok eb) hd dd ?_
  have q:=(rel.val k).iE
  rw [Option.isSome_map] at q
  rw [← q,← l]
  exact h _ (I.tok _)
theorem km {h':Heap}{t':Nat}{ob:HO}(I:Inv X pins σ H s)(mu:rC (H a))(hs:Heap.SameBut a s.heap h')(he:∃q,h'.get? a=some q)(new:br X.prog X.w (upd H a ob) h' a ob):
 Inv X pins σ (upd H a ob) {s with heap:=h',toks:=t'}:=
 I.write (x:=a) (e:=a) mu (.inl rfl) (λb q hb z=>(hs.2 b hb).trans z) he new
theorem mm {P:Program}{w:World}{H':Hp}{h':Heap}{kvs:List (Key×V)}{vs:List (Key×Value)}(z:kvs.length<=sizeLine)(hd:(a==sysModules)=false)(rel:KV kvs vs)(dd:h'.DictOf (bw P w) a vs):
 br P w H' h' a (.dK kvs):=⟨z,hd,vs,rel,dd⟩
theorem pG {H':Hp}{Q:Unit->Shared->Prop}(hu:A.units + 1 < cLine)(I:Inv X pins σ H s)(g:me H a y v H')(ry:RelV y u)(rv:RelV v r)(h:∀s',Inv X pins σ H' s'->Q () s'):
 wpAny (model X.prog X.w) A (setItem (.ref a) u r) Q E s:=by
 rcases g with ⟨kvs,k,e,ey,l,eH⟩ | ⟨kvs,k,b,e,ey,eb,l,eH⟩
 ·subst ey eH
  obtain ⟨z,hd,vs,rel,dd⟩:=oK I.hok e
  have hz:vs.length<=sizeLine:=by rw [← rel.length];exact z
  have hl:(putK kvs k v).length<=sizeLine:=by have:=gB kvs k v;omega
  refine wpAny_setItem_pairs (hsz:=hz) (fF ry) dd λh' dd' hs=>h _ ?_
  have he:∃q,h'.get? a=some q:=let ⟨q,_,_,hq,_⟩:=dd';⟨q,hq⟩
  exact km I (by rw [e];exact True.intro) hs he (mm hl hd (rel.put k rv) dd')
 ·subst ey eH
  cases (show u=Value.ref b from ry)
  obtain ⟨z,hd,xs,rel,dd⟩:=z8 I.hok e
  have hz:xs.length<=sizeLine:=by rw [← Paired.length rel];exact z
  have hl:(putK kvs k v).length<=sizeLine:=by have:=gB kvs k v;omega
  refine wpAny_setItem_heap (hsz:=hz) (tupleKind_room_in1 hu) (iG I.hok eb) dd λh' dd' hs=>h _ ?_
  obtain ⟨q,es,ep,hq,h2,h3,h4,_,h5⟩:=dd'
  refine km I (by rw [e];exact True.intro) hs ⟨q,hq⟩ ⟨hl,hd,_,(rel.put k eb rv).keeps λc ys ec=>?_,q,es,ep,hq,h2,h3,h4,h5⟩
  rw [az (y8 ec e (λz=>nomatch z))]
  exact ec
end
section
variable {X:Cx}{pins:List (Addr×Obj)}{σ:St}{H:Hp}{s:Shared}{a:Addr}{kvs:List (Key×V)}{k:Key}{u:Value}{A:Around}{E:Value->Shared->Prop}
end
def lz (i:Expr):Prop:=∀ov iv,subscripted i false ov iv=operate [ov,iv] (getItem ov iv)
theorem nN {prog:Program}{w:World}{A:Around}{E:Value->Shared->Prop}{s:Shared}{env:Env}{value slice:Expr}{pos:Pos}{T id:String}{Q:Value->Shared->Prop}
 (hl:typeLookup (.type T) "__getitem__"=pure (some (.builtin id))) (hs:lz slice)
 (h:wpAny (model prog w) A (eval value env) (λo s₁=>wpAny (model prog w) A (eval slice env) (λi s₂=>s₂.TypeIs o T/\wpAny (model prog w) A (getItem o i) Q E s₂) E s₁) E s):
 wpAny (model prog w) A (eval (.Subscript value slice pos) env) Q E s:=by
 refine Subscript_ (wpAny_mono h (λo s₁ h₁=>wpAny_mono h₁ (λi s₂ h₂=>?_) λ_ _ x=>x) λ_ _ x=>x)
 obtain ⟨hT,h₂⟩:=h₂
 unfold subscriptTail
 refine wpAny_bind ?_
 rw [getitemInPython_of_ne hT.not_modules]
 refine wpAny_bind (wpAny_specialOf hT hl ?_)
 have fin:wpAny (model prog w) A (subscripted slice false o i) (λr s₃=>wpAny (model prog w) A (letTemporaryGo value o r >>=λ_=>pure r) Q E s₃) E s₂:=by
  rw [hs o i]
  exact wpAny_operating (wpAny_mono h₂ (λr s₃ h₃=>wpAny_bind (wpAny_letTemporaryGo (wpAny_pure h₃))) λ_ _ x=>x)
 first
  | exact wpAny_pure (wpAny_bind fin)
  | exact wpAny_bind (wpAny_pure (wpAny_bind fin))
  | exact wpAny_bind fin
theorem mJ {X:Cx}{pins:List (Addr×Obj)}{σ:St}{H:Hp}{s:Shared}{a:Addr}{y:V}{o:Option V}(I:Inv X pins σ H s)(g:eX H a y o):s.TypeIs (.ref a) "dict":=by
 rcases g with ⟨kvs,k,e,_,_⟩ | ⟨kvs,k,b,e,_,_,_⟩
 ·obtain ⟨_,_,vs,_,dd⟩:=i3 I.hok e
  exact dd.typeIs
 ·obtain ⟨_,_,xs,_,dd⟩:=i4 I.hok e
  exact dd.typeIs
def Af (td ty:TE):TE:=λσ H Q=>td σ H λx H1=>ty σ H1 λy H2=>∃a v,x= .ref a/\eX H2 a y (some v)/\Q v H2
def vB (ty td:TE):TE:=λσ H Q=>ty σ H λy H1=>td σ H1 λx H2=>∃a o,x= .ref a/\eX H2 a y o/\Q (.bl (!o.isSome)) H2
def z5 (td ty tv:TE):TS:=λD σ H=>tv σ H λv H1=>td σ H1 λx H2=>ty σ H2 λy H3=>∃a H4,x= .ref a/\me H3 a y v H4/\D.nx σ H4
section
variable {X:Cx}{o i e value:Expr}{pos pos' tpos:Pos}{td ty tv:TE}
theorem nr (hu:X.A.units + 1 < cLine)(ho:PE X o td)(hi:PE X i ty)(hs:lz i):PE X (.Subscript o i pos) (Af td ty):=by
 intro pins s σ H Q I h
 refine nN PySem.F.slot_dict_getitem.lookup hs (aI (ho pins s σ H _ I h) λu s1 ⟨x,H1,I1,rx,q1⟩=>aI (hi pins s1 σ H1 _ I1 q1) λiv s2 ⟨y,H2,I2,ry,a,v,ex,g,q2⟩=>?_)
 subst ex
 obtain rfl:u=Value.ref a:=rx
 exact ⟨mJ I2 g,pR hu I2 g ry λw' s3 I3 rw'=>⟨v,H2,I3,rw',q2⟩⟩
theorem rg (hu:X.A.units + 1 < cLine)(hi:PE X i ty)(ho:PE X o td):PC X .NotIn i o (vB ty td):=by
 intro pins s σ H Q I h
 refine aI (hi pins s σ H _ I h) λiv s1 ⟨y,H1,I1,ry,q1⟩=>aI (ho pins s1 σ H1 _ I1 q1) λu s2 ⟨x,H2,I2,rx,a,ov,ex,g,q2⟩=>?_
 subst ex
 obtain rfl:u=Value.ref a:=rx
 exact vw hu I2 g ry λs3 I3=>⟨.bl (!ov.isSome),H2,I3,rfl,q2⟩
theorem uR (hu:X.A.units + 1 < cLine)(ho:PE X o td)(hi:PE X i ty)(hv:PE X value tv)(hs:swapsWith value (some (.Subscript o i pos')) pos.line X.env=pure false):
 PS X (.Assign [.Subscript o i pos'] value pos) (z5 td ty tv):=by
 intro pins s σ H D I h
 refine wpAny_Assign_Subscript (aI (hv pins s σ H _ I h) λr s1 ⟨v,H1,I1,rv,q1⟩=>aI (ho pins s1 σ H1 _ I1 q1) λu s2 ⟨x,H2,I2,rx,q2⟩=>aI (hi pins s2 σ H2 _ I2 q2) λiv s3 ⟨y,H3,I3,ry,a,H4,ex,g,q3⟩=>?_) hs
 subst ex
 obtain rfl:u=Value.ref a:=rx
 exact pG hu I3 g ry rv λs4 I4=>⟨σ,H4,I4,q3⟩
end
theorem rR {P:Program}{w:World}{H:Hp}(h:Heap)(hb:sysModules < h.objs.size):br P w H (h.push {cls:=.type "dict",data:=.dict #[]}) h.objs.size (.dK []):=
 ⟨Nat.zero_le _,beq_eq_false_iff_ne.mpr (Ne.symm (Nat.ne_of_lt hb)),[],.nil,Heap.DictOf.new h⟩
section
variable {X:Cx}{pos:Pos}
end
section
variable {X:Cx}{pos:Pos}
def j2:List (TE×TE)->St->Hp->(List (V×V)->Hp->Prop)->Prop
 | [],_,H,Q=>Q [] H
 | (tk,tv)::r,σ,H,Q=>tk σ H λx H1=>tv σ H1 λy H2=>j2 r σ H2 λps H3=>Q ((x,y)::ps) H3
abbrev VV:List (V×V)->List (Value×Value)->Prop:=Paired λp q=>RelV p.1 q.1/\RelV p.2 q.2
def qF (X:Cx)(pos:Pos)(keys:List (Option Expr))(values:List Expr)(trs:List (TE×TE)):Prop:=
 ∀(pins:List (Addr×Obj)) (s:Shared) (σ:St) (H:Hp) (Q:List (V×V)->Hp->Prop),Inv X pins σ H s->j2 trs σ H Q->
  wpAny (model X.prog X.w) X.A (evalPairs (pairTrees keys values X.env pos)) (λvs s'=>∃ps H',Inv X pins σ H' s'/\VV ps vs/\Q ps H') X.xe s
theorem ve:qF X pos [] [] []:=λpins s σ H Q I h=>pairTrees_nil_walk ⟨[],H,I,.nil,h⟩
theorem sy {k v:Expr}{ks:List (Option Expr)}{vs:List Expr}{tk tv:TE}{trs:List (TE×TE)}(hk:PE X k tk)(hv:PE X v tv)(hr:qF X pos ks vs trs):
 qF X pos (some k::ks) (v::vs) ((tk,tv)::trs):=λpins s σ H Q I h=>
 pairTrees_cons_walk (aI (hk pins s σ H _ I h) λu s1 ⟨x,H1,I1,rx,q1⟩=>aI (hv pins s1 σ H1 _ I1 q1) λw2 s2 ⟨y,H2,I2,ry,q2⟩=>
  aI (hr pins s2 σ H2 _ I2 q2) λws s3 ⟨ps,H3,I3,rel,q3⟩=>⟨(x,y)::ps,H3,I3,.cons ⟨rx,ry⟩ rel,q3⟩)
def fX (kvs more:List (Key×V)):List (Key×V):=more.foldl (λacc kv=>putK acc kv.1 kv.2) kvs
theorem KV.merge:∀{more:List (Key×V)} {rs:List (Key×Value)} {kvs:List (Key×V)} {vs:List (Key×Value)},KV more rs->KV kvs vs->KV (fX kvs more) (merged vs rs):=by
 intro more rs kvs vs r
 unfold KV at r
 induction r generalizing kvs vs with
 | nil=>intro q;exact q
 | @cons p q ps qs h t ih=>
   intro r0
   have e:KV (putK kvs p.1 p.2) (stored vs q.1 q.2):=by
    have:=r0.put p.1 h.2
    rw [← h.1];exact this
   exact ih e
theorem ic:∀(more kvs:List (Key×V)),(fX kvs more).length<=kvs.length + more.length
 | [],kvs=>by show kvs.length<=kvs.length + 0;omega
 | p::r,kvs=>by
   have h1:=ic r (putK kvs p.1 p.2)
   have h2:=gB kvs p.1 p.2
   show (fX (putK kvs p.1 p.2) r).length<=_
   rw [List.length_cons];omega
theorem jL {P:Program}{w:World}:∀{kvs:List (Key×V)} {ws:List (Value×Value)},VV (kvs.map λkv=>(kV kv.1,kv.2)) ws->∃rs,Carries (bw P w) ws rs/\KV kvs rs
 | [],_,r=>by rw [List.map_nil] at r;cases r;exact ⟨[],True.intro,.nil⟩
 | p::kvs,_,r=>by
   rw [List.map_cons] at r
   cases r with
   | @cons a b as bs h t=>
     obtain ⟨rs,c,q⟩:=jL (P:=P) (w:=w) t
     obtain ⟨b1,b2⟩:=b
     exact ⟨(p.1,b2)::rs,⟨fF h.1,rfl,c⟩,.cons ⟨rfl,h.2⟩ q⟩
def zp (trs:List (TE×TE)):TE:=λσ H Q=>∀p,H p=none->j2 trs σ (upd H p (.dK [])) λps H2=>H2 p=some (.dK [])/\∃kvs:List (Key×V),ps=kvs.map (λkv=>(kV kv.1,kv.2))/\kvs.length<=15/\Q (.ref p) (upd H2 p (.dK (fX [] kvs)))
theorem vL {keys:List (Option Expr)}{values:List Expr}{trs:List (TE×TE)}(h:qF X pos keys values trs)(hall:keys.all (·.isSome)=true)(hl:keys.length=values.length)(h0:keys≠[])
 (h15:keys.length<=15):PE X (.Dict keys values pos) (zp trs):=by
 intro pins s σ H Q I q
 have hn:=I.hok.fresh (Nat.le_refl s.heap.objs.size)
 have I1:=I.laid (a:=s.heap.objs.size) (o:=.dK []) (h':=s.heap.push {cls:=.type "dict",data:=.dict #[]}) (t':=s.toks) (λ_ _ q=>Heap.get?_push_of_some _ q) (Nat.le_refl _) (rR s.heap I.big)
 refine wpAny_Dict_walk (knd:=bw X.prog X.w) hall hl h0 h15 (aI (h pins _ σ _ _ I1 (q _ hn)) λws s2 ⟨ps,H2,I2,rel,e,kvs,ep,lk,q2⟩=>?_)
 subst ep
 obtain ⟨rs,c,rk⟩:=jL (P:=X.prog) (w:=X.w) rel
 obtain ⟨z,hd,vs0,r0,dd⟩:=oK I2.hok e
 cases r0
 refine ⟨rs,c,dd,λh' dd' hs=>⟨.ref s.heap.objs.size,_,?_,rfl,q2⟩⟩
 have hz:(fX [] kvs).length<=sizeLine:=by
  have h1:=ic kvs []
  rw [List.length_nil] at h1
  rw [sizeLine_eq];omega
 have he:∃q,h'.get? s.heap.objs.size=some q:=let ⟨q,_,_,hq,_⟩:=dd';⟨q,hq⟩
 exact km I2 (by rw [e];exact True.intro) hs he (mm hz hd (rk.merge .nil) dd')
structure M2 (X:Cx) (o:Expr) (m:Str) (apos:Pos) (e f:Expr) (cpos:Pos):Prop where
 base:attributeBase o m X.env (eval o X.env)=eval o X.env
 few:((backTo cpos (starEach [e,f] X.env)).all (λx=> !x.1)&&(backToKw cpos (keywordEach [] X.env)).all (λx=>x.1.isSome)
  &&decide (([e,f]:List Expr).length + ([]:List Keyword).length + (if ([]:List Keyword).isEmpty then 0 else 1) < 30))=true
 line:(apos.endLine==cpos.line)=true
 trees:backTo cpos (starEach [e,f] X.env)=[(false,eval e X.env),(false,eval f X.env)]
def AL (H:Hp)(a:Addr):Prop:=(∃kvs,Rd H a (.dK kvs))∨∃kvs,Rd H a (.dT kvs)
theorem y4 {pins:List (Addr×Obj)}{σ:St}{H:Hp}{s:Shared}{a:Addr}(I:Inv X pins σ H s)(d:AL H a):
 s.TypeIs (.ref a) "dict"/\(∀b,Value.ref a= .ref b->∃ob,s.heap.get? b=some ob/\ob.dict=none)/\(a==sysModules)=false:=by
 rcases d with ⟨kvs,e⟩ | ⟨kvs,e⟩
 ·obtain ⟨_,hd,vs,_,dd⟩:=i3 I.hok e
  refine ⟨dd.typeIs,λb q=>?_,hd⟩
  cases q
  obtain ⟨ob,_,_,h1,h2,_⟩:=dd
  exact ⟨ob,h1,h2.2.1⟩
 ·obtain ⟨_,hd,xs,_,dd⟩:=i4 I.hok e
  refine ⟨dd.typeIs,λb q=>?_,hd⟩
  cases q
  obtain ⟨ob,_,_,h1,h2,_⟩:=dd
  exact ⟨ob,h1,h2.2.1⟩
end
section
variable {X:Cx}{pins:List (Addr×Obj)}{σ:St}{H:Hp}{s:Shared}{a:Addr}{y d:V}{u r:Value}{o:Option V}{A:Around}{E:Value->Shared->Prop}
theorem wy {Q:Value->Shared->Prop}(hu:A.units + 1 < cLine)(I:Inv X pins σ H s)(g:eX H a y o)(ry:RelV y u)(rd:RelV d r)(h:∀w' s',Inv X pins σ H s'->RelV (o.getD d) w'->Q w' s'):
 wpAny (model X.prog X.w) A (call (.builtin "dict.get") [.ref a,u,r]) Q E s:=by
 rcases g with ⟨kvs,k,e,ey,l⟩ | ⟨kvs,k,b,e,ey,eb,l⟩
 ·subst ey
  obtain ⟨z,hd,vs,rel,dd⟩:=i3 I.hok e
  refine call_meetsIn PySem.F.slot_dict_get dd.typeIs PySem.F.entry_dict_get (PySem.F.args_dict_get_3 _ _ _) (meets_dict_get_default (bw X.prog X.w) a (fF ry) hd r) ⟨_,dd.mapOf,h _ _ (I.tok _) ?_⟩
  rw [l]
  exact (rel.val k).getD rd
 ·subst ey
  cases (show u=Value.ref b from ry)
  obtain ⟨z,hd,xs,rel,dd⟩:=i4 I.hok e
  refine call_meetsIn PySem.F.slot_dict_get dd.typeIs PySem.F.entry_dict_get (PySem.F.args_dict_get_3 _ _ _) (meetsH_dict_get_default (tupleKind (bw X.prog X.w)) a b hd r) ⟨tupleKind_room_in1 hu,k,xs,iG I.hok eb,dd,h _ _ (I.tok _) ?_⟩
  rw [l]
  exact (rel.val k).getD rd
end
def xY (td ty tx:TE):TE:=λσ H Q=>td σ H λx H1=>∃a,x= .ref a/\AL H1 a/\ty σ H1 λy H2=>tx σ H2 λz H3=>∃o,eX H3 a y o/\Q (o.getD z) H3
section
variable {X:Cx}{o e f:Expr}{apos cpos:Pos}{td ty tx:TE}
theorem rX (hu:X.A.units + 1 < cLine)(ho:PE X o td)(he:PE X e ty)(hf:PE X f tx)(m:M2 X o "get" apos e f cpos):PE X (.Call (.Attribute o "get" apos) [e,f] [] cpos) (xY td ty tx):=by
 intro pins s σ H Q I h
 refine wpAny_Call_method m.base m.few m.line PySem.F.plainAttrs_dict PySem.F.slot_dict_get PySem.F.type_dict_get (aI (ho pins s σ H _ I h) λu s1 ⟨x,H1,I1,rx,a,ex,d,q1⟩=>?_)
 subst ex
 obtain rfl:u=Value.ref a:=rx
 obtain ⟨t1,t2,_⟩:=y4 I1 d
 refine ⟨t1,t2,?_⟩
 rw [m.trees]
 refine Calls.callWith_builtin rfl (Calls.evalArgs_plain (Calls.spliced_cons (aI (he pins s1 σ H1 _ I1 q1) λiv s2 ⟨y,H2,I2,ry,q2⟩=>
  Calls.spliced_cons (aI (hf pins s2 σ H2 _ I2 q2) λfv s3 ⟨z,H3,I3,rz,ov,g,q3⟩=>Calls.spliced_nil ?_))))
 exact wy hu I3 g ry rz λw' s4 I4 rw'=>⟨_,H3,I4,rw',q3⟩
end
section
variable {X:Cx}{pins:List (Addr×Obj)}{σ:St}{H:Hp}{s:Shared}{a:Addr}{kvs:List (Key×V)}{A:Around}{E:Value->Shared->Prop}
end
section
variable {X:Cx}{pins:List (Addr×Obj)}{σ:St}{H:Hp}{s:Shared}{a:Addr}{y:V}{u:Value}{A:Around}{E:Value->Shared->Prop}
end
end L2
namespace Att
open PySem PySem.W PySem.Calls PyProof.Rows
theorem jR {P:Params}{h:Heap}:∀(ns:List Int) (vs:List Value),WellAll P h vs (ns.map WData.int)->IntsAre vs ns:=by
 intro ns
 induction ns with
 | nil=>
   intro vs w
   rw [List.map_nil] at w
   cases w
   exact .nil
 | cons n ns ih=>
   intro vs w
   rw [List.map_cons] at w
   cases w with
   | cons a b=>
     cases a
     exact .cons _ _ (ih _ b)
theorem p8 {l:OpenLaw}{n:Nat}(hn:l.most=some n){P:Params}{h:Heap}{args:List WData}{vals:List Value}
 (hpre:l.row.toRowW.claim.pre args=true) (hwl:WellAll P h vals args):
 ∃a vs ns,vals=[Value.ref a]/\args=[WData.list (ns.map WData.int)]/\h.get? a=some {cls:=.type "list",data:=.seq vs.toArray}/\IntsAre vs ns/\ns.length<=n:=by
 have hsh:WShape.hasAll [] args [.list .int]=true:=(pre_splitW hpre).1
 have hc:l.pre.holds [] {args:=args}=true:=(pre_splitW hpre).2
 obtain ⟨d,r,rfl,h1,h2⟩:=hasAllW_cons hsh
 obtain rfl:=hasAllW_nil h2
 obtain ⟨xs,rfl,h3⟩:=hasW_list h1
 obtain ⟨ns,rfl⟩:=items_int h3
 have hlen:ns.length<=n:=by
  unfold OpenLaw.pre at hc
  have h4:(WTm.not (.lt (.lit (.int (n:Int))) (.len (.arg 0)))).holds [] {args:=[.list (ns.map .int)]}=true:=by
   have h4:=(holds_andW hc).1
   rw [hn] at h4
   exact h4
  have h5:=condW_of h4 (w_not (w_lt w_lit (w_len_list (w_arg rfl))))
  rw [List.length_map] at h5
  refine Nat.le_of_not_lt λq=>?_
  have q':(n:Int) < ((ns.length:Nat):Int):=by omega
  first
   | (rw [decide_eq_true q'] at h5;exact absurd h5 (by decide))
   | (simp at h5;omega)
 cases hwl with
 | cons w1 w2=>
   cases w2
   cases w1 with
   | list ho hall=>exact ⟨_,_,ns,rfl,rfl,ho,jR ns _ hall,hlen⟩
theorem qM (l:OpenLaw)(args:List WData):l.row.toRowW.claim.post args (.bool true) args=true:=
 postW_of (r:=l.row.toRowW) (X:=(true==true))
  (show WShape.has [] (.bool true) .bool=true by first | rfl | decide | simp [WShape.has,WShape.arms,WShape.armsAll])
  (show (WTm.eq .res (.lit (.bool true))).value [] {args:=args,res:=some (.bool true),after:=args}=some (.bool (true==true)) from w_eq_bool (w_res rfl) w_lit) rfl
section
variable {prog:Program}{w:World}{A:Around}{E:Value->Shared->Prop}{s:Shared}{K:Frag}
end
end Att
namespace L2
open PySem PySem.Spec PyProof.Rows
theorem iI:∀{vs:List Value} {ns:List Int},IntsAre vs ns->Vals (ns.map V.int) vs
 | _,_,.nil=>.nil
 | _,_,.cons n t h=>.cons ⟨t,rfl⟩ (iI h)
def rL (H:Hp):Prop:=∀b,H b=none∨∃o xs,H b=some (.frz o (.lst xs))
theorem tq {P:Program}{w:World}{K:PySem.W.Frag}{mg mb:Str->Option Value}{CX:gI}{k:Nat}{fa a:Addr}{fd:FuncData}{x:Str}{sp:Sp}{s₁:Shared}{vs:List Value}{ns:List Int}
 (KX:K.In s₁.heap) (hns:s₁.heap.Ns mainGlobals mg) (hb:s₁.heap.Ns builtinsNs mb) (hbb:∀x:Str,x≠"__name__"->mb x=bootBuiltins x) (hlim:s₁.heap.NoLimit) (hg:s₁.gens= #[])
 (ha:s₁.heap.get? a=some {cls:=.type "list",data:=.seq vs.toArray}) (hi:IntsAre vs ns) (hl:ns.length<=sizeLine) (hr:bg k callerA)
 (F:∀base:Heap,K.In base->base.Ns mainGlobals mg->cq P w K mg base CX k fa fd [x] sp) (hbind:∀(s:Shared) (u:Value),BindsTo s fd ⟨[u],[]⟩ [(x,u)])
 (hsp:∀H:Hp,rL H->bI K H a (ns.map V.int)->sp [.ref a] H (λv _=>v= .bl true) λ_ _ _=>False)
 (hCX:∀H e s',CX [] H s₁ (λ_ _ _=>False) e s'->False):
 codeAny (model P w) callerA (.call (.ref fa) ⟨[.ref a],[]⟩) (λr s'=>r= .ok (.ret (.bool true))/\OldK s₁.heap s'.heap/\s'.os=s₁.os/\AllBare s'.gens) s₁:=by
 have rv:=iI hi
 have lenV:=hi.length
 -- from an abstract heap in which nothing but the script may be tracked
 have core:∀H:Hp,rL H->bI K H a (ns.map V.int)->bO P w H s₁.heap->(∀b,H b≠none->b=a)->(H a≠none->K.lookup a=none)->
  codeAny (model P w) callerA (.call (.ref fa) ⟨[.ref a],[]⟩) (λr s'=>r= .ok (.ret (.bool true))/\OldK s₁.heap s'.heap/\s'.os=s₁.os/\AllBare s'.gens) s₁:=by
  intro H hO hS hok hA hK
  have base_of:∀{b:Addr} {o:Obj},s₁.heap.get? b=some o->H b=none->(hU s₁.heap H).get? b=some o:=λe n=>sF e n
  have noA:∀{b:Addr} {o:Obj} {es:Array DictEntry} {ep:Nat},s₁.heap.get? b=some o->o.data= .dict es ep->H b=none:=λ{b o es ep} e d=>by
   cases q:H b with
   | none=>rfl
   | some u=>
     have e':b=a:=hA b (by rw [q];simp)
     subst e'
     rw [ha] at e;cases e
     have d':Data.seq vs.toArray _=Data.dict es ep:=d
     cases d'
  have nsK:∀{b:Addr} {m:Str->Option Value},s₁.heap.Ns b m->(hU s₁.heap H).Ns b m:=λ{b m} ⟨o,es,ep,e,d,r⟩=>⟨o,es,ep,base_of e (noA e d),d,r⟩
  have hKb:K.In (hU s₁.heap H):=λb o e=>base_of (KX b o e) (by
   cases q:H b with
   | none=>rfl
   | some u=>
     have e':b=a:=hA b (by rw [q];simp)
     subst e'
     rw [hK (by rw [q];simp)] at e;cases e)
  have hM:Mod K mg (hU s₁.heap H):=⟨hKb,nsK hns,⟨mb,nsK hb,hbb⟩,let ⟨mc,h1,h2⟩:=hlim;⟨mc,nsK h1,h2⟩⟩
  have e0:jo P w K mg (hU s₁.heap H) callerA [] s₁ H:=⟨rfl,hM,λb o e=>uZ e,Nat.le_of_eq (qu _ _),trivial,λb hb=>absurd (show b∈([]:List Addr) from hb) (by simp),hok,.of_eq hg⟩
  refine codeAny_mono ((F _ hKb (nsK hns)).run callerA [] s₁ H ⟨[.ref a],[]⟩ [.ref a] [.ref a] _ _ hr e0 (hbind s₁ (.ref a)) (.cons rfl .nil) (hsp H hO hS)) λr s' h=>?_
  cases r with
  | error e=>exact (hCX H e s' h).elim
  | ok fl=>
    cases fl with
    | next=>exact False.elim h
    | brk=>exact False.elim h
    | cont=>exact False.elim h
    | ret u=>
      obtain ⟨v,H',os,bare,un,hok',r',q⟩:=h
      have q':v= .bl true:=q
      subst q'
      obtain rfl:u=Value.bool true:=r'
      refine ⟨rfl,OldK.of_keep λb o e=>?_,os,bare⟩
      cases q:H b with
      | none=>exact un.keep b o e q (by intro z;exact absurd (show b∈([]:List Addr) from z) (by simp)) (by simp)
      | some u=>
        rcases hO b with z | ⟨ob,xs,z⟩
        ·rw [q] at z;cases z
        ·have z2:=un.frzs b ob _ z
         obtain ⟨e1,_⟩:=hok b _ z
         obtain ⟨e2,_⟩:=hok' b _ z2
         rw [e] at e1;cases e1
         exact e2
 cases hk:K.lookup a with
 | some o=>
   -- the script is one of the module's own objects
   have e:=KX a o hk
   rw [ha] at e
   cases e
   refine core (λ_=>none) (λ_=>.inl rfl) (.inr ⟨_,vs.toArray,_,hk,rfl,rfl,rfl,by rw [List.size_toArray,lenV];exact hl,by simpa using rv⟩) (λb u z=>by have z':(none:Option HO)=some u:=z;cases z') (λb z=>absurd rfl z) λz=>absurd rfl z
 | none=>
   refine core (λb=>if b=a then some (.frz {cls:=.type "list",data:=.seq vs.toArray} (.lst (ns.map V.int))) else none) (λb=>?_) (.inl (.inr ⟨{cls:=.type "list",data:=.seq vs.toArray},if_pos rfl⟩)) (λb u z=>?_) (λb z=>?_) λ_=>hk
   ·by_cases hb:b=a
    ·exact .inr ⟨_,_,if_pos hb⟩
    ·exact .inl (if_neg hb)
   ·by_cases hb:b=a
    ·have z':=(if_pos hb).symm.trans z
     cases z'
     subst hb
     exact ⟨ha,by rw [List.length_map];exact hl,vs,_,rv,ha⟩
    ·have z':=(if_neg hb).symm.trans z
     cases z'
   ·by_cases hb:b=a
    ·exact hb
    ·exact absurd (if_neg hb) z
abbrev bu {K:PySem.W.Frag}{h:Heap}(_:K.In h):PySem.W.Frag:=K
def dv (s:Stmt):Arguments:=match s with
 | .FunctionDef _ a _ _ _ _ _ _ _ _=>a
 | _=>{posonlyargs:=[],args:=[],vararg:=none,kwonlyargs:=[],kw_defaults:=[],kwarg:=none,defaults:=[]}
def bz (s:Stmt):List Stmt:=match s with
 | .FunctionDef _ _ b _ _ _ _ _ _ _=>b
 | _=>[]
def aq (s:Stmt):Scope:=match s with
 | .FunctionDef _ _ _ _ _ _ sc _ _ _=>sc
 | _=>{kind:=.function,names:=[],isGenerator:=false,isCoroutine:=false}
abbrev cL:gI:=λ_ _ _ _ _ _=>False
abbrev E0:XK:=λ_ _ _=>False
theorem jP {X:Cx}:Passes cL X E0:=λ_ _ _ _ _ _ _ h=>h.elim
structure bL (K:PySem.W.Frag) (x qual:Str) (st:Stmt) (f:Addr) (fd:FuncData):Prop where
 ex:∃(oc:Value) (od:Option Addr) (kV doc pm:Value) (an:Option Addr) (cdv ct:Value) (osl:Array (Option Value)),
  fd=PySem.W.fnOf x qual (dv st) (bz st) (aq st) .none kV doc pm an cdv ct/\K.lookup f=some ⟨oc,od,.func fd,osl⟩/\PySem.W.codeIn K cdv qual=true
 kp:PySem.W.keepIn K (.ref f)=true
section
variable {P:Program}{w:World}{K:PySem.W.Frag}{mg:Str->Option Value}{base:Heap}
variable {x qual:Str}{st:Stmt}{f:Addr}
theorem bL.ok {fd:FuncData}{N ps:List Str}{k:Nat}{sp:Sp}(F:bL K x qual st f fd)(S:aR N ps (aq st))(len:∀vs H Q E,sp vs H Q E->vs.length=ps.length)
 (hbody:∀(cdv:Value) (A:Around) (outer:List Env) (s:Shared) (H:Hp) (vs:List V) (Q:VK) (E:XK),bg k (A.deeper (envOfC qual (aq st) s.heap.objs.size f cdv))->sp vs H Q E->
  ∃t,f7 (bA cL P w K mg base N qual (aq st) f cdv A outer s H E).cD (bz st) t/\t {nx:=λ_ H'=>Q .non H',rt:=Q} (start N vs) H):cq P w K mg base cL (k + 1) f fd ps sp:=by
 obtain ⟨oc,od,kV,doc,pm,an,cdv,ct,osl,rfl,lk,hcd⟩:=F.ex
 refine oY lk hcd S len λA outer s H vs Q E hr hsp=>?_
 obtain ⟨t,h,q⟩:=hbody cdv A outer s H vs Q E hr hsp
 exact ⟨t,h.cD,q⟩
theorem bL.binds {fd:FuncData}{ps:List Str}(F:bL K x qual st f fd)
 (h:∀(kV doc pm:Value) (an:Option Addr) (cdv ct:Value) (us:List Value),us.length=ps.length->bindArgs (PySem.W.fnOf x qual (dv st) (bz st) (aq st) .none kV doc pm an cdv ct) ⟨us,[]⟩=pure (ps.zip us)):Binds K fd ps []:=by
 obtain ⟨oc,od,kV,doc,pm,an,cdv,ct,osl,rfl,lk,hcd⟩:=F.ex
 exact .all (h kV doc pm an cdv ct)
theorem gg {oc:Value}{od an:Option Addr}{osl:Array (Option Value)}{kV doc pm cdv ct:Value}(l:K.lookup f=some ⟨oc,od,.func (PySem.W.fnOf x qual (dv st) (bz st) (aq st) .none kV doc pm an cdv ct),osl⟩)
 (c:PySem.W.codeIn K cdv qual=true) (k:PySem.W.keepIn K (.ref f)=true):bL K x qual st f (PySem.W.fnOf x qual (dv st) (bz st) (aq st) .none kV doc pm an cdv ct):=⟨⟨oc,od,kV,doc,pm,an,cdv,ct,osl,rfl,l,c⟩,k⟩
end
section
variable {X:Cx}
end
section
variable {H:Hp}
theorem iB {A B:Prop}(h:B):if false=true then A else B:=by
 rw [if_neg Bool.false_ne_true]
 exact h
theorem iw {A B:Prop}(h:A):if true=true then A else B:=by
 rw [if_pos rfl]
 exact h
def aj (H H':Hp):Prop:=∀b o,H b=some o->H' b=some o
theorem aj.refl (H:Hp):aj H H:=λ_ _ h=>h
theorem aj.trans {H1 H2:Hp}(a:aj H H1)(b:aj H1 H2):aj H H2:=λc o h=>b c o (a c o h)
theorem aj.free {H':Hp}(e:aj H H'){l:Addr}(h:H' l=Option.none):H l=Option.none:=by
 cases q:H l with
 | none=>rfl
 | some o=>
   rw [e l o q] at h
   cases h
theorem aj.seq {K:PySem.W.Frag}{H':Hp}{a:Addr}{xs:List V}(e:aj H H')(h:bI K H a xs):bI K H' a xs:=by
 rcases h with (h | ⟨o,h⟩) | h
 ·exact .inl (.inl (e _ _ h))
 ·exact .inl (.inr ⟨o,e _ _ h⟩)
 ·exact .inr h
end
section
variable {X:Cx}
end
section
variable {κ:Type} [DecidableEq κ]
end
end L2
set_option maxHeartbeats 4000000
namespace L2
open PySem PySem.Spec PyProof.Rows
section
variable {X:Cx}
variable {elt target iter:Expr}{ifs:List Expr}{scope:Scope}{pos:Pos}{s:Shared}{cl:List (Str×Addr)}{ix:List Nat}{wi:TI}{g:TG}{tc:TT}{te:TE}
def aO (X:Cx)(scope:Scope)(cl:List (Str×Addr))(C:Addr)(N':List Str)(s:Shared)(H:Hp)(ex:List Addr):Cx:=
 {X with N:=N',s₀:=s,H₀:=H,env:=compEnvC scope cl C X.env,outer:=X.stack,stack:=X.stack,ex:=ex,fn:=λ_=>false,pn:=[],xe:=λ_ _=>False}
def PF (X:Cx)(ifs:List Expr)(t:TT):Prop:=
 ∀(pins:List (Addr×Obj)) (s:Shared) (σ:St) (H:Hp) (Q:Bool->Hp->Prop),Inv X pins σ H s->t σ H Q->
  wpAny (model X.prog X.w) X.A (forIn ifs true λc r=>if r=true then do let ok ← isTrue c X.env (eval c X.env);pure (ForInStep.yield ok) else pure (ForInStep.yield r)) (TP X pins σ Q) X.xe s
def Bj:TT:=λ_ H Q=>Q true H
theorem yQ:PF X [] Bj:=by
 intro pins s σ H Q I h
 exact wpAny_pure ⟨H,I,h⟩
theorem yc {c:Expr}{t:TT}(hc:PT X c t):PF X [c] t:=by
 intro pins s σ H Q I h
 show wpAny _ _ (forIn [c] true λc r=>_) _ _ s
 rw [List.forIn_cons]
 simp only [if_true,List.forIn_nil]
 refine wpAny_bind (wpAny_bind (wpAny_mono (hc pins s σ H Q I h) (λb s1 h1=>?_) λ_ _ e=>e))
 exact wpAny_pure (wpAny_pure h1)
theorem lT {prog:Program}{w:World}{A:Around}{R:Result->Shared->Prop}{it acc:Value}{env:Env}(I:Nat->Shared->Prop)
 (turn:∀n s,I n s->wpAny (model prog w) A (pyNext it) (λr s₁=>match r with
  | none=>R (.ok .next) s₁
  | some v=>wpAny (model prog w) A (letOwnedTupleGo target it v) (λ_ s₁'=>wpAny (model prog w) A (assign target env v) (λ_ s₂=>
   wpAny (model prog w) A (forIn ifs true λc r=>if r=true then do let ok ← isTrue c env (eval c env);pure (ForInStep.yield ok) else pure (ForInStep.yield r)) (λok s₃=>
    if ok=true then wpAny (model prog w) A (eval elt env) (λx s₄=>
     wpAny (model prog w) A (call (.builtin "list.append") [acc,x]) (λ_ s₅=>∃m,m < n/\I m s₅) (λ_ _=>False) s₄) (λ_ _=>False) s₃
    else∃m,m < n/\I m s₃) (λ_ _=>False) s₂) (λ_ _=>False) s₁') (λ_ _=>False) s₁) (λ_ _=>False) s)
 (n:Nat) (h:I n s):
 codeAny (model prog w) A (.compLoop (.ListComp elt [⟨target,iter,ifs,0⟩] scope pos) 0 it acc env) R s:=by
 have no:∀{α:Type} {t:Sem α} {Q:α->Shared->Prop} {E:Value->Shared->Prop} {s:Shared},wpAny (model prog w) A t Q (λ_ _=>False) s->wpAny (model prog w) A t Q E s:=λh=>wpAny_mono h (λ_ _ q=>q) λ_ _ f=>f.elim
 refine codeAny_loop rfl I (λn s hI=>?_) n h
 show wpAny _ A ((compTurn (.ListComp elt [⟨target,iter,ifs,0⟩] scope pos) 0 it acc env).onRaise (λx=>do noteFrame x env;theTreesLotGoes x)) _ _ s
 refine wpAny_noted ?_
 rw [compTurn_list]
 refine wpAny_bind (wpAny_standAt (wpAny_bind (wpAny_mono (no (turn n s hI)) (λr s₁ h₁=>?_) λ_ _ h'=>h')))
 cases r with
 | none=>exact wpAny_pure h₁
 | some v=>
   refine wpAny_bind (wpAny_mono (no h₁) (λ_ s₁' h₁'=>?_) λ_ _ h'=>h')
   refine wpAny_bind (wpAny_mono (no h₁') (λ_ s₂ h₂=>wpAny_bind (wpAny_mono (no h₂) (λok s₃ h₃=>?_) λ_ _ h'=>h')) λ_ _ h'=>h')
   cases ok with
   | false=>exact wpAny_pure ⟨rfl,h₃⟩
   | true=>
     exact wpAny_bind (wpAny_bind (wpAny_mono (no h₃) (λx s₄ h₄=>wpAny_bind (wpAny_mono (no h₄) (λ_ s₅ h₅=>wpAny_pure (wpAny_pure ⟨rfl,h₅⟩)) λ_ _ h'=>h')) λ_ _ h'=>h'))
def o9 (wi:TI)(g:TG)(tc:TT)(te:TE)(z:St->St):TE:=λσ H Q=>wi σ H λJ H1=>
 ∃W:Nat->Nat->List V->St->Hp->Prop,(∃m,W 0 m [] (z σ) H1)/\∀i m ys σ' H',W i m ys σ' H'->
  ys.length<=sizeLine/\((J.stop i H'/\∀p,H' p=none->Q (.ref p) (upd H' p (.lst ys)))∨
  (J.go i H'/\∀x H2,J.yld i H' x H2->g x σ' H2 λσ2 H3=>tc σ2 H3 λb H4=>
    if b=true then te σ2 H4 λv H5=>∃m',m' < m/\W (i + 1) m' (ys++[v]) σ2 H5 else∃m',m' < m/\W (i + 1) m' ys σ2 H4))
structure cJ (X:Cx) (scope:Scope) (cl:List (Str×Addr)) (own fr:List Str) (ix:List Nat):Prop where
 clos:closureFor scope X.env=pure cl
 cells:∀x c,cl.lookup x=some c->X.env.cells.lookup x=some c
 kind:scope.kind= .function
 ncell:∀y∈scope.names,y.2≠ .cell
 names:∀y∈scope.names,y.2= .local->scope.names.lookup y.1=some .local
 has:∀x,scope.names.lookup x=some .free->∃c,cl.lookup x=some c
 frees:∀x∈fr,scope.names.lookup x=some .free
 len:fr.length=ix.length
 at_:∀(k:Nat) (i:Nat) (x:Str),ix[k]?=some i->fr[k]?=some x->X.N[i]?=some x/\X.env.kindOf x=some .cell
theorem eU {env:Env}:∀{names:List (Str×NameKind)} {x:Str} {k:NameKind},
 (names.map λ(n,k)=>if (k==NameKind.free&&env.scope.kind== .function&&env.kindOf n==some .cell) then (n,NameKind.cell) else (n,k)).lookup x=some k->
 ∃k',names.lookup x=some k'/\(k=k'∨(k'= .free/\k= .cell))
 | [],_,_,h=>by simp at h
 | (n,k)::r,x,kk,h=>by
   have ih:=@eU env r x kk
   replace h:List.lookup x ((if (k==NameKind.free&&env.scope.kind== .function&&env.kindOf n==some .cell)=true then (n,NameKind.cell) else (n,k))::_)=some kk:=h
   by_cases hc:(k==NameKind.free&&env.scope.kind== .function&&env.kindOf n==some .cell)=true
   ·rw [if_pos hc] at h
    cases hx:x==n with
    | true=>
      simp only [List.lookup_cons,hx,Option.some.injEq] at h ⊢
      have hk:k= .free:=by
       simp only [Bool.and_eq_true] at hc
       exact eq_of_beq hc.1.1
      exact ⟨k,rfl,.inr ⟨hk,h.symm⟩⟩
    | false=>
      simp only [List.lookup_cons,hx] at h ⊢
      exact ih h
   ·rw [if_neg hc] at h
    cases hx:x==n with
    | true=>
      simp only [List.lookup_cons,hx,Option.some.injEq] at h ⊢
      exact ⟨k,rfl,.inl h.symm⟩
    | false=>
      simp only [List.lookup_cons,hx] at h ⊢
      exact ih h
theorem iH {env:Env}(hf:env.scope.kind= .function):∀{names:List (Str×NameKind)} {x:Str},names.lookup x=some .free->env.kindOf x=some .cell->
 (names.map λ(n,k)=>if (k==NameKind.free&&env.scope.kind== .function&&env.kindOf n==some .cell) then (n,NameKind.cell) else (n,k)).lookup x=some .cell
 | [],_,h,_=>by simp at h
 | (n,k)::r,x,h,hk=>by
   have ih:=@iH env hf r x
   show List.lookup x ((if (k==NameKind.free&&env.scope.kind== .function&&env.kindOf n==some .cell)=true then (n,NameKind.cell) else (n,k))::_)=_
   cases hx:x==n with
   | true=>
     simp only [List.lookup_cons,hx,Option.some.injEq] at h
     have e:x=n:=eq_of_beq hx
     subst e
     subst h
     rw [if_pos (by rw [hf,hk];rfl)]
     simp [List.lookup_cons]
   | false=>
     simp only [List.lookup_cons,hx] at h
     split
     ·simp only [List.lookup_cons,hx];exact ih h hk
     ·simp only [List.lookup_cons,hx];exact ih h hk
def ee (own:List Str)(ix:List Nat)(σ:St):St:=List.replicate own.length none++ix.map λi=>(σ[i]?).join
structure Off (X:Cx) (pins:List (Addr×Obj)) (H:Hp) (s:Shared) (C:Addr):Prop where
 ns:∃m,s.heap.Ns C m
 free:H C=none
 ne:C≠X.env.locals
 young:X.s₀.heap.objs.size<=C
 cell:∀x c,X.env.cells.lookup x=some c->c≠C
 pin:∀p∈X.pn++pins,p.1≠C
theorem kZ {own fr:List Str}
 {use:Option (Value->Sem Unit)} {Qf:Value->Shared->Prop} {pins:List (Addr×Obj)} {σ:St} {H:Hp} {Q:VK}
 (hc:X.calm=true) (S:cJ X scope cl own fr ix) (hi:PI X target iter wi)
 (hb:∀(C:Addr) (s:Shared) (H:Hp) (ex:List Addr),PG (aO X scope cl C (own++fr) s H ex) target g/\PF (aO X scope cl C (own++fr) s H ex) ifs tc/\PE (aO X scope cl C (own++fr) s H ex) elt te)
 (hs:∀x,foldedSetIterable iter X.env x=pure x) (I:Inv X pins σ H s) (h:o9 wi g tc te (ee own ix) σ H Q)
 (hfin:∀(D C:Addr) (H6:Hp) (s6:Shared),Inv X pins σ H6 s6->Off X pins H6 s6 C->Q (.ref D) H6->compPost (model X.prog X.w) X.A X.xe use Qf (.ref D) C (.ok .next) s6):
 wpAny (model X.prog X.w) X.A (comprehension (.ListComp elt [⟨target,iter,ifs,0⟩] scope pos) scope X.env (firstIterPos [⟨target,iter,ifs,0⟩] pos) (newList []) false (eval iter X.env) use) Qf X.xe s:=by
 refine wpAny_comprehension_free (use:=use) rfl hs S.clos S.kind S.names ?_
 refine aI (hi pins s σ H _ I h) λv s1 h1=>aI h1 λitv s2 h2=>?_
 obtain ⟨it,fp,tn,J,H2,rfl,I2,T,st2,f2,W,⟨m0,w0⟩,turn⟩:=h2
 refine wpAny_newObj_type (wpAny_newFunctionEnv S.ncell (by intro y hy;simp at hy) (λh₁ hns₁ hsb₁=>?_) S.kind)
 dsimp only at hns₁ hsb₁ ⊢
 generalize hH3:s2.heap.push {cls:=.type "list",dict:=none,data:=.seq ([]:List Value).toArray}=h3 at hns₁ hsb₁ ⊢
 have hC:h3.objs.size=s2.heap.objs.size + 1:=by rw [← hH3,Heap.size_push]
 have to3:∀b o,s2.heap.get? b=some o->h3.get? b=some o:=λb o e=>by rw [← hH3];exact Heap.get?_push_of_some _ e
 have getD3:h3.get? s2.heap.objs.size=some {cls:=.type "list",data:=.seq ([]:List Value).toArray}:=by rw [← hH3];exact Heap.get?_push_size _ rfl
 have to1:∀b o,h3.get? b=some o->h₁.get? b=some o:=λb o e=>hsb₁.extBut b o (Nat.ne_of_lt (Heap.lt_size e)) (Heap.get?_push_of_some _ e)
 have frD:∀{b:Addr},b∈fp->b≠s2.heap.objs.size:=λ{b} hb z=>by
  obtain ⟨o,e,_⟩:=T.obj 0 _ st2 b hb
  exact absurd (Heap.lt_size e) (by rw [z];exact Nat.lt_irrefl _)
 have frC:∀{b:Addr},b∈fp->b≠h3.objs.size:=λ{b} hb z=>by
  obtain ⟨o,e,_⟩:=T.obj 0 _ st2 b hb
  exact absurd (Heap.lt_size e) (by rw [z,hC];exact Nat.not_lt.mpr (Nat.le_succ _))
 have HD2:H2 s2.heap.objs.size=none:=I2.hok.fresh (Nat.le_refl _)
 -- the block's context
 let X':Cx:=aO X scope cl h3.objs.size (own++fr) {s2 with heap:=h3} H2 (s2.heap.objs.size::fp)
 have ok':X'.Ok:=by
  refine ⟨I2.ok.mod,S.kind,I2.ok.glob,I2.ok.blt,Nat.le_refl _,λx y c e1 e2=>I2.ok.inj x y c (S.cells x c e1) (S.cells y c e2),λx hx=>?_,λx c z=>?_,I2.ok.hd,I2.ok.frames,.inl rfl,λb hb=>?_,λb o e=>?_,?_,λb o e hb=>?_,λb hb z=>?_,?_,I2.fM⟩
  ·have key:scope.names.lookup x=some .free:=by
    have hx:(relabel scope X.env).names.lookup x=some .cell∨(relabel scope X.env).names.lookup x=some .free:=hx
    rcases hx with hx | hx
    ·obtain ⟨k',e,z⟩:=eU hx
     rcases z with z | z
     ·subst z;exact absurd rfl (S.ncell _ (PySem.mem_of_lookup e))
     ·rw [e,z.1]
    ·obtain ⟨k',e,z⟩:=eU hx
     rcases z with z | z
     ·subst z;exact e
     ·cases z.2
   exact S.has x key
  ·cases z
  ·rcases List.mem_cons.mp hb with rfl | hb
   ·refine ⟨by rw [show X'.env.locals=h3.objs.size from rfl,hC];exact Nat.ne_of_lt (Nat.lt_succ_self _),λx c e z=>?_⟩
    obtain ⟨v',q⟩:=I2.cell x c (S.cells x c e)
    exact absurd q.lt (by rw [z];exact Nat.lt_irrefl _)
   ·exact ⟨frC hb,λx c e=>(f2 b hb).2.2.2.2.1 x c (S.cells x c e)⟩
  ·obtain ⟨e1,e2⟩:=I2.bs b o e
   exact ⟨to3 b o e1,e2⟩
  ·show X.base.objs.size<=h3.objs.size
   have:=I2.ok.bsz;have:=I2.sz
   omega
  ·rcases List.mem_cons.mp hb with rfl | hb
   ·exact absurd (Heap.lt_size (I2.bs _ o e).1) (Nat.lt_irrefl _)
   ·rcases (f2 b hb).2.2.2.1 with z | z
    ·exact I2.ok.noex b o e z
    ·exact absurd (Nat.lt_of_lt_of_le (Nat.lt_of_lt_of_le (Heap.lt_size e) I2.ok.bsz) z) (Nat.lt_irrefl _)
  ·replace z:b∈bo X.stack:=z
   rcases List.mem_cons.mp hb with rfl | hb
   ·obtain ⟨_,o,ho,_⟩:=I2.stack.mem z
    exact absurd (Heap.lt_size ho) (Nat.lt_irrefl _)
   ·rcases List.mem_cons.mp (I2.lF b z) with q | q
    ·exact (f2 b hb).2.1 q
    ·exact (f2 b hb).2.2.1 q
  ·exact I2.stack.of_keeps λb o e _=>⟨o,to3 b o e,rfl⟩
 have I4:Inv X' [] (ee own ix σ) H2 {s2 with heap:=h₁,toks:=s2.toks + ([]:List (Str×Value)).length}:=by
  refine ⟨ok',rfl,I2.bare,Un.kept to1,⟨_,hns₁,λi x v e1 e2 e3=>?_⟩,λx c e=>?_,I2.hok.fresh (by show s2.heap.objs.size<=h3.objs.size;rw [hC];exact Nat.le_succ _),λx c e=>I2.freeC x c (S.cells x c e),λp hp=>absurd (show p∈([]:List (Addr×Obj)) from hp) (by simp),I2.hok.kept λb o e=>to1 b o (to3 b o e),?_⟩
  ·replace e1:(own++fr)[i]?=some x:=e1
   unfold ee at e2
   by_cases hlt:i < own.length
   ·rw [List.getElem?_append_left (by simpa using hlt),List.getElem?_replicate] at e2
    split at e2<;>cases e2
   ·rw [List.getElem?_append_right (by simpa using hlt)] at e1 e2
    rw [List.length_replicate,List.getElem?_map] at e2
    cases ek:ix[i - own.length]? with
    | none=>rw [ek] at e2;cases e2
    | some j=>
      rw [ek] at e2
      obtain ⟨n1,n2⟩:=S.at_ _ j x ek e1
      have e2':σ[j]?=some (some v):=by
       have q:(σ[j]?).join=some v:=Option.some.inj e2
       cases es:σ[j]? with
       | none=>rw [es] at q;cases q
       | some o=>rw [es] at q;exact congrArg some q
      obtain ⟨m,hn,hl⟩:=I2.loc
      obtain ⟨u,r,l⟩:=hl j x v n1 e2' (.inr (.inl n2))
      refine ⟨u,r,?_⟩
      have hfr:scope.names.lookup x=some .free:=S.frees x (List.mem_of_getElem? e1)
      rcases l with ⟨k,_⟩ | ⟨_,c,hcl,z⟩
      ·rw [n2] at k;cases k
      ·obtain ⟨c',hc'⟩:=S.has x hfr
       have q:=S.cells x c' hc'
       rw [hcl] at q
       cases q
       obtain ⟨oc,ho,hd⟩:=z
       exact .inr ⟨.inl (iH I2.ok.kind hfr n2),c,hc',oc,to1 _ _ (to3 _ _ ho),hd⟩
  ·obtain ⟨v',oc,ho,hd⟩:=I2.cell x c (S.cells x c e)
   exact ⟨v',oc,to1 _ _ (to3 _ _ ho),hd⟩
  ·show (ee own ix σ).length=(own++fr).length
   unfold ee
   rw [List.length_append,List.length_append,List.length_replicate,List.length_map,S.len]
 obtain ⟨hg,hf,he⟩:=hb h3.objs.size {s2 with heap:=h3} H2 (s2.heap.objs.size::fp)
 have hg:PG X' target g:=hg
 have hf:PF X' ifs tc:=hf
 have he:PE X' elt te:=he
 have locX:X'.env.locals=h3.objs.size:=rfl
 -- D's place
 have Dne:s2.heap.objs.size≠X'.env.locals:=by rw [locX,hC];exact Nat.ne_of_lt (Nat.lt_succ_self _)
 have Dfs:s2.heap.objs.size∉X'.fs:=ok'.exfs _ (List.mem_cons_self ..)
 have Dcl:∀x c,X'.env.cells.lookup x=some c->c≠s2.heap.objs.size:=λx c e=>(ok'.exf _ (List.mem_cons_self ..)).2 x c e
 have fpX:∀{pl:List (Addr×Obj)} {H':Hp},(∀p∈pl,p.1=s2.heap.objs.size)->(∀b∈fp,H' b=none)->∀b∈fp,gf X' pl H' b:=λhp hn b hb=>
  ⟨hn b hb,frC hb,ok'.exfs b (List.mem_cons_of_mem _ hb),.inl (List.mem_cons_of_mem _ hb),(ok'.exf b (List.mem_cons_of_mem _ hb)).2,λp q=>by
   rw [hp p (by simpa [show X'.pn=[] from rfl] using q)];exact Ne.symm (frD hb)⟩
 have pinD:∀{σ':St} {H':Hp} {s':Shared} {o:Obj},Inv X' [] σ' H' s'->s'.heap.get? s2.heap.objs.size=some o->H' s2.heap.objs.size=none->(∀v,o.data≠ .cell v)->Inv X' [(s2.heap.objs.size,o)] σ' H' s':=λI e n d=>
  I.fQ λp hp=>by
    obtain rfl:=List.mem_singleton.mp hp
    exact ⟨e,n,Dne,Dfs,d⟩
 have loop:codeAny (model X.prog X.w) X.A (.compLoop (.ListComp elt [⟨target,iter,ifs,0⟩] scope pos) 0 (.ref it) (.ref s2.heap.objs.size) X'.env)
  (compPost (model X.prog X.w) X.A X.xe use Qf (.ref s2.heap.objs.size) h3.objs.size) {s2 with heap:=h₁,toks:=s2.toks + ([]:List (Str×Value)).length}:=by
  refine lT (λn s'=>∃i ys its k σ' H',Inv X' [] σ' H' s'/\tn i s'.heap/\(∀b∈fp,H' b=none)/\H' s2.heap.objs.size=none/\Vals ys its/\s'.heap.get? s2.heap.objs.size=some {cls:=.type "list",data:=.seq its.toArray k}/\W i n ys σ' H')
   ?_ m0 ⟨0,[],[],0,_,H2,I4,T.keep 0 _ _ st2 λb _ o e=>to1 b o (to3 b o e),λb hb'=>(f2 b hb').1,HD2,.nil,to1 _ _ getD3,w0⟩
  rintro n s5 ⟨i,ys,its,k,σ5,H5,I5,st5,fr5,hD5,vs5,get5,w5⟩
  obtain ⟨hlen,alt⟩:=turn i n ys σ5 H5 w5
  have P5:=pinD I5 get5 hD5 (λv z=>by cases z)
  have okp:∀p∈[(s2.heap.objs.size,({cls:=.type "list",data:=.seq its.toArray k}:Obj))],p.1=s2.heap.objs.size:=λp hp=>by
   rw [List.mem_singleton.mp hp]
  rcases alt with ⟨stop,q⟩ | ⟨go,step⟩
  ·refine aI (T.done X' rfl rfl rfl hc i _ s5 σ5 H5 _ P5 (fpX okp fr5) st5 stop) λr s6 ⟨hr,I6⟩=>?_
   subst hr
   obtain ⟨m6,hn6,_⟩:=I6.loc
   obtain ⟨get6,_,_,_,_⟩:=I6.pin (s2.heap.objs.size,({cls:=.type "list",data:=.seq its.toArray k}:Obj)) (List.mem_append_right _ (List.mem_singleton.mpr rfl))
   have toh:∀b o,b≠h3.objs.size->s6.heap.get? b=some o->s6.heap.get? b=some o:=λb o hb e=>e
   have exn:∀{b:Addr} {o:Obj},s2.heap.get? b=some o->b∉fp->b∉X'.ex:=λ{b o} e hb z=>by
    rcases List.mem_cons.mp z with z | z
    ·exact absurd (Heap.lt_size e) (by rw [z];exact Nat.lt_irrefl _)
    ·exact hb z
   have neC:∀{b:Addr} {o:Obj},s2.heap.get? b=some o->b≠h3.objs.size:=λ{b o} e z=>by
    have q1:=Heap.lt_size e
    rw [z,hC] at q1
    exact absurd q1 (Nat.not_lt.mpr (Nat.le_succ _))
   have neD:∀{b:Addr} {o:Obj},s2.heap.get? b=some o->b≠s2.heap.objs.size:=λ{b o} e=>Nat.ne_of_lt (Heap.lt_size e)
   have neD':∀{b:Addr} {o:HO},H2 b=some o->b≠s2.heap.objs.size:=λ{b o} e=>bZ e HD2
   have U:Un (bo X.stack) fp H2 (upd H5 s2.heap.objs.size (.lst ys)) s2.heap s6.heap:=by
    refine ⟨λb o e n hb hx=>?_,λb o e n hb hx=>?_,λb o e n hx=>?_,λb o e hx=>?_,λb xs e=>?_,λb o u e=>?_,λb ps e=>?_⟩
    ·exact toh b o (neC e) (I6.base.keep b o (to3 b o e) n hb (exn e hx))
    ·obtain ⟨sl,q1⟩:=I6.base.slot b o (to3 b o e) n hb (exn e hx)
     exact ⟨sl,toh b _ (neC e) q1⟩
    ·rw [az (neD e)]
     exact I6.base.free b o (to3 b o e) n (exn e hx)
    ·obtain ⟨o',q1⟩:=I6.base.there b o (to3 b o e) (exn e hx)
     exact ⟨o',toh b _ (neC e) q1⟩
    ·rw [az (neD' e)];exact I6.base.tups b xs e
    ·rw [az (neD' e)];exact I6.base.frzs b o u e
    ·rw [az (neD' e)];exact I6.base.tbls b ps e
   have HC:H5 h3.objs.size=none:=I6.free
   have hok:bO X.prog X.w (upd H5 s2.heap.objs.size (.lst ys)) s6.heap:=λb u e=>by
    by_cases hbD:b=s2.heap.objs.size
    ·subst hbD
     rw [aA] at e
     cases e
     exact ⟨hlen,its,k,vs5,toh _ _ (by rw [hC];exact Nat.ne_of_lt (Nat.lt_succ_self _)) get6⟩
    ·rw [az hbD] at e
     refine (I6.hok b u e).eP (λc o hco q1=>toh c o (λz=>?_) q1) (λc q1=>by rw [az (bZ q1 hD5)];exact q1) λc xs q1=>by rw [az (bZ q1 hD5)];exact q1
     rcases hco with hco | hco
     ·rw [← hco,z,HC] at e;cases e
     ·rw [z,HC] at hco;cases hco
   have fin:=I2.nU (s':=s6) (ch:=fp) I6.os U hok I6.bare λb hb'=>⟨(f2 b hb').2.2.2.1,(f2 b hb').2.1,(f2 b hb').2.2.2.2.1,(f2 b hb').2.2.2.2.2⟩
   refine hfin _ h3.objs.size _ s6 fin ⟨⟨m6,hn6⟩,?_,?_,?_,λx c e z=>?_,λp hp z=>?_⟩ (q _ hD5)
   ·rw [az (by rw [hC];exact Nat.ne_of_gt (Nat.lt_succ_self _))];exact HC
   ·intro z
    have:=I2.lt
    rw [← z,hC] at this
    exact absurd this (Nat.not_lt.mpr (Nat.le_succ _))
   ·rw [hC];exact Nat.le_trans I2.sz (Nat.le_succ _)
   ·obtain ⟨v',q1⟩:=I2.cell x c e
    have:=q1.lt
    rw [z,hC] at this
    exact absurd this (Nat.not_lt.mpr (Nat.le_succ _))
   ·have:=Heap.lt_size (I2.pin p hp).1
    rw [z,hC] at this
    exact absurd this (Nat.not_lt.mpr (Nat.le_succ _))
  ·refine aI (T.item X' rfl rfl rfl hc i _ s5 σ5 H5 _ P5 (fpX okp fr5) st5 go) λr s6 ⟨u,hr,h6⟩=>?_
   subst hr
   refine aI h6 λ_ s7 ⟨x,H7,I7,r7,y7,st7,fr7⟩=>?_
   have I7':=I7.pinned (fpX okp fr7) (T.obj _ _ st7)
   refine aI (hg _ s7 σ5 H7 x u _ I7' r7 (step x H7 y7)) λ_ s8 ⟨σ8,H8,I8,q8⟩=>?_
   refine aI (hf _ s8 σ8 H8 _ I8 q8) λb s9 ⟨H9,I9,q9⟩=>?_
   have out:∀{σ':St} {H':Hp} {s':Shared},Inv X' ([(s2.heap.objs.size,({cls:=.type "list",data:=.seq its.toArray k}:Obj))]++gP fp s7.heap) σ' H' s'->
    tn (i + 1) s'.heap/\(∀b∈fp,H' b=none)/\H' s2.heap.objs.size=none/\s'.heap.get? s2.heap.objs.size=some {cls:=.type "list",data:=.seq its.toArray k}:=λI'=>by
    refine ⟨T.keep _ _ _ st7 λb hb' o e=>(I'.pin (b,o) (List.mem_append_right _ (List.mem_append_right _ (fE hb' e)))).1,λb hb'=>?_,(I'.pin (s2.heap.objs.size,({cls:=.type "list",data:=.seq its.toArray k}:Obj)) (List.mem_append_right _ (List.mem_append_left _ (List.mem_singleton.mpr rfl)))).2.1,(I'.pin (s2.heap.objs.size,({cls:=.type "list",data:=.seq its.toArray k}:Obj)) (List.mem_append_right _ (List.mem_append_left _ (List.mem_singleton.mpr rfl)))).1⟩
    obtain ⟨o,e,d⟩:=T.obj _ _ st7 b hb'
    exact (I'.pin (b,o) (List.mem_append_right _ (List.mem_append_right _ (fE hb' e)))).2.1
   cases b with
   | false=>
     rw [if_neg Bool.false_ne_true] at q9 ⊢
     obtain ⟨m',hm,w'⟩:=q9
     obtain ⟨o1,o2,o3,o4⟩:=out I9
     exact ⟨m',hm,i + 1,ys,its,k,σ8,H9,I9.fQ (λ_ z=>nomatch z),o1,o2,o3,vs5,o4,w'⟩
   | true=>
     rw [if_pos rfl] at q9 ⊢
     refine aI (he _ s9 σ8 H9 _ I9 q9) λuv s10 ⟨v10,H10,I10,r10,q10⟩=>?_
     obtain ⟨m',hm,w'⟩:=q10
     obtain ⟨o1,o2,o3,o4⟩:=out I10
     refine wpAny_list_append_plain ⟨k,o4⟩ (λh' hpl hsb=>?_) (by
      have:=vs5.length
      rw [List.size_toArray,← this];exact hlen)
     obtain ⟨k',hk'⟩:=hpl
     have I11:Inv X' (gP fp s7.heap) σ8 H10 s10:=I10.fQ λp hp=>I10.pin p (List.mem_append_right _ (List.mem_append_right _ hp))
     have I12:Inv X' [] σ8 H10 {s10 with heap:=h'}:=(I10.fQ (λ_ z=>nomatch z):Inv X' [] σ8 H10 s10).turned (t':=s10.toks) (λb o hb' e=>hsb.extBut b o hb' e) o3 Dne (.inl (List.mem_cons_self ..)) Dcl (λp hp=>absurd (show p∈([]:List (Addr×Obj)) from hp) (by simp))
     refine ⟨m',hm,i + 1,ys++[v10],its++[uv],k',σ8,H10,I12,T.keep _ _ _ o1 λb hb' o e=>hsb.extBut b o (frD hb') e,o2,o3,vs5.append (.cons r10 .nil),?_,w'⟩
     show h'.get? _=_
     rw [hk']
     simp
 exact codeAny_compStart_list loop (T.self X.A 0 _ _ _ (T.keep 0 _ _ st2 λb _ o e=>to1 b o (to3 b o e)) loop)
theorem Off.gone {pins:List (Addr×Obj)}{σ:St}{H:Hp}{C:Addr}{h':Heap}(o:Off X pins H s C)(I:Inv X pins σ H s)(hsb:Heap.SameBut C s.heap h'):Inv X pins σ H {s with heap:=h'}:=
 I.turned (t':=s.toks) (λb u hb e=>hsb.extBut b u hb e) o.free o.ne (.inr o.young) o.cell o.pin
theorem mW {own fr:List Str}
 (hc:X.calm=true) (S:cJ X scope cl own fr ix) (hi:PI X target iter wi)
 (hb:∀(C:Addr) (s:Shared) (H:Hp) (ex:List Addr),PG (aO X scope cl C (own++fr) s H ex) target g/\PF (aO X scope cl C (own++fr) s H ex) ifs tc/\PE (aO X scope cl C (own++fr) s H ex) elt te)
 (hs:∀x,foldedSetIterable iter X.env x=pure x:=by intro _;rfl):
 PE X (.ListComp elt [⟨target,iter,ifs,0⟩] scope pos) (o9 wi g tc te (ee own ix)):=by
 intro pins s σ H Q I h
 rw [eval_ListComp]
 refine kZ (use:=none) hc S hi hb hs I h λD C H6 s6 I6 o6 q=>?_
 obtain ⟨m,hn⟩:=o6.ns
 exact ⟨m,hn,λh' hsb=>⟨.ref D,H6,o6.gone I6 hsb,rfl,q⟩⟩
theorem jJ {i:Nat}{y:Str}{py spos:Pos}{own fr:List Str}
 (hsw:swapsWith (.ListComp elt [⟨target,iter,ifs,0⟩] scope pos) (some (.Name y py)) spos.line X.env=pure true)
 (hN:X.N.Nodup) (hi':X.N[i]?=some y) (hx:Loc X.env.scope y)
 (hc:X.calm=true) (S:cJ X scope cl own fr ix) (hi:PI X target iter wi)
 (hb:∀(C:Addr) (s:Shared) (H:Hp) (ex:List Addr),PG (aO X scope cl C (own++fr) s H ex) target g/\PF (aO X scope cl C (own++fr) s H ex) ifs tc/\PE (aO X scope cl C (own++fr) s H ex) elt te)
 (hs:∀x,foldedSetIterable iter X.env x=pure x:=by intro _;rfl)
 (hf:X.fn y=true∨X.env.scope.names.lookup y=some .local:=by first | exact .inl rfl | exact .inr rfl | assumption):
 PS X (.Assign [.Name y py] (.ListComp elt [⟨target,iter,ifs,0⟩] scope pos) spos) (sg (o9 wi g tc te (ee own ix)) (pq i)):=by
 intro pins s σ H D I h
 rw [exec_Assign_Name_used _ _ _ _ hsw]
 refine wpAny_bind (wpAny_standAt (wpAny_bind ?_))
 show wpAny _ _ (do let _ ← comprehension (.ListComp elt [⟨target,iter,ifs,0⟩] scope pos) scope X.env _ (newList []) false (eval iter X.env) (some (assign (.Name y py) X.env))) _ _ s
 refine wpAny_bind (wpAny_mono (kZ (use:=some (assign (.Name y py) X.env)) (Qf:=λ_ s'=>SP X pins D .next s') hc S hi hb hs I h λA C H6 s6 I6 o6 q=>?_) (λ_ s' hq=>wpAny_pure (wpAny_pure hq)) λ_ _ e=>e)
 show wpAny _ _ (assign (.Name y py) X.env (.ref A)) _ _ _
 refine wpAny_assign_Name (kY I6 hN hi' hx (v:=.ref A) rfl (λs7 I7 hw=>?_) hf)
 obtain ⟨c,hsb7,hcc⟩:=hw
 have neC:C≠c:=by
  rcases hcc with rfl | hcc
  ·exact o6.ne
  ·exact Ne.symm (o6.cell y c hcc)
 obtain ⟨m,hn⟩:=o6.ns
 have o7:Off X pins H6 s7 C:=⟨⟨m,hn.sameBut hsb7 neC⟩,o6.free,o6.ne,o6.young,o6.cell,o6.pin⟩
 exact ⟨m,hn.sameBut hsb7 neC,λh' hsb=>⟨_,H6,o7.gone I7 hsb,q⟩⟩
end
end L2
namespace Fc
open PySem PySem.Spec L2
open PyProof.Rows hiding St
section
variable {X:Cx}
variable {e:Expr}{σ:St}{H:Hp}{t:TT}{Q:Bool->Hp->Prop}
def dj (X:Cx)(e:Expr):TE:=λσ H Q=>∀(pins:List (Addr×Obj)) (s:Shared),Inv X pins σ H s->wpAny (model X.prog X.w) X.A (eval e X.env) (EP X pins σ Q) X.xe s
def fW (X:Cx)(e:Expr):TT:=λσ H Q=>∀(pins:List (Addr×Obj)) (s:Shared),Inv X pins σ H s->wpAny (model X.prog X.w) X.A (isTrue e X.env (eval e X.env)) (TP X pins σ Q) X.xe s
def sv (X:Cx)(e:Expr):TT:=λσ H Q=>∀(whole:Sem Value) (pins:List (Addr×Obj)) (s:Shared),Inv X pins σ H s->wpAny (model X.prog X.w) X.A (isTrue e X.env whole) (TP X pins σ Q) X.xe s
def hG (X:Cx)(e:Expr):TG:=λv σ H Q=>∀(pins:List (Addr×Obj)) (s:Shared) (u:Value),Inv X pins σ H s->RelV v u->wpAny (model X.prog X.w) X.A (assign e X.env u) (λ_ s'=>∃σ' H',Inv X pins σ' H' s'/\Q σ' H') X.xe s
def jt (X:Cx)(st:Stmt):TS:=λD σ H=>∀(pins:List (Addr×Obj)) (s:Shared),Inv X pins σ H s->wpAny (model X.prog X.w) X.A (exec st X.env) (SP X pins D) X.xe s
def hJ (X:Cx)(st:List Stmt):TS:=λD σ H=>∀(pins:List (Addr×Obj)) (s:Shared),Inv X pins σ H s->wpAny (model X.prog X.w) X.A (execs st X.env) (SP X pins D) X.xe s
def iQ (X:Cx)(es:List Expr):TA:=λσ H Q=>∀(pos:Pos) (pins:List (Addr×Obj)) (s:Shared),Inv X pins σ H s->wpAny (model X.prog X.w) X.A (spliced (backTo pos (starEach es X.env))) (AP X pins σ Q) X.xe s
def iW (X:Cx)(ifs:List Expr):TT:=λσ H Q=>∀(pins:List (Addr×Obj)) (s:Shared),Inv X pins σ H s->
 wpAny (model X.prog X.w) X.A (forIn ifs true λc r=>if r=true then do let ok ← isTrue c X.env (eval c X.env);pure (ForInStep.yield ok) else pure (ForInStep.yield r)) (TP X pins σ Q) X.xe s
theorem aL:PE X e (dj X e):=λpins s _ _ _ I h=>h pins s I
theorem jC:PT X e (fW X e):=λpins s _ _ _ I h=>h pins s I
theorem yk:PW X e (sv X e):=λwh pins s _ _ _ I h=>h wh pins s I
theorem AQ:PG X e (hG X e):=λpins s _ _ _ u _ I r h=>h pins s u I r
theorem tG {e:Stmt}:PS X e (jt X e):=λpins s _ _ _ I h=>h pins s I
theorem eh {e:List Stmt}:f7 X e (hJ X e):=λpins s _ _ _ I h=>h pins s I
theorem gN {e:List Expr}:PA X e (iQ X e):=λpos pins s _ _ _ I h=>h pos pins s I
theorem eS {t:TE}(h:PE X e t){Q:VK}(q:t σ H Q):dj X e σ H Q:=λpins s I=>h pins s σ H Q I q
theorem tS (h:PT X e t)(q:t σ H Q):fW X e σ H Q:=λpins s I=>h pins s σ H Q I q
theorem wS (h:PW X e t)(q:t σ H Q):sv X e σ H Q:=λwh pins s I=>h wh pins s σ H Q I q
theorem gS {t:TG}(h:PG X e t){v:V}{Q:St->Hp->Prop}(q:t v σ H Q):hG X e v σ H Q:=λpins s u I r=>h pins s σ H v u Q I r q
theorem sS {e:Stmt}{t:TS}(h:PS X e t){D:Ends}(q:t D σ H):jt X e D σ H:=λpins s I=>h pins s σ H D I q
theorem nv {e:List Stmt}{t:TS}(h:f7 X e t){D:Ends}(q:t D σ H):hJ X e D σ H:=λpins s I=>h pins s σ H D I q
theorem aS {e:List Expr}{t:TA}(h:PA X e t){Q:List V->Hp->Prop}(q:t σ H Q):iQ X e σ H Q:=λpos pins s I=>h pos pins s σ H Q I q
theorem fS {e:List Expr}(h:PF X e t)(q:t σ H Q):iW X e σ H Q:=λpins s I=>h pins s σ H Q I q
end
section
variable {H R:Hp}{p:Addr}{α:Type}
theorem aj.fresh (h:H p=none)(o:HO):aj H (upd H p o):=λb u q=>by rw [az (bZ q h)];exact q
structure Rep (α:Type) where
 R:PySem.W.Frag->Hp->V->α->Prop
 mono:∀{K:PySem.W.Frag} {H H':Hp} {v:V} {x:α},aj H H'->R K H v x->R K H' v x
def ae:Rep Int:=⟨λ_ _ v x=>v= .int x,λ_ h=>h⟩
def bq:Rep Bool:=⟨λ_ _ v x=>v= .bl x,λ_ h=>h⟩
theorem Paired.map {β:Type}{F G:α->β->Prop}(f:∀a b,F a b->G a b):∀{l:List α} {m:List β},PySem.Paired F l m->PySem.Paired G l m
 | _,_,.nil=>.nil
 | _,_,.cons h t=>.cons (f _ _ h) (Paired.map f t)
def ai (r:Rep α):Rep (List α):=⟨λK H v xs=>∃a vs,v= .ref a/\H a=some (.lst vs)/\PySem.Paired (r.R K H) vs xs/\xs.length<=sizeLine,
 λs ⟨a,vs,e,q,p,z⟩=>⟨a,vs,e,s _ _ q,Paired.map (λ_ _=>r.mono s) p,z⟩⟩
def bV:Rep (List Int):=⟨λK H v xs=>∃a,v= .ref a/\bI K H a (xs.map V.int)/\xs.length<=63,λs ⟨a,e,q,z⟩=>⟨a,e,s.seq q,z⟩⟩
def i0 {β:Type}(r:Rep α)(r':Rep β):Rep (α×β):=⟨λK H v x=>∃a v1 v2,v= .ref a/\H a=some (.tup [v1,v2])/\r.R K H v1 x.1/\r'.R K H v2 x.2,
 λs ⟨a,v1,v2,e,q,h1,h2⟩=>⟨a,v1,v2,e,s _ _ q,r.mono s h1,r'.mono s h2⟩⟩
structure Ext (H R H' R':Hp):Prop where
 h:aj H H'
 r:aj R R'
 s:aj R' H'
 old:∀b,H b≠none->R' b=R b
theorem Ext.refl (s:aj R H):Ext H R H R:=⟨aj.refl _,aj.refl _,s,λ_ _=>rfl⟩
theorem aj.some {H':Hp}(s:aj H H'){b:Addr}(h:H b≠none):H' b≠none:=by
 cases q:H b with
 | none=>exact absurd q h
 | some o=>rw [s b o q];exact Option.some_ne_none o
theorem Ext.trans {H1 R1 H2 R2:Hp}(a:Ext H R H1 R1)(b:Ext H1 R1 H2 R2):Ext H R H2 R2:=
 ⟨a.h.trans b.h,a.r.trans b.r,b.s,λc hc=>(b.old c (aj.some a.h hc)).trans (a.old c hc)⟩
theorem Ext.fresh (s:aj R H)(h:H p=none)(o:HO):Ext H R (upd H p o) (upd R p o):=
 ⟨aj.fresh h o,aj.fresh (s.free h) o,λb u q=>by
  by_cases e:b=p
  ·subst e;rw [aA] at q ⊢;exact q
  ·rw [az e] at q ⊢;exact s b u q,λb hb=>az λe=>hb (e▸h)⟩
theorem Ext.dX (s:aj R H)(h:H p=none)(o:HO):Ext H R (upd H p o) R:=
 ⟨aj.fresh h o,aj.refl _,s.trans (aj.fresh h o),λ_ _=>rfl⟩
structure nE:Type 1 where
 fp:List Addr
 R:PySem.W.Frag->Hp->Hp->V->Prop
 loc:∀{K:PySem.W.Frag} {H R0 H' R':Hp} {v:V},(∀a∈fp,H' a=H a)->aj R0 R'->R K H R0 v->R K H' R' v
 has:∀{K:PySem.W.Frag} {H R0:Hp} {v:V},R K H R0 v->∀a∈fp,H a≠none
inductive Ent:Type 1
 | no
 | im {α:Type} (r:Rep α) (x:α)
 | mu {α:Type} (r:Rep α) (xs:List α)
 | di (kvs:List (Int×V))
 | ob (B:nE)
def A3 (kvs:List (Int×V)):List (Key×V):=kvs.map λp=>(Sum.inl p.1,p.2)
def Ent.ok (K:PySem.W.Frag)(H R:Hp):Ent->Option V->Prop
 | .no,_=>True
 | .im r x,o=>∃v,o=some v/\r.R K R v x
 | .mu r xs,o=>∃a vs,o=some (.ref a)/\H a=some (.lst vs)/\R a=none/\PySem.Paired (r.R K R) vs xs
 | .di kvs,o=>∃a,o=some (.ref a)/\H a=some (.dK (A3 kvs))/\R a=none
 | .ob B,o=>(∃v,o=some v/\B.R K H R v)/\∀a∈B.fp,R a=none
def Ent.own:Ent->Bool
 | .mu .. =>true
 | .di .. =>true
 | _=>false
def refOf:Option V->List Addr
 | some (.ref a)=>[a]
 | _=>[]
def Ent.fp:Ent->Option V->List Addr
 | .mu ..,o=>refOf o
 | .di ..,o=>refOf o
 | .ob B,_=>B.fp
 | _,_=>[]
abbrev Ga:=List Ent
structure aw (K:PySem.W.Frag) (σ:St) (H0 R0 H R:Hp) (Γ:Ga):Prop where
 ext:Ext H0 R0 H R
 ent:∀(i:Nat) (e:Ent),Γ[i]?=some e->e.ok K H R (σ[i]?).join
 nw:∀(i:Nat) (e:Ent) (a:Addr),Γ[i]?=some e->a∈e.fp (σ[i]?).join->H0 a=none
 ds:∀(i j:Nat) (e e':Ent) (a:Addr),Γ[i]?=some e->Γ[j]?=some e'->a∈e.fp (σ[i]?).join->a∈e'.fp (σ[j]?).join->i=j
 len:Γ.length=σ.length
end
section
variable {K:PySem.W.Frag}{σ:St}{H0 R0 H R H' R':Hp}{Γ:Ga}{α:Type}{r:Rep α}
variable {a:Addr}{o:Option V}{u:HO}{i:Nat}
theorem eC:a∈refOf o↔o=some (.ref a):=by
 unfold refOf
 split
 ·rw [List.mem_singleton];constructor
  ·rintro rfl;rfl
  ·intro e;cases e;rfl
 ·rename_i h
  constructor
  ·intro z;cases z
  ·intro e;exact absurd e (h a)
theorem Ent.jB {e:Ent}(w:e.own=true):a∈e.fp o↔o=some (.ref a):=by
 cases e with
 | no=>cases w
 | im r x=>cases w
 | mu r xs=>exact eC
 | di kvs=>exact eC
 | ob B=>cases w
theorem aw.new (E:aw K σ H0 R0 H R Γ)(i:Nat)(e:Ent)(a:Addr)(h:Γ[i]?=some e)(w:e.own=true)(ha:(σ[i]?).join=some (.ref a)):H0 a=none:=E.nw i e a h ((Ent.jB w).mpr ha)
theorem Ent.eE {e:Ent}(h:e.ok K H R o)(ha:a∈e.fp o):H a≠none/\R a=none:=by
 cases e with
 | no=>cases ha
 | im r x=>cases ha
 | mu r xs=>
   obtain ⟨b,vs,e,q,n,_⟩:=h
   rw [Ent.fp,eC,e] at ha
   cases ha
   exact ⟨by rw [q];exact Option.some_ne_none _,n⟩
 | di kvs=>
   obtain ⟨b,e,q,n⟩:=h
   rw [Ent.fp,eC,e] at ha
   cases ha
   exact ⟨by rw [q];exact Option.some_ne_none _,n⟩
 | ob B=>obtain ⟨⟨v,e,q⟩,n⟩:=h;exact ⟨B.has q a ha,n a ha⟩
theorem Ent.ok.loc {e:Ent}(h:e.ok K H R o)(hH:∀a∈e.fp o,H' a=H a)(hR:aj R R')(hn:∀a∈e.fp o,R' a=none):e.ok K H' R' o:=by
 cases e with
 | no=>trivial
 | im r y=>obtain ⟨v,e,q⟩:=h;exact ⟨v,e,r.mono hR q⟩
 | mu r xs=>
   obtain ⟨a,vs,e,q,n,p⟩:=h
   have ha:a∈Ent.fp (.mu r xs) o:=eC.mpr e
   exact ⟨a,vs,e,(hH a ha).trans q,hn a ha,Paired.map (λ_ _=>r.mono hR) p⟩
 | di kvs=>
   obtain ⟨a,e,q,n⟩:=h
   have ha:a∈Ent.fp (.di kvs) o:=eC.mpr e
   exact ⟨a,e,(hH a ha).trans q,hn a ha⟩
 | ob B=>obtain ⟨⟨v,e,q⟩,n⟩:=h;exact ⟨⟨v,e,B.loc hH hR q⟩,hn⟩
theorem Ent.ok.grow {e:Ent}(h:e.ok K H R o)(x:Ext H R H' R'):e.ok K H' R' o:=by
 refine h.loc (λa ha=>?_) x.r (λa ha=>?_)
 ·cases q:H a with
  | none=>exact absurd q (Ent.eE h ha).1
  | some u=>exact x.h _ _ q
 ·obtain ⟨h1,h2⟩:=Ent.eE h ha
  exact (x.old a h1).trans h2
theorem aw.grow (E:aw K σ H0 R0 H R Γ)(x:Ext H R H' R'):aw K σ H0 R0 H' R' Γ:=
 ⟨E.ext.trans x,λi e h=>(E.ent i e h).grow x,E.nw,E.ds,E.len⟩
theorem aw.sub (E:aw K σ H0 R0 H R Γ):aj R H:=E.ext.s
def Off (a:Addr)(σ:St)(Γ:Ga):Prop:=∀(i:Nat) (e:Ent),Γ[i]?=some e->a∉e.fp (σ[i]?).join
theorem aw.off (E:aw K σ H0 R0 H R Γ)(h:H a=none):Off a σ Γ:=λi e q w=>(Ent.eE (E.ent i e q) w).1 h
theorem set_at.{v}{β:Type v}{l:List β}{i:Nat}{y:β}{j:Nat}{e:β}(q:(l.set i y)[j]?=some e):(j=i/\e=y/\i < l.length)∨(j≠i/\l[j]?=some e):=by
 by_cases hj:j=i
 ·subst hj
  have hl:j < l.length:=by
   have:=List.getElem?_eq_some_iff.mp q
   simpa using this.1
  rw [List.getElem?_set_self hl] at q
  exact .inl ⟨rfl,(Option.some.inj q).symm,hl⟩
 ·rw [List.getElem?_set_ne (Ne.symm hj)] at q
  exact .inr ⟨hj,q⟩
theorem aw.setG (E:aw K σ H0 R0 H R Γ)(i:Nat){v:V}{en:Ent}(ho:en.ok K H R (some v))(h0:∀a∈en.fp (some v),H0 a=none)(hf:∀a∈en.fp (some v),∀(j:Nat) (e:Ent),j≠i->Γ[j]?=some e->a∉e.fp (σ[j]?).join):
 aw K (σ.set i (some v)) H0 R0 H R (Γ.set i en):=by
 have key:∀(j:Nat) (e:Ent),(Γ.set i en)[j]?=some e->(j=i/\e=en/\((σ.set i (some v))[j]?).join=some v)∨(j≠i/\Γ[j]?=some e/\(σ.set i (some v))[j]?=σ[j]?):=λj e q=>by
  rcases set_at q with ⟨rfl,rfl,hl⟩ | ⟨hj,q⟩
  ·exact .inl ⟨rfl,rfl,by rw [List.getElem?_set_self (by rw [← E.len];exact hl)];rfl⟩
  ·exact .inr ⟨hj,q,List.getElem?_set_ne (Ne.symm hj)⟩
 refine ⟨E.ext,λj e q=>?_,λj e a q w=>?_,λj k e e' a q q' w w'=>?_,by rw [List.length_set,List.length_set];exact E.len⟩
 ·rcases key j e q with ⟨_,rfl,q2⟩ | ⟨_,q1,q2⟩
  ·rw [q2];exact ho
  ·rw [q2];exact E.ent j e q1
 ·rcases key j e q with ⟨_,rfl,q2⟩ | ⟨_,q1,q2⟩
  ·rw [q2] at w;exact h0 a w
  ·rw [q2] at w;exact E.nw j e a q1 w
 ·rcases key j e q with ⟨hj,rfl,q2⟩ | ⟨hj,q1,q2⟩
  ·rcases key k e' q' with ⟨hk,rfl,q2'⟩ | ⟨hk,q1',q2'⟩
   ·rw [hj,hk]
   ·rw [q2] at w;rw [q2'] at w';exact absurd w' (hf a w k e' hk q1')
  ·rcases key k e' q' with ⟨hk,rfl,q2'⟩ | ⟨hk,q1',q2'⟩
   ·rw [q2] at w;rw [q2'] at w';exact absurd w (hf a w' j e hj q1)
   ·rw [q2] at w;rw [q2'] at w';exact E.ds j k e e' a q1 q1' w w'
theorem aw.set (E:aw K σ H0 R0 H R Γ)(i:Nat){v:V}{x:α}(h:r.R K R v x):aw K (σ.set i (some v)) H0 R0 H R (Γ.set i (.im r x)):=
 E.setG i ⟨v,rfl,h⟩ (λa w=>by cases w) λa w=>by cases w
theorem aw.si (E:aw K σ H0 R0 H R Γ)(i:Nat){u:HO}{en:Ent}(ho:en.ok K H R (some (.ref a)))(h0:H0 a=none)(hf:∀(j:Nat) (e:Ent),j≠i->Γ[j]?=some e->a∉e.fp (σ[j]?).join)(hfp:en.fp (some (.ref a))=[a]:=by rfl):
 aw K (σ.set i (some (.ref a))) H0 R0 H R (Γ.set i en):=
 E.setG i ho (λb w=>by rw [hfp,List.mem_singleton] at w;rw [w];exact h0) λb w=>by rw [hfp,List.mem_singleton] at w;rw [w];exact hf
theorem aw.xU (E:aw K σ H0 R0 H R Γ){e0 en:Ent}(hi:Γ[i]?=some e0)(ha:a∈e0.fp (σ[i]?).join)(ho:en.ok K (L2.upd H a u) R (σ[i]?).join)
 (hsub:∀b∈en.fp (σ[i]?).join,b∈e0.fp (σ[i]?).join∨(H0 b=none/\Off b σ Γ)):aw K σ H0 R0 (L2.upd H a u) R (Γ.set i en):=by
 have h0:H0 a=none:=E.nw i e0 a hi ha
 have hR:R a=none:=(Ent.eE (E.ent i e0 hi) ha).2
 refine ⟨⟨λb o q=>?_,E.ext.r,λb o q=>?_,E.ext.old⟩,λj e q=>?_,λj e b q w=>?_,λj k e e' b q q' w w'=>?_,by rw [List.length_set];exact E.len⟩
 ·rw [az (bZ q h0)];exact E.ext.h b o q
 ·rw [az (bZ q hR)];exact E.ext.s b o q
 ·rcases set_at q with ⟨rfl,rfl,_⟩ | ⟨hj,q1⟩
  ·exact ho
  ·refine (E.ent j e q1).loc (λb hb=>az λz=>hj ?_) (aj.refl _) λb hb=>(Ent.eE (E.ent j e q1) hb).2
   rw [z] at hb
   exact E.ds j i e e0 a q1 hi hb ha
 ·rcases set_at q with ⟨rfl,rfl,_⟩ | ⟨hj,q1⟩
  ·rcases hsub b w with z | z
   ·exact E.nw _ _ b hi z
   ·exact z.1
  ·exact E.nw j e b q1 w
 ·rcases set_at q with ⟨rfl,rfl,_⟩ | ⟨hj,q1⟩
  ·rcases set_at q' with ⟨rfl,rfl,_⟩ | ⟨hk,q1'⟩
   ·rfl
   ·rcases hsub b w with z | z
    ·exact E.ds _ _ _ _ b hi q1' z w'
    ·exact absurd w' (z.2 k e' q1')
  ·rcases set_at q' with ⟨rfl,rfl,_⟩ | ⟨hk,q1'⟩
   ·rcases hsub b w' with z | z
    ·exact E.ds _ _ _ _ b q1 hi w z
    ·exact absurd w (z.2 j e q1)
   ·exact E.ds _ _ _ _ b q1 q1' w w'
theorem aw.upd (E:aw K σ H0 R0 H R Γ){e0 en:Ent}(hi:Γ[i]?=some e0)(w0:e0.own=true)(ha:(σ[i]?).join=some (.ref a))(hR:R a=none)(ho:en.ok K (L2.upd H a u) R (some (.ref a)))(hfp:en.fp (some (.ref a))=[a]:=by rfl):
 aw K σ H0 R0 (L2.upd H a u) R (Γ.set i en):=
 E.xU hi ((Ent.jB w0).mpr ha) (by rw [ha];exact ho) λb w=>.inl (by rw [ha,hfp,List.mem_singleton] at w;rw [w];exact (Ent.jB w0).mpr ha)
theorem aw.lq (E:aw K σ H0 R0 H R Γ)(ha:H a=some u)(hR:R a=none)(h0:H0 a=none)(off:Off a σ Γ):aw K σ H0 R0 H (L2.upd R a u) Γ:=by
 have s2:aj R (L2.upd R a u):=aj.fresh hR _
 refine ⟨⟨E.ext.h,E.ext.r.trans s2,λb o qb=>?_,λb hb=>?_⟩,λi e qe=>?_,E.nw,E.ds,E.len⟩
 ·by_cases hb:b=a
  ·subst hb;rw [aA] at qb;cases qb;exact ha
  ·rw [az hb] at qb;exact E.ext.s b o qb
 ·rw [az (show b≠a from λe=>hb (by rw [e];exact h0))];exact E.ext.old b hb
 ·refine (E.ent i e qe).loc (λ_ _=>rfl) s2 λb hb=>?_
  rw [az (show b≠a from λz=>off i e qe (z▸hb))]
  exact (Ent.eE (E.ent i e qe) hb).2
theorem aw.tell (E:aw K σ H0 R0 H R Γ){e0 en:Ent}(hi:Γ[i]?=some e0)(ho:en.ok K H R (σ[i]?).join)(hsub:∀b∈en.fp (σ[i]?).join,b∈e0.fp (σ[i]?).join):aw K σ H0 R0 H R (Γ.set i en):=by
 refine ⟨E.ext,λj e q=>?_,λj e b q w=>?_,λj k e e' b q q' w w'=>?_,by rw [List.length_set];exact E.len⟩
 ·rcases set_at q with ⟨rfl,rfl,_⟩ | ⟨hj,q1⟩
  ·exact ho
  ·exact E.ent j e q1
 ·rcases set_at q with ⟨rfl,rfl,_⟩ | ⟨hj,q1⟩
  ·exact E.nw _ _ b hi (hsub b w)
  ·exact E.nw j e b q1 w
 ·rcases set_at q with ⟨rfl,rfl,_⟩ | ⟨hj,q1⟩
  ·rcases set_at q' with ⟨rfl,rfl,_⟩ | ⟨hk,q1'⟩
   ·rfl
   ·exact E.ds _ _ _ _ b hi q1' (hsub b w) w'
  ·rcases set_at q' with ⟨rfl,rfl,_⟩ | ⟨hk,q1'⟩
   ·exact E.ds _ _ _ _ b q1 hi w (hsub b w')
   ·exact E.ds _ _ _ _ b q1 q1' w w'
def Wk:Ga->Ga->Prop
 | [],[]=>True
 | e::r,e'::r'=>(e'=e∨e'= .no)/\Wk r r'
 | _,_=>False
theorem Wk.len:∀{Γ Γ':Ga},Wk Γ Γ'->Γ'.length=Γ.length
 | [],[],_=>rfl
 | _::_,_::_,h=>by rw [List.length_cons,List.length_cons,Wk.len h.2]
theorem Wk.at:∀{Γ Γ':Ga},Wk Γ Γ'->∀(i:Nat) (e:Ent),Γ'[i]?=some e->e= .no∨Γ[i]?=some e
 | [],[],_,i,e,q=>by simp at q
 | a::_,b::_,h,0,e,q=>by
   simp at q
   rcases h.1 with z | z
   ·right;simp [← q,z]
   ·left;rw [← q,z]
 | a::r,b::r',h,i + 1,e,q=>by
   simp at q
   have:=Wk.at h.2 i e q
   simpa using this
theorem Wk.refl:∀Γ:Ga,Wk Γ Γ
 | []=>trivial
 | _::r=>⟨.inl rfl,Wk.refl r⟩
theorem aw.weak (E:aw K σ H0 R0 H R Γ){Γ':Ga}(w:Wk Γ Γ'):aw K σ H0 R0 H R Γ':=by
 refine ⟨E.ext,λi e q=>?_,λi e a q z=>?_,λi j e e' a q q' z z'=>?_,w.len.trans E.len⟩
 ·rcases w.at i e q with rfl | q
  ·trivial
  ·exact E.ent i e q
 ·rcases w.at i e q with rfl | q
  ·cases z
  ·exact E.nw i e a q z
 ·rcases w.at i e q with rfl | q
  ·cases z
  ·rcases w.at j e' q' with rfl | q'
   ·cases z'
   ·exact E.ds i j e e' a q q' z z'
end
section
variable {X:Cx}{Γ Γ1 Γ2 Γ3:Ga}{α β γ:Type}
variable {pos:Pos}{e:Expr}{r:Rep α}
def EV (X:Cx)(e:Expr)(Γ:Ga){α:Type}(r:Rep α)(y:α)(Γ':Ga):Prop:=
 ∀(σ:St) (H0 R0 H R:Hp),aw X.K σ H0 R0 H R Γ->∀Q:VK,(∀v H' R',aw X.K σ H0 R0 H' R' Γ'->aj R R'->r.R X.K R' v y->Q v H')->dj X e σ H Q
def bW (X:Cx)(e:Expr)(Γ:Ga){α:Type}(r:Rep α)(ys:List α)(Γ':Ga):Prop:=
 ∀(σ:St) (H0 R0 H R:Hp),aw X.K σ H0 R0 H R Γ->∀Q:VK,(∀a vs H' R',aw X.K σ H0 R0 H' R' Γ'->aj R R'->H' a=some (.lst vs)->R' a=none->H0 a=none->Off a σ Γ'->PySem.Paired (r.R X.K R') vs ys->ys.length<=sizeLine->Q (.ref a) H')->dj X e σ H Q
def TV (X:Cx)(e:Expr)(Γ:Ga)(b:Bool)(Γ':Ga):Prop:=
 ∀(σ:St) (H0 R0 H R:Hp),aw X.K σ H0 R0 H R Γ->∀Q:Bool->Hp->Prop,(∀H' R',aw X.K σ H0 R0 H' R' Γ'->aj R R'->Q b H')->fW X e σ H Q
def TW (X:Cx)(e:Expr)(Γ:Ga)(b:Bool)(Γ':Ga):Prop:=
 ∀(σ:St) (H0 R0 H R:Hp),aw X.K σ H0 R0 H R Γ->∀Q:Bool->Hp->Prop,(∀H' R',aw X.K σ H0 R0 H' R' Γ'->aj R R'->Q b H')->sv X e σ H Q
def TF (X:Cx)(es:List Expr)(Γ:Ga)(b:Bool)(Γ':Ga):Prop:=
 ∀(σ:St) (H0 R0 H R:Hp),aw X.K σ H0 R0 H R Γ->∀Q:Bool->Hp->Prop,(∀H' R',aw X.K σ H0 R0 H' R' Γ'->aj R R'->Q b H')->iW X es σ H Q
def BG (X:Cx)(tg:Expr){α:Type}(r:Rep α)(bf:α->Ga->Ga):Prop:=
 ∀(σ:St) (H0 R0 H R:Hp) (Γ:Ga) (v:V) (x:α),aw X.K σ H0 R0 H R Γ->r.R X.K R v x->∀Q:St->Hp->Prop,(∀σ',aw X.K σ' H0 R0 H R (bf x Γ)->Q σ' H)->hG X tg v σ H Q
abbrev RT:=Hp->V->Hp->Hp->Prop
def WS (X:Cx)(sts:List Stmt)(Γ:Ga)(N:Ga->Prop)(T:RT):Prop:=
 ∀(σ:St) (H0 R0 H R:Hp),aw X.K σ H0 R0 H R Γ->∀D:Ends,(∀σ' H' R' Γ',aw X.K σ' H0 R0 H' R' Γ'->aj R R'->N Γ'->D.nx σ' H')->(∀v H' R',Ext H0 R0 H' R'->T H0 v H' R'->D.rt v H')->hJ X sts D σ H
def W1 (X:Cx)(st:Stmt)(Γ:Ga)(N:Ga->Prop)(T:RT):Prop:=
 ∀(σ:St) (H0 R0 H R:Hp),aw X.K σ H0 R0 H R Γ->∀D:Ends,(∀σ' H' R' Γ',aw X.K σ' H0 R0 H' R' Γ'->aj R R'->N Γ'->D.nx σ' H')->(∀v H' R',Ext H0 R0 H' R'->T H0 v H' R'->D.rt v H')->jt X st D σ H
def cB (K:PySem.W.Frag){β:Type}(r:Rep β)(P:β->Prop):RT:=λ_ v _ R'=>∃y,r.R K R' v y/\P y
def wc (K:PySem.W.Frag){β:Type}(r:Rep β)(P:List β->Prop):RT:=λH0 v H' R'=>∃a vs ys,v= .ref a/\H0 a=none/\H' a=some (.lst vs)/\R' a=none/\PySem.Paired (r.R K R') vs ys/\ys.length<=sizeLine/\P ys
theorem bW.im {ys:List α}(h:bW X e Γ r ys Γ1):EV X e Γ (ai r) ys Γ1:=by
 intro σ H0 R0 H R E Q q
 refine h σ H0 R0 H R E Q λa vs H' R' E' s1 ha hR h0 off p z=>?_
 have s2:aj R' (upd R' a (.lst vs)):=aj.fresh hR _
 exact q (.ref a) H' (upd R' a (.lst vs)) (E'.lq ha hR h0 off) (s1.trans s2) ⟨a,vs,rfl,aA,Paired.map (λ_ _=>r.mono s2) p,z⟩
theorem EV.cast {y y':α}(h:EV X e Γ r y Γ1)(e1:y=y'):EV X e Γ r y' Γ1:=e1▸h
theorem TV.cast {b b':Bool}(h:TV X e Γ b Γ1)(e1:b=b'):TV X e Γ b' Γ1:=e1▸h
theorem aa (i:Nat){x:Str}{y:α}(hΓ:Γ[i]?=some (.im r y))(hN:X.N[i]?=some x:=by rfl)(hv:cT X.env.scope x:=by first | exact Or.inl rfl | exact Or.inr (Or.inl rfl) | exact Or.inr (Or.inr rfl))
 (hd:(x==("__debug__":Str))=false:=by decide) (hcd:(x==("__classdict__":Str))=false:=by decide):EV X (.Name x pos) Γ r y Γ:=by
 intro σ H0 R0 H R E Q q
 obtain ⟨v,e,h⟩:=E.ent i _ hΓ
 refine eS (bB hN hv hd hcd) ⟨v,?_,q v H R E (aj.refl _) h⟩
 cases es:σ[i]? with
 | none=>rw [es] at e;cases e
 | some o=>rw [es] at e;exact congrArg some e
theorem ag {i:Int}{j:Nat}:EV X (.Constant (.int i) j pos) Γ ae i Γ:=λ_ _ _ _ _ E _ q=>eS ye (q _ _ _ E (aj.refl _) rfl)
theorem bY {b:Bool}{j:Nat}:EV X (.Constant (.bool b) j pos) Γ bq b Γ:=λ_ _ _ _ _ E _ q=>eS Ai (q _ _ _ E (aj.refl _) rfl)
theorem j6 {x:Str}{n:Int}{t:Tok}(hm:X.mg x=some (.int n t))(hg:Gl X x:=by rfl)(hd:(x==("__debug__":Str))=false:=by decide):EV X (.Name x pos) Γ ae n Γ:=
 λ_ _ _ _ _ E _ q=>eS (eO (v:=.int n) hg hm ⟨t,rfl⟩ hd) (q (.int n) _ _ E (aj.refl _) rfl)
theorem fC {op:Operator}{r2:R2}{a b:Expr}{ra:Rep α}{rb:Rep β}{rc:Rep γ}{x:α}{y:β}{z:γ}(ho:cU X (binaryOp op) r2)(ha:EV X a Γ ra x Γ1)(hb:EV X b Γ1 rb y Γ2)
 (hz:∀(R:Hp) v u H Q,ra.R X.K R v x->rb.R X.K R u y->(∀w,rc.R X.K R w z->Q w H)->r2 v u H Q):EV X (.BinOp a op b pos) Γ rc z Γ2:=by
 intro σ H0 R0 H R E Q q
 refine eS (oh ho aL aL) (ha σ H0 R0 H R E _ λv H1 R1 E1 s1 e1=>hb σ H0 R0 H1 R1 E1 _ λu H2 R2 E2 s2 e2=>?_)
 exact hz R2 v u H2 _ (ra.mono s2 e1) e2 λw hw=>q w H2 R2 E2 (s1.trans s2) hw
section
variable {a b c:Expr}{pos:Pos}{x y z:Int}
theorem cP (ha:EV X a Γ ae x Γ1)(hb:EV X b Γ1 ae y Γ2):EV X (.BinOp a .Add b pos) Γ ae (x + y) Γ2:=fC yh ha hb λR v u H Q e1 e2 q=>⟨x,y,e1,e2,q _ rfl⟩
theorem gv (ha:EV X a Γ ae x Γ1)(hb:EV X b Γ1 ae y Γ2):EV X (.BinOp a .Sub b pos) Γ ae (x - y) Γ2:=fC xQ ha hb λR v u H Q e1 e2 q=>⟨x,y,e1,e2,q _ rfl⟩
theorem yP (ha:EV X a Γ ae x Γ1)(hb:EV X b Γ1 ae y Γ2)(h:pd x y):EV X (.BinOp a .Mult b pos) Γ ae (x * y) Γ2:=fC xa ha hb λR v u H Q e1 e2 q=>⟨x,y,e1,e2,h,q _ rfl⟩
theorem bJ (ha:EV X a Γ ae x Γ1)(hb:EV X b Γ1 ae y Γ2)(h:0 < y):EV X (.BinOp a .Mod b pos) Γ ae (x % y) Γ2:=fC xE ha hb λR v u H Q e1 e2 q=>⟨x,y,e1,e2,h,q _ rfl⟩
theorem dI (ha:EV X a Γ ae x Γ1)(hb:EV X b Γ1 ae y Γ2)(h:yp x y):EV X (.BinOp a .FloorDiv b pos) Γ ae (x / y) Γ2:=fC ux ha hb λR v u H Q e1 e2 q=>⟨x,y,e1,e2,h,q _ rfl⟩
theorem jz (ha:EV X a Γ ae x Γ1)(hb:EV X b Γ1 ae y Γ2)(h:yH x y):EV X (.BinOp a .Pow b pos) Γ ae (x ^ y.toNat) Γ2:=fC v9 ha hb λR v u H Q e1 e2 q=>⟨x,y,e1,e2,h,q _ rfl⟩
theorem gL (ha:EV X a Γ ae x Γ1):EV X (.UnaryOp .USub a pos) Γ ae (-x) Γ1:=by
 intro σ H0 R0 H R E Q q
 exact eS (zi wt aL) (ha σ H0 R0 H R E _ λv H1 R1 E1 s1 e1=>⟨x,e1,q _ H1 R1 E1 s1 rfl⟩)
end
structure eB (X:Cx) (op:CmpOp) {α β:Type} (ra:Rep α) (rb:Rep β) (x:α) (y:β) (k:Bool):Prop where
 r2:∃r,cU X (compareOp op) r/\∀(R H:Hp) v u Q,aj R H->ra.R X.K R v x->rb.R X.K R u y->Q (.bl k) H->r v u H Q
theorem f9 {op:CmpOp}{a b:Expr}{pos:Pos}{ra:Rep α}{rb:Rep β}{x:α}{y:β}{k:Bool}(c:eB X op ra rb x y k)(ha:EV X a Γ ra x Γ1)(hb:EV X b Γ1 rb y Γ2)(hm:behindInMarks op b=false:=by first | exact qN _ | with_unfolding_all rfl):
 EV X (.Compare a [op] [b] pos) Γ bq k Γ2:=by
 obtain ⟨r,ho,hr⟩:=c.r2
 intro σ H0 R0 H R E Q q
 refine eS (vA ho aL aL hm) (ha σ H0 R0 H R E _ λv H1 R1 E1 s1 e1=>hb σ H0 R0 H1 R1 E1 _ λu H2 R2 E2 s2 e2=>?_)
 exact hr R2 H2 v u _ E2.sub (ra.mono s2 e1) e2 (q _ H2 R2 E2 (s1.trans s2) rfl)
theorem av {op:CmpOp}{a b:Expr}{pos:Pos}{ra:Rep α}{rb:Rep β}{x:α}{y:β}{k:Bool}(c:eB X op ra rb x y k)(ha:EV X a Γ ra x Γ1)(hb:EV X b Γ1 rb y Γ2)(hm:behindInMarks op b=false:=by first | exact qN _ | with_unfolding_all rfl):
 TV X (.Compare a [op] [b] pos) Γ k Γ2:=by
 obtain ⟨r,ho,hr⟩:=c.r2
 intro σ H0 R0 H R E Q q
 refine tS (uY ho aL aL hm) (ha σ H0 R0 H R E _ λv H1 R1 E1 s1 e1=>hb σ H0 R0 H1 R1 E1 _ λu H2 R2 E2 s2 e2=>?_)
 exact hr R2 H2 v u _ E2.sub (ra.mono s2 e1) e2 ⟨k,rfl,q H2 R2 E2 (s1.trans s2)⟩
section
variable {x y:Int}
theorem iu:eB X .Lt ae ae x y (decide (x < y)):=⟨_,zG,λR H v u Q _ e1 e2 q=>⟨x,y,e1,e2,q⟩⟩
theorem xT:eB X .LtE ae ae x y (decide (x<=y)):=⟨_,Ap,λR H v u Q _ e1 e2 q=>⟨x,y,e1,e2,q⟩⟩
theorem wK:eB X .Gt ae ae x y (decide (y < x)):=⟨_,zM,λR H v u Q _ e1 e2 q=>⟨x,y,e1,e2,q⟩⟩
theorem jm:eB X .GtE ae ae x y (decide (y<=x)):=⟨_,zY,λR H v u Q _ e1 e2 q=>⟨x,y,e1,e2,q⟩⟩
theorem cu:eB X .Eq ae ae x y (decide (x=y)):=⟨_,uw,λR H v u Q _ e1 e2 q=>by
 cases e1;cases e2
 exact ⟨rfl,by rw [show decide (V.int x=V.int y)=decide (x=y) by rw [i5];exact Bool.beq_eq_decide_eq x y];exact q⟩⟩
theorem rO:eB X .NotEq ae ae x y (!decide (x=y)):=⟨_,ud,λR H v u Q _ e1 e2 q=>by
 cases e1;cases e2
 exact ⟨rfl,by rw [show decide (V.int x=V.int y)=decide (x=y) by rw [i5];exact Bool.beq_eq_decide_eq x y];exact q⟩⟩
end
variable {a:Expr}{pos:Pos}{x:Bool}{b:Expr}{y:Bool}{rest:List Expr}{c:Expr}
theorem eA {K:PySem.W.Frag}{R:Hp}:∀{vs:List V} {xs:List Int},PySem.Paired (ae.R K R) vs xs->vs=xs.map V.int
 | _,_,.nil=>rfl
 | _,_,.cons h t=>by rw [List.map_cons,← eA t];exact congrArg (· ::_) h
theorem tD {op op':CmpOp}{ra:Rep α}{rb:Rep β}{rc:Rep γ}{x:α}{y:β}{z:γ}{k k':Bool}(c1:eB X op ra rb x y k)(c2:eB X op' rb rc y z k')(ha:EV X a Γ ra x Γ)(hb:EV X b Γ rb y Γ)(hc:EV X c Γ rc z Γ)
 (hm:lastMarks [op,op'] [b,c]=false:=by with_unfolding_all rfl):EV X (.Compare a [op,op'] [b,c] pos) Γ bq (k&&k') Γ:=by
 obtain ⟨r,ho,hr⟩:=c1.r2
 obtain ⟨r',ho',hr'⟩:=c2.r2
 intro σ H0 R0 H R E Q q
 refine eS (sZ ho ho' aL aL aL hm) (ha σ H0 R0 H R E _ λv H1 R1 E1 s1 e1=>hb σ H0 R0 H1 R1 E1 _ λu H2 R2 E2 s2 e2=>?_)
 refine hr R2 H2 v u _ E2.sub (ra.mono s2 e1) e2 ⟨k,rfl,?_⟩
 cases k with
 | false=>exact iB (q _ H2 R2 E2 (s1.trans s2) rfl)
 | true=>exact iw (hc σ H0 R0 H2 R2 E2 _ λw H3 R3 E3 s3 e3=>hr' R3 H3 u w _ E3.sub (rb.mono s3 e2) e3 (q _ H3 R3 E3 (s1.trans (s2.trans s3)) rfl))
theorem dD {op:BoolOp}{r:Rep α}{x:α}(h:EV X a Γ r x Γ1):EV X (.BoolOp op [a] pos) Γ r x Γ1:=λσ H0 R0 H R E Q q=>eS (xR aL) (h σ H0 R0 H R E Q q)
theorem cC (ha:EV X a Γ bq x Γ)(hb:x=true->EV X (.BoolOp .And (b::rest) pos) Γ bq y Γ):EV X (.BoolOp .And (a::b::rest) pos) Γ bq (x&&y) Γ:=by
 intro σ H0 R0 H R E Q q
 refine eS (wC aL aL) (ha σ H0 R0 H R E _ λv H1 R1 E1 s1 e1=>⟨x,e1,?_⟩)
 cases x with
 | false=>exact iB (q _ H1 R1 E1 s1 rfl)
 | true=>exact iw (hb rfl σ H0 R0 H1 R1 E1 _ λw H3 R3 E3 s3 e3=>q w H3 R3 E3 (s1.trans s3) e3)
theorem uh (ha:EV X a Γ bq x Γ)(hb:x=false->EV X (.BoolOp .Or (b::rest) pos) Γ bq y Γ):EV X (.BoolOp .Or (a::b::rest) pos) Γ bq (x ||y) Γ:=by
 intro σ H0 R0 H R E Q q
 refine eS (zu aL aL) (ha σ H0 R0 H R E _ λv H1 R1 E1 s1 e1=>⟨x,e1,?_⟩)
 cases x with
 | true=>exact iw (q _ H1 R1 E1 s1 rfl)
 | false=>exact iB (hb rfl σ H0 R0 H1 R1 E1 _ λw H3 R3 E3 s3 e3=>q w H3 R3 E3 (s1.trans s3) e3)
theorem gJ (ha:EV X a Γ bq x Γ1):EV X (.UnaryOp .Not a pos) Γ bq (!x) Γ1:=by
 intro σ H0 R0 H R E Q q
 exact eS (wG aL) (ha σ H0 R0 H R E _ λv H1 R1 E1 s1 e1=>⟨x,e1,q _ H1 R1 E1 s1 rfl⟩)
theorem aX (ha:TV X a Γ x Γ1):TV X (.UnaryOp .Not a pos) Γ (!x) Γ1:=by
 intro σ H0 R0 H R E Q q
 exact tS (yx jC) (ha σ H0 R0 H R E _ λH1 R1 E1 s1=>q H1 R1 E1 s1)
theorem TW.tv {e:Expr}{b:Bool}(h:TW X e Γ b Γ1):TV X e Γ b Γ1:=λσ H0 R0 H R E Q q=>tS (yk.pt) (h σ H0 R0 H R E Q q)
theorem ez (ha:TV X a Γ x Γ1):TW X (.BoolOp .And [a] pos) Γ x Γ1:=λσ H0 R0 H R E Q q=>wS (vH jC) (ha σ H0 R0 H R E Q q)
theorem cc (ha:TV X a Γ x Γ1):TW X (.BoolOp .Or [a] pos) Γ x Γ1:=λσ H0 R0 H R E Q q=>wS (yr jC) (ha σ H0 R0 H R E Q q)
theorem cH (ha:TV X a Γ x Γ)(hb:x=true->TW X (.BoolOp .And (b::rest) pos) Γ y Γ):TW X (.BoolOp .And (a::b::rest) pos) Γ (x&&y) Γ:=by
 intro σ H0 R0 H R E Q q
 refine wS (xC jC yk) (ha σ H0 R0 H R E _ λH1 R1 E1 s1=>?_)
 cases x with
 | false=>exact iB (q H1 R1 E1 s1)
 | true=>exact iw (hb rfl σ H0 R0 H1 R1 E1 _ λH3 R3 E3 s3=>q H3 R3 E3 (s1.trans s3))
theorem bG (ha:TV X a Γ x Γ)(hb:x=false->TW X (.BoolOp .Or (b::rest) pos) Γ y Γ):TW X (.BoolOp .Or (a::b::rest) pos) Γ (x ||y) Γ:=by
 intro σ H0 R0 H R E Q q
 refine wS (zk jC yk) (ha σ H0 R0 H R E _ λH1 R1 E1 s1=>?_)
 cases x with
 | true=>exact iw (q H1 R1 E1 s1)
 | false=>exact iB (hb rfl σ H0 R0 H1 R1 E1 _ λH3 R3 E3 s3=>q H3 R3 E3 (s1.trans s3))
theorem aV {k:Bool}(ha:EV X a Γ bq k Γ1)(he:∀whole,isTrue a X.env whole=(do let v ← whole;standAt a.pos;holding [v] (truthy v)):=by intro _;rfl):TV X a Γ k Γ1:=by
 intro σ H0 R0 H R E Q q
 exact tS (yC aL he) (ha σ H0 R0 H R E _ λv H1 R1 E1 s1 e1=>⟨k,e1,q H1 R1 E1 s1⟩)
theorem gc:TF X [] Γ true Γ:=λσ H0 R0 H R E Q q=>fS yQ (q H R E (aj.refl _))
theorem w8 {b:Bool}(h:TV X c Γ b Γ1):TF X [c] Γ b Γ1:=λσ H0 R0 H R E Q q=>fS (yc jC) (h σ H0 R0 H R E Q q)
theorem Ab {k:Bool}{r:Rep α}{x y:α}(hc:TV X c Γ k Γ1)(ha:k=true->EV X a Γ1 r x Γ2)(hb:k=false->EV X b Γ1 r y Γ2):EV X (.IfExp c a b pos) Γ r (if k then x else y) Γ2:=by
 intro σ H0 R0 H R E Q q
 refine eS (sk jC aL aL) (hc σ H0 R0 H R E _ λH1 R1 E1 s1=>?_)
 cases k with
 | true=>exact iw (ha rfl σ H0 R0 H1 R1 E1 _ λv H3 R3 E3 s3 e3=>q v H3 R3 E3 (s1.trans s3) e3)
 | false=>exact iB (hb rfl σ H0 R0 H1 R1 E1 _ λv H3 R3 E3 s3 e3=>q v H3 R3 E3 (s1.trans s3) e3)
end
section
variable {X:Cx}{Γ Γ1 Γ2 Γ3:Ga}{α β γ δ:Type}
variable {r:Rep α}{i:Int}{es:List Expr}{pos:Pos}
structure Pk:Type 1 where
 {α:Type}
 r:Rep α
 x:α
inductive fu (K:PySem.W.Frag) (R:Hp):List V->List Pk->Prop
 | nil:fu K R [] []
 | cons {v:V} {vs:List V} {p:Pk} {ps:List Pk}:p.r.R K R v p.x->fu K R vs ps->fu K R (v::vs) (p::ps)
def HA (X:Cx)(es:List Expr)(Γ:Ga)(ps:List Pk)(Γ':Ga):Prop:=
 ∀(σ:St) (H0 R0 H R:Hp),aw X.K σ H0 R0 H R Γ->∀Q:List V->Hp->Prop,(∀vs H' R',aw X.K σ H0 R0 H' R' Γ'->aj R R'->fu X.K R' vs ps->Q vs H')->iQ X es σ H Q
theorem aG:HA X [] Γ [] Γ:=λσ H0 R0 H R E Q q=>aS bt (q [] H R E (aj.refl _) .nil)
theorem au {e:Expr}{x:α}{ps:List Pk}(he:EV X e Γ r x Γ1)(hr:HA X es Γ1 ps Γ2)(hs:starEach (e::es) X.env=(false,eval e X.env)::starEach es X.env:=by rfl):HA X (e::es) Γ (⟨r,x⟩::ps) Γ2:=by
 intro σ H0 R0 H R E Q q
 refine aS (aE aL gN hs) (he σ H0 R0 H R E _ λv H1 R1 E1 s1 e1=>hr σ H0 R0 H1 R1 E1 _ λvs H2 R2 E2 s2 e2=>?_)
 exact q (v::vs) H2 R2 E2 (s1.trans s2) (.cons (r.mono s2 e1) e2)
def EA (X:Cx)(es:List Expr)(Γ:Ga){α:Type}(r:Rep α)(ys:List α)(Γ':Ga):Prop:=
 ∀(σ:St) (H0 R0 H R:Hp),aw X.K σ H0 R0 H R Γ->∀Q:List V->Hp->Prop,(∀vs H' R',aw X.K σ H0 R0 H' R' Γ'->aj R R'->PySem.Paired (r.R X.K R') vs ys->Q vs H')->iQ X es σ H Q
theorem aM:EA X [] Γ r [] Γ:=λσ H0 R0 H R E Q q=>aS bt (q [] H R E (aj.refl _) .nil)
theorem ay {e:Expr}{x:α}{ys:List α}(he:EV X e Γ r x Γ1)(hr:EA X es Γ1 r ys Γ2)(hs:starEach (e::es) X.env=(false,eval e X.env)::starEach es X.env:=by rfl):EA X (e::es) Γ r (x::ys) Γ2:=by
 intro σ H0 R0 H R E Q q
 refine aS (aE aL gN hs) (he σ H0 R0 H R E _ λv H1 R1 E1 s1 e1=>hr σ H0 R0 H1 R1 E1 _ λvs H2 R2 E2 s2 e2=>?_)
 exact q (v::vs) H2 R2 E2 (s1.trans s2) (.cons (r.mono s2 e1) e2)
theorem bC {ys:List α}(h:EA X es Γ r ys Γ1)(hz:ys.length<=sizeLine):bW X (.List es pos) Γ r ys Γ1:=by
 intro σ H0 R0 H R E Q q
 refine eS (lQ gN) (h σ H0 R0 H R E _ λvs H1 R1 E1 s1 p1=>⟨by rw [p1.length];exact hz,λp hp=>?_⟩)
 exact q p vs _ R1 (E1.grow (Ext.dX E1.sub hp _)) s1 aA (E1.sub.free hp) (E1.ext.h.free hp) (E1.off hp) p1 hz
theorem cV {F:α->β->Prop}:∀{vs:List α} {xs:List β},PySem.Paired F vs xs->∀{i:Nat} {y:β},xs[i]?=some y->∃v,vs[i]?=some v/\F v y
 | _,_,.nil,i,y,h=>by simp at h
 | _,_,.cons h t,0,y,e=>by simp at e;subst e;exact ⟨_,rfl,h⟩
 | _,_,.cons h t,i + 1,y,e=>by
   obtain ⟨v,e1,e2⟩:=cV t (i:=i) (y:=y) (by simpa using e)
   exact ⟨v,by simpa using e1,e2⟩
theorem g8 {F:α->β->Prop}{vs:List α}{xs:List β}(p:PySem.Paired F vs xs){y:β}(h:da xs i=some y):∃v,da vs i=some v/\F v y:=by
 unfold da at h ⊢
 rw [p.length]
 cases e:gb xs.length i with
 | none=>rw [e] at h;cases h
 | some j=>rw [e] at h;exact cV p h
theorem jF {xs:List α}(h0:0<=i)(h1:i < xs.length):da xs i=xs[i.toNat]?:=by
 have e:i=((i.toNat:Nat):Int):=by omega
 have hl:i.toNat < xs.length:=by omega
 have q:da xs ((i.toNat:Nat):Int)=some xs[i.toNat]:=uT (List.getElem?_eq_getElem hl)
 rw [← e] at q
 rw [q,List.getElem?_eq_getElem hl]
theorem cF {a b:Expr}{xs:List α}{y:α}(ha:EV X a Γ (ai r) xs Γ1)(hb:EV X b Γ1 ae i Γ2)(h:da xs i=some y)(hs:gQ b:=by exact λ_ _=>rfl):EV X (.Subscript a b pos) Γ r y Γ2:=by
 intro σ H0 R0 H R E Q q
 refine eS (lr ku aL aL hs) (ha σ H0 R0 H R E _ λv H1 R1 E1 s1 e1=>hb σ H0 R0 H1 R1 E1 _ λu H2 R2 E2 s2 e2=>?_)
 obtain ⟨p,vs,rfl,ha,pp,z⟩:=(ai r).mono s2 e1
 obtain ⟨w,e3,e4⟩:=g8 pp h
 exact ⟨p,vs,i,w,rfl,e2,bI.of (E2.sub _ _ ha),e3,q w H2 R2 E2 (s1.trans s2) e4⟩
theorem xZ {a b:Expr}{xs:List Int}{y:Int}(ha:EV X a Γ bV xs Γ1)(hb:EV X b Γ1 ae i Γ2)(h:da xs i=some y)(hs:gQ b:=by exact λ_ _=>rfl):EV X (.Subscript a b pos) Γ ae y Γ2:=by
 intro σ H0 R0 H R E Q q
 refine eS (lr ku aL aL hs) (ha σ H0 R0 H R E _ λv H1 R1 E1 s1 e1=>hb σ H0 R0 H1 R1 E1 _ λu H2 R2 E2 s2 e2=>?_)
 obtain ⟨p,rfl,ha,z⟩:=bV.mono s2 e1
 have e3:da (xs.map V.int) i=some (.int y):=by
  unfold da at h ⊢
  rw [List.length_map]
  cases e:gb xs.length i with
  | none=>rw [e] at h;cases h
  | some j=>
    rw [e] at h
    show (xs.map V.int)[j]?=_
    rw [List.getElem?_map,show xs[j]?=some y from h];rfl
 exact ⟨p,_,i,_,rfl,e2,E2.sub.seq ha,e3,q _ H2 R2 E2 (s1.trans s2) rfl⟩
section
variable {a:Expr}{n:Int}{j:Nat}{p1 pos:Pos}{w:Row}
end
def OV (X:Cx)(e:Option Expr)(Γ:Ga)(o:Option Int):Prop:=∃t,PO X e t/\∀(σ:St) (H0 R0 H R:Hp),aw X.K σ H0 R0 H R Γ->∀Q:Option Int->Hp->Prop,(∀H' R',aw X.K σ H0 R0 H' R' Γ->aj R R'->Q o H')->t σ H Q
theorem dH:OV X none Γ none:=⟨_,vm,λσ H0 R0 H R E Q q=>q H R E (aj.refl _)⟩
theorem dF {e:Expr}{i:Int}(h:EV X e Γ ae i Γ):OV X (some e) Γ (some i):=⟨_,uQ aL,λσ H0 R0 H R E Q q=>h σ H0 R0 H R E _ λv H1 R1 E1 s1 e1=>⟨i,e1,q H1 R1 E1 s1⟩⟩
def cut (xs:List α)(lo hi:Option Int):List α:=(xs.drop (HT.sIx xs.length 0 lo)).take (HT.sIx xs.length xs.length hi - HT.sIx xs.length 0 lo)
theorem jh {F:α->β->Prop}:∀(n:Nat) {vs:List α} {xs:List β},PySem.Paired F vs xs->PySem.Paired F (vs.drop n) (xs.drop n)
 | 0,_,_,h=>h
 | _ + 1,_,_,.nil=>.nil
 | n + 1,_,_,.cons _ t=>jh n t
theorem gC {F:α->β->Prop}:∀(n:Nat) {vs:List α} {xs:List β},PySem.Paired F vs xs->PySem.Paired F (vs.take n) (xs.take n)
 | 0,_,_,_=>.nil
 | _ + 1,_,_,.nil=>.nil
 | n + 1,_,_,.cons h t=>.cons h (gC n t)
theorem cm {F:α->β->Prop}:∀{vs:List α} {xs:List β} {vs':List α} {xs':List β},PySem.Paired F vs xs->PySem.Paired F vs' xs'->PySem.Paired F (vs++vs') (xs++xs')
 | _,_,_,_,.nil,h=>h
 | _,_,_,_,.cons h t,h'=>.cons h (cm t h')
theorem gi {a:Expr}{p pos:Pos}{r:Rep α}{xs:List α}(hm:X.mg "len"=none)(ha:EV X a Γ (ai r) xs Γ1)(hs:starEach [a] X.env=[(false,eval a X.env)]:=by rfl)(hg:Gl X "len":=by rfl):EV X (.Call (.Name "len" p) [a] [] pos) Γ ae (xs.length:Int) Γ1:=by
 intro σ H0 R0 H R E Q q
 refine eS (cj dC hg hm PySem.boot_len (aE aL bt hs) (by decide) (by decide) hs) (ha σ H0 R0 H R E _ λv H1 R1 E1 s1 e1=>?_)
 obtain ⟨p,vs,rfl,hp,pp,z⟩:=e1
 refine ⟨p,vs,rfl,.inl (bI.of (E1.sub _ _ hp)),?_⟩
 rw [pp.length]
 exact q _ H1 R1 E1 s1 rfl
theorem nI {a:Expr}{p pos:Pos}{xs:List Int}(hm:X.mg "len"=none)(ha:EV X a Γ bV xs Γ1)(hs:starEach [a] X.env=[(false,eval a X.env)]:=by rfl)(hg:Gl X "len":=by rfl):EV X (.Call (.Name "len" p) [a] [] pos) Γ ae (xs.length:Int) Γ1:=by
 intro σ H0 R0 H R E Q q
 refine eS (cj dC hg hm PySem.boot_len (aE aL bt hs) (by decide) (by decide) hs) (ha σ H0 R0 H R E _ λv H1 R1 E1 s1 e1=>?_)
 obtain ⟨p,rfl,hp,z⟩:=e1
 refine ⟨p,_,rfl,.inl (E1.sub.seq hp),?_⟩
 rw [List.length_map]
 exact q _ H1 R1 E1 s1 rfl
end
section
variable {X:Cx}{Γ Γ1 Γ2 Γ3:Ga}{α β γ δ:Type}{N:Ga->Prop}{T:RT}
variable {pos:Pos}{r:Rep α}{x:Str}{p1:Pos}{e:Expr}
theorem wO {Γ':Ga}(w:Wk Γ Γ')(h:N Γ'):WS X [] Γ N T:=λσ H0 R0 H R E D dn dr=>nv uO (dn σ H R Γ' (E.weak w) (aj.refl _) h)
theorem aJ (h:N Γ):WS X [] Γ N T:=wO (Wk.refl Γ) h
theorem ao {st:Stmt}{rest:List Stmt}(h:W1 X st Γ (λΓ'=>WS X rest Γ' N T) T):WS X (st::rest) Γ N T:=λσ H0 R0 H R E D dn dr=>
 nv (jl tG eh) (h σ H0 R0 H R E {D with nx:=hJ X rest D} (λσ' H' R' Γ' E' s' h'=>h' σ' H0 R0 H' R' E' D (λσ2 H2 R2 Γ2 E2 s2=>dn σ2 H2 R2 Γ2 E2 (s'.trans s2)) dr) dr)
theorem ah {st:Stmt}(h:W1 X st Γ N T):WS X [st] Γ N T:=λσ H0 R0 H R E D dn dr=>nv (kj tG) (h σ H0 R0 H R E D dn dr)
theorem bQ (i:Nat){y:α}(he:EV X e Γ r y Γ1)(h:N (Γ1.set i (.im r y)))(hN:X.N.Nodup:=by first | assumption | decide)(hi:X.N[i]?=some x:=by rfl)(hx:Loc X.env.scope x:=by first | exact Or.inl rfl | exact Or.inr rfl)
 (hs:swapsWith e (some (.Name x p1)) pos.line X.env=pure false:=by rfl) (hf:X.fn x=true∨X.env.scope.names.lookup x=some .local:=by first | exact .inl rfl | exact .inr rfl):W1 X (.Assign [.Name x p1] e pos) Γ N T:=λσ H0 R0 H R E D dn dr=>
 sS (iy hN hi hx aL hs hf) (he σ H0 R0 H R E _ λv H1 R1 E1 s1 e1=>dn _ H1 R1 _ (E1.set i e1) s1 h)
theorem lJ (i:Nat){ys:List α}(he:bW X e Γ r ys Γ1)(h:N (Γ1.set i (.mu r ys)))(hN:X.N.Nodup:=by first | assumption | decide)(hi:X.N[i]?=some x:=by rfl)(hx:Loc X.env.scope x:=by first | exact Or.inl rfl | exact Or.inr rfl)
 (hs:swapsWith e (some (.Name x p1)) pos.line X.env=pure false:=by rfl) (hf:X.fn x=true∨X.env.scope.names.lookup x=some .local:=by first | exact .inl rfl | exact .inr rfl):W1 X (.Assign [.Name x p1] e pos) Γ N T:=λσ H0 R0 H R E D dn dr=>
 sS (iy hN hi hx aL hs hf) (he σ H0 R0 H R E _ λa vs H1 R1 E1 s1 ha hR h0 off p z=>dn _ H1 R1 _ (E1.si (u:=.lst vs) (en:=.mu r ys) i ⟨a,vs,rfl,ha,hR,p⟩ h0 λj e _ q w=>off j e q w) s1 h)
theorem aT {P:α->Prop}{y:α}(he:EV X e Γ r y Γ1)(h:P y):W1 X (.Return (some e) pos) Γ N (cB X.K r P):=λσ H0 R0 H R E D dn dr=>
 sS (eF aL) (he σ H0 R0 H R E _ λv H1 R1 E1 s1 e1=>dr v H1 R1 E1.ext ⟨y,e1,h⟩)
theorem aD {c:Expr}{a b:List Stmt}{k:Bool}(hc:TV X c Γ k Γ1)(h1:k=true->WS X a Γ1 N T)(h2:k=false->WS X b Γ1 N T):W1 X (.If c a b pos) Γ N T:=λσ H0 R0 H R E D dn dr=>by
 refine sS (z7 jC eh eh) (hc σ H0 R0 H R E _ λH1 R1 E1 s1=>?_)
 cases k with
 | true=>exact iw (h1 rfl σ H0 R0 H1 R1 E1 D (λσ2 H2 R2 Γ2 E2 s2=>dn σ2 H2 R2 Γ2 E2 (s1.trans s2)) dr)
 | false=>exact iB (h2 rfl σ H0 R0 H1 R1 E1 D (λσ2 H2 R2 Γ2 E2 s2=>dn σ2 H2 R2 Γ2 E2 (s1.trans s2)) dr)
theorem dJ (i:Nat)(hN:X.N.Nodup:=by first | assumption | decide)(hi:X.N[i]?=some x:=by rfl)(hx:Loc X.env.scope x:=by first | exact Or.inl rfl | exact Or.inr rfl)(hf:X.fn x=true∨X.env.scope.names.lookup x=some .local:=by first | exact .inl rfl | exact .inr rfl):
 BG X (.Name x pos) r (λy Γ=>Γ.set i (.im r y)):=λσ H0 R0 H R Γ v x E h Q q=>gS (kC hN hi hx hf) (q _ (E.set i h))
theorem gH (i j:Nat){y:Str}{k:Nat}{p2:Pos}{r':Rep β}(hc:X.calm=true:=by rfl)(hN:X.N.Nodup:=by first | assumption | decide)(hi:X.N[i]?=some x:=by rfl)(hx:Loc X.env.scope x:=by first | exact Or.inl rfl | exact Or.inr rfl)(hf:X.fn x=true∨X.env.scope.names.lookup x=some .local:=by first | exact .inl rfl | exact .inr rfl)
 (hj:X.N[j]?=some y:=by rfl) (hy:Loc X.env.scope y:=by first | exact Or.inl rfl | exact Or.inr rfl) (hf':X.fn y=true∨X.env.scope.names.lookup y=some .local:=by first | exact .inl rfl | exact .inr rfl):
 BG X (.Tuple [.Name x p1,.Name y p2] k pos) (i0 r r') (λw Γ=>(Γ.set i (.im r w.1)).set j (.im r' w.2)):=λσ H0 R0 H R Γ v w E h Q q=>by
 obtain ⟨a,v1,v2,rfl,ha,e1,e2⟩:=h
 exact gS (w6 hc (lA (kC hN hi hx hf) (lA (kC hN hj hy hf') uG))) ⟨a,_,rfl,bH.of (E.sub _ _ ha),rfl,v1,[v2],rfl,v2,[],rfl,rfl,q _ ((E.set i e1).set j e2)⟩
end
section
variable {X:Cx}{Γ Γ1 Γ2 Γ3:Ga}{α β γ δ:Type}{N:Ga->Prop}{T:RT}
variable {r:Rep α}{xs:List α}
theorem at_of {σ:St}{i:Nat}{v:V}(e:(σ[i]?).join=some v):σ[i]?=some (some v):=by
 cases es:σ[i]? with
 | none=>rw [es] at e;cases e
 | some o=>rw [es] at e;exact congrArg some e
theorem uU {c:Expr}{body:List Stmt}{pos:Pos}(I:Nat->Ga->Prop){m0:Nat}(h0:I m0 Γ)
 (hstep:∀(m:Nat) (Γ:Ga),I m Γ->∃(k:Bool) (Γ':Ga),TV X c Γ k Γ'/\(k=true->WS X body Γ' (λΓ''=>∃m',m' < m/\I m' Γ'') T)/\(k=false->N Γ'))
 (hp:PassesOwn (model X.prog X.w) X.A X.env X.xe:=by exact PassesOwn.never):W1 X (.While c body [] pos) Γ N T:=λσ H0 R0 H R E D dn dr=>by
 refine sS (sM hp jC eh) ?_
 refine ⟨λm σ' H'=>∃R' Γ',aw X.K σ' H0 R0 H' R' Γ'/\aj R R'/\I m Γ',⟨m0,R,Γ,E,aj.refl _,h0⟩,?_⟩
 rintro m σ' H' ⟨R',Γ',E',s',hI⟩
 obtain ⟨k,Γ2,ht,h1,h2⟩:=hstep m Γ' hI
 refine ht σ' H0 R0 H' R' E' _ λH1 R1 E1 s1=>?_
 cases k with
 | true=>
   refine iw ⟨_,λσ2 H2 h=>h,h1 rfl σ' H0 R0 H1 R1 E1 _ (λσ3 H3 R3 Γ3 E3 s3 h3=>?_) dr⟩
   obtain ⟨m',hm,hI'⟩:=h3
   exact ⟨m',hm,R3,Γ3,E3,s'.trans (s1.trans s3),hI'⟩
 | false=>exact iB (dn σ' H1 R1 Γ2 E1 (s'.trans s1) (h2 rfl))
theorem lG (i:Nat){x:Str}{e:Expr}{p1 ap cp pos:Pos}{y:α}(he:EV X e Γ r y Γ1)(hΓ:Γ[i]?=some (.mu r xs))(hΓ1:Γ1[i]?=some (.mu r xs))(hz:xs.length < sizeLine)(h:N (Γ1.set i (.mu r (xs++[y]))))
 (hN:X.N[i]?=some x:=by rfl) (hv:cT X.env.scope x:=by first | exact Or.inl rfl | exact Or.inr (Or.inl rfl) | exact Or.inr (Or.inr rfl))
 (hd:(x==("__debug__":Str))=false:=by decide) (hcd:(x==("__classdict__":Str))=false:=by decide)
 (hsw:swapsWith (.Call (.Attribute (.Name x p1) "append" ap) [e] [] cp) none pos.line X.env=pure false:=by rfl)
 (hbase:attributeBase (.Name x p1) "append" X.env (eval (.Name x p1) X.env)=eval (.Name x p1) X.env:=by rfl)
 (hfew:((backTo cp (starEach [e] X.env)).all (λx=> !x.1)&&(backToKw cp (keywordEach [] X.env)).all (λx=>x.1.isSome)
  &&decide ([e].length + ([]:List Keyword).length + (if ([]:List Keyword).isEmpty then 0 else 1) < 30))=true:=by rfl)
 (hline:(ap.endLine==cp.line)=true:=by rfl) (hs:starEach [e] X.env=(false,eval e X.env)::starEach [] X.env:=by rfl):W1 X (.Expr (.Call (.Attribute (.Name x p1) "append" ap) [e] [] cp) pos) Γ N T:=λσ H0 R0 H R E D dn dr=>by
 obtain ⟨a,vs,ea,ha,hR,pp⟩:=E.ent i _ hΓ
 refine sS (fP (ug PySem.F.plainAttrs_list PySem.F.slot_list_append PySem.F.type_list_append kQ (bB hN hv hd hcd) (aE aL bt hs) hbase hfew hline hs rfl) hsw) ?_
 refine ⟨.ref a,at_of ea,.inl ⟨rfl,vs,bI.of ha⟩,he σ H0 R0 H R E _ λv H1 R1 E1 s1 e1=>?_⟩
 obtain ⟨a',vs',ea',ha',hR',pp'⟩:=E1.ent i _ hΓ1
 rw [ea] at ea';cases ea'
 refine ⟨a,vs',v,rfl,rfl,ha',by rw [pp'.length];exact hz,?_⟩
 exact dn σ _ R1 _ (E1.upd (en:=.mu r (xs++[y])) hΓ1 rfl ea hR' ⟨a,_,rfl,aA,hR',cm pp' (.cons e1 .nil)⟩) s1 h
theorem hV {F:α->β->Prop}{v:α}{y:β}(h:F v y):∀{vs:List α} {xs:List β} (i:Nat),PySem.Paired F vs xs->PySem.Paired F (vs.set i v) (xs.set i y)
 | _,_,_,.nil=>.nil
 | _,_,0,.cons _ t=>.cons h t
 | _,_,i + 1,.cons q t=>.cons q (hV h i t)
theorem freeze {K:PySem.W.Frag}{σ:St}{H0 R0 H R:Hp}(E:aw K σ H0 R0 H R Γ){i:Nat}(hΓ:Γ[i]?=some (.mu r xs))(hz:xs.length<=sizeLine):∃R' v,aw K σ H0 R0 H R' (Γ.set i (.im (ai r) xs))/\aj R R'/\(σ[i]?).join=some v/\(ai r).R K R' v xs:=by
 obtain ⟨a,vs,ea,ha,hR,pp⟩:=E.ent i _ hΓ
 have h0:H0 a=none:=E.new i _ a hΓ rfl ea
 have s2:aj R (upd R a (.lst vs)):=aj.fresh hR _
 have rr:(ai r).R K (upd R a (.lst vs)) (.ref a) xs:=⟨a,vs,rfl,aA,Paired.map (λ_ _=>r.mono s2) pp,hz⟩
 have E1:aw K σ H0 R0 H R (Γ.set i .no):=E.tell hΓ trivial λb w=>by cases w
 have E2:=E1.lq ha hR h0 λj e q w=>by
  rcases set_at q with ⟨rfl,rfl,_⟩ | ⟨hj,q1⟩
  ·cases w
  ·exact hj (E.ds j i e _ a q1 hΓ w ((Ent.jB (e:=.mu r xs) rfl).mpr ea))
 have hl:i < Γ.length:=(List.getElem?_eq_some_iff.mp hΓ).1
 have E3:=E2.tell (i:=i) (e0:=.no) (en:=.im (ai r) xs) (List.getElem?_set_self hl) ⟨_,ea,rr⟩ λb w=>by cases w
 rw [List.set_set] at E3
 exact ⟨_,.ref a,E3,s2,ea,rr⟩
theorem WS.freeze (i:Nat){sts:List Stmt}(hΓ:Γ[i]?=some (.mu r xs))(hz:xs.length<=sizeLine)(h:WS X sts (Γ.set i (.im (ai r) xs)) N T):WS X sts Γ N T:=λσ H0 R0 H R E D dn dr=>by
 obtain ⟨R',v,E',s',_,_⟩:=Fc.freeze E hΓ hz
 exact h σ H0 R0 H R' E' D (λσ2 H2 R2 Γ2 E2 s2=>dn σ2 H2 R2 Γ2 E2 (s'.trans s2)) dr
end
abbrev cE:=PySem.W.Frag->List Pk->RT->Prop
def aZ (S:cE)(K:PySem.W.Frag):Sp:=λvs H Q _=>∃R ps T,aj R H/\fu K R vs ps/\S K ps T/\∀v H' R',Ext H R H' R'->T H v H' R'->Q v H'
theorem fu.length {K:PySem.W.Frag}{R:Hp}:∀{vs:List V} {ps:List Pk},fu K R vs ps->vs.length=ps.length
 | _,_,.nil=>rfl
 | _,_,.cons _ t=>by rw [List.length_cons,List.length_cons,fu.length t]
structure aU (P:Program) (w:World) (K:PySem.W.Frag) (mg:Str->Option Value) (base:Heap) (x:Str) (k:Nat) (sp:Sp):Prop where
 ex:∃f fd ps,cq P w K mg base cL k f fd ps sp/\mg x=some (.ref f)/\PySem.W.keepIn K (.ref f)=true/\Binds K fd ps []
theorem aU.mono {P:Program}{w:World}{K:PySem.W.Frag}{mg:Str->Option Value}{base:Heap}{x:Str}{j k:Nat}{sp:Sp}(c:aU P w K mg base x j sp)(h:j<=k):aU P w K mg base x k sp:=by
 obtain ⟨f,fd,ps,F,a,b,c⟩:=c.ex
 exact ⟨f,fd,ps,F.mono h,a,b,c⟩
section
variable {X:Cx}{Γ Γ1 Γ2 Γ3:Ga}{α β γ δ:Type}{N:Ga->Prop}{T:RT}
theorem eT {S:cE}{x:Str}{k:Nat}{e:Expr}{es:List Expr}{p pos:Pos}{ps:List Pk}{Q:VK}{σ:St}{H0 R0 H R:Hp}(C:aU X.prog X.w X.K X.mg X.base x k (aZ S X.K))(hr:bg k X.A)(ha:HA X (e::es) Γ ps Γ1)(hS:S X.K ps T)(E:aw X.K σ H0 R0 H R Γ)
 (q:∀H1 R1 v H' R',aw X.K σ H0 R0 H1 R1 Γ1->aj R R1->Ext H1 R1 H' R'->T H1 v H' R'->Q v H')
 (hg:Gl X x) (hdb:(x==("__debug__":Str))=false) (he:starEach (e::es) X.env=(false,eval e X.env)::starEach es X.env) (hpl:(backTo pos (starEach es X.env)).any (·.1)=false):dj X (.Call (.Name x p) (e::es) [] pos) σ H Q:=by
 obtain ⟨f,fd,pn,F,hm,hk,hb⟩:=C.ex
 refine eS (ki F hr hg hm hk hb .nil jP gN hdb he hpl) (ha σ H0 R0 H R E _ λvs H1 R1 E1 s1 p1=>?_)
 refine ⟨R1,ps,T,E1.sub,by rw [List.append_nil];exact p1,hS,λv H' R' x t=>q H1 R1 v H' R' E1 s1 x t⟩
theorem bK {S:cE}{x:Str}{k:Nat}{e:Expr}{es:List Expr}{p pos:Pos}{ps:List Pk}{r:Rep α}{y:α}(C:aU X.prog X.w X.K X.mg X.base x k (aZ S X.K))(hr:bg k X.A)(ha:HA X (e::es) Γ ps Γ1)(hS:S X.K ps (cB X.K r (· =y)))
 (hg:Gl X x:=by rfl) (hdb:(x==("__debug__":Str))=false:=by decide) (he:starEach (e::es) X.env=(false,eval e X.env)::starEach es X.env:=by rfl) (hpl:(backTo pos (starEach es X.env)).any (·.1)=false:=by rfl):EV X (.Call (.Name x p) (e::es) [] pos) Γ r y Γ1:=λσ H0 R0 H R E Q q=>
 eT C hr ha hS E (λH1 R1 v H' R' E1 s1 xx t=>by
  obtain ⟨z,e1,rfl⟩:=t
  exact q v H' R' (E1.grow xx) (s1.trans xx.r) e1) hg hdb he hpl
end
def eG (ps:List Pk)(n:Nat):Ga:=ps.map (λp=>Ent.im p.r p.x)++List.replicate (n - ps.length) .no
theorem fj {K:PySem.W.Frag}{R H:Hp}{vs:List V}{ps:List Pk}{N:List Str}(s:aj R H)(p:fu K R vs ps)(hl:ps.length<=N.length):aw K (L2.start N vs) H R H R (eG ps N.length):=by
 have noown:∀(i:Nat) (e:Ent) (o:Option V),(eG ps N.length)[i]?=some e->e.fp o=[]:=λi e o q=>by
  unfold eG at q
  rcases List.mem_append.mp (List.mem_of_getElem? q) with z | z
  ·obtain ⟨p,_,rfl⟩:=List.mem_map.mp z;rfl
  ·obtain ⟨_,rfl⟩:=List.mem_replicate.mp z;rfl
 refine ⟨Ext.refl s,λi e q=>?_,λi e a q w=>absurd w (by rw [noown i e _ q];exact List.not_mem_nil),λi j e e' a q _ w=>absurd w (by rw [noown i e _ q];exact List.not_mem_nil),?_⟩
 ·have hp:=p.length
  unfold eG at q
  unfold L2.start
  by_cases hi:i < ps.length
  ·rw [List.getElem?_append_left (by simpa using hi),List.getElem?_map] at q
   rw [List.getElem?_append_left (by simpa [hp] using hi),List.getElem?_map]
   have key:∀{vs:List V} {ps:List Pk},fu K R vs ps->∀(i:Nat) (p:Pk),ps[i]?=some p->∃v,vs[i]?=some v/\p.r.R K R v p.x:=by
    intro vs ps h
    induction h with
    | nil=>intro i p e;simp at e
    | cons a b ih=>
      intro i p e
      cases i with
      | zero=>simp at e;subst e;exact ⟨_,rfl,a⟩
      | succ i=>simpa using ih i p (by simpa using e)
   cases e1:ps[i]? with
   | none=>rw [e1] at q;cases q
   | some p1=>
     rw [e1] at q
     cases q
     obtain ⟨v,h1,h2⟩:=key p i p1 e1
     rw [h1]
     exact ⟨v,rfl,h2⟩
  ·rw [List.getElem?_append_right (by simpa using hi),List.getElem?_replicate] at q
   split at q
   ·cases q;trivial
   ·cases q
 ·unfold eG L2.start
  rw [List.length_append,List.length_append,List.length_map,List.length_map,List.length_replicate,List.length_replicate,p.length]
section
variable {P:Program}{w:World}{K:PySem.W.Frag}{mg:Str->Option Value}{base:Heap}
theorem cI {S:cE}{x qual:Str}{st:Stmt}{f:Addr}{fd:FuncData}{N ps:List Str}{k:Nat}(F:bL K x qual st f fd)(Sc:aR N ps (aq st))(hm:mg x=some (.ref f))(hb:Binds K fd ps [])(len:∀qs T,S K qs T->qs.length=ps.length)
 (hbody:∀(cdv:Value) (A:Around) (outer:List Env) (s:Shared) (H:Hp) (E:XK) (qs:List Pk) (T:RT),bg k (A.deeper (envOfC qual (aq st) s.heap.objs.size f cdv))->S K qs T->
  WS (bA cL P w K mg base N qual (aq st) f cdv A outer s H E).cD (bz st) (eG qs N.length) (λ_=>False) T):aU P w K mg base x (k + 1) (aZ S K):=by
 refine ⟨f,fd,ps,?_,hm,F.kp,hb⟩
 refine F.ok Sc (λvs H Q E h=>?_) (λcdv A outer s H vs Q E hr h=>?_)
 ·obtain ⟨R,qs,T,_,p,hS,_⟩:=h
  rw [p.length];exact len qs T hS
 ·obtain ⟨R,qs,T,sR,p,hS,q⟩:=h
  have hl:qs.length<=N.length:=by
   rw [len qs T hS]
   have:=congrArg List.length Sc.pre
   rw [List.length_take] at this
   omega
  exact ⟨_,eh,hbody cdv A outer s H E qs T hr hS (L2.start N vs) H R H R (fj sR p hl) {nx:=λ_ H'=>Q .non H',rt:=Q} (λ_ _ _ _ _ _ f=>f.elim) λv H' R' xx t=>q v H' R' xx t⟩
end
section
variable {X:Cx}{Γ Γ1 Γ2 Γ3:Ga}{α β γ δ:Type}{N:Ga->Prop}{T:RT}
variable {a:Expr}{p pos:Pos}
theorem sd {bs:List Bool}{us:List Value}(r:Vals (bs.map V.bl) us){j:Nat}{v:Value}(h:us.toArray[j]?=some v):v= .bool (bs.getD j true):=by
 induction bs generalizing us j with
 | nil=>cases r;simp at h
 | cons b r' ih=>
   cases r with
   | cons h1 t=>
     cases j with
     | zero=>simp at h;rw [← h];exact h1
     | succ j=>exact ih t (by simpa using h)
theorem all_range (bs:List Bool):((List.range bs.length).all λj=>bs.getD j true)=bs.all id:=by
 rw [Bool.eq_iff_iff,List.all_eq_true,List.all_eq_true]
 constructor
 ·intro h b hb
  obtain ⟨j,hj,rfl⟩:=List.mem_iff_getElem.mp hb
  have:=h j (List.mem_range.mpr hj)
  simpa [List.getD_eq_getElem?_getD,List.getElem?_eq_getElem hj] using this
 ·intro h j hj
  have hj:=List.mem_range.mp hj
  simpa [List.getD_eq_getElem?_getD,List.getElem?_eq_getElem hj] using h _ (List.getElem_mem hj)
theorem sL (hc:X.calm=true):dz X (.builtin "all") (λxs H Q=>∃(p:Addr) (bs:List Bool),xs=[.ref p]/\bI X.K H p (bs.map V.bl)/\Q (.bl (bs.all id)) H):=by
 intro pins s σ H xs us Q I r h
 obtain ⟨p,bs,rfl,hq,q⟩:=h
 obtain ⟨u,rfl,rx⟩:=vals1 r
 cases rx
 obtain ⟨its,r',pl,hz⟩:=I.list hq
 have hne:p≠s.heap.objs.size:=λe=>by obtain ⟨o,ho,_⟩:=pl.isList;exact absurd (Heap.lt_size ho) (by rw [e];exact Nat.lt_irrefl _)
 refine call_all_walk (wpAny_pyIter_list pl.isList ?_)
 refine ⟨s.heap.objs.size,_,[s.heap.objs.size],its.toArray.size,_,_,λj=>bs.getD j true,rfl,Walks.list (A:=X.A.in1) (show X.A.in1.handled=none from I.ok.hd hc) s.heap.objs.size p hne its.toArray,?_,λj v s Q E hv hQ=>?_,λh' tk hk=>?_⟩
 ·refine ⟨⟨_,Heap.get?_push_size _ rfl,rfl,rfl⟩,?_⟩
  obtain ⟨o,ho,c,n,d⟩:=pl.isList
  exact ⟨o,Heap.get?_push_of_some _ ho,c,n,d⟩
 ·rw [sd r' hv];exact wpAny_truthy_bool hQ
 ·have e:its.toArray.size=bs.length:=by rw [List.size_toArray,← r'.length,List.length_map]
  rw [e,all_range]
  exact ⟨.bl _,H,I.kept λb o e=>hk b o (λz=>absurd (Heap.lt_size e) (by rw [List.mem_singleton.mp z];exact Nat.lt_irrefl _)) (Heap.get?_push_of_some _ e),rfl,q⟩
theorem lU {K:PySem.W.Frag}{R:Hp}:∀{vs:List V} {xs:List Bool},PySem.Paired (bq.R K R) vs xs->vs=xs.map V.bl
 | _,_,.nil=>rfl
 | _,_,.cons h t=>by rw [List.map_cons,← lU t];exact congrArg (· ::_) h
theorem za {x:Str}{id:String}{r:List V->Hp->VK->Prop}{ra:Rep α}{rb:Rep β}{y:α}{z:β}(hc:dz X (.builtin id) r)(hm:X.mg x=none)(hv:bootBuiltins x=some (.builtin id))(ha:EV X a Γ ra y Γ1)
 (h:∀(R H:Hp) v Q,aj R H->ra.R X.K R v y->(∀w,rb.R X.K R w z->Q w H)->r [v] H Q) (hs:starEach [a] X.env=[(false,eval a X.env)]:=by rfl) (hg:Gl X x:=by rfl) (hn:x≠"__name__":=by decide) (hdb:(x==("__debug__":Str))=false:=by decide):
 EV X (.Call (.Name x p) [a] [] pos) Γ rb z Γ1:=by
 intro σ H0 R0 H R E Q q
 exact eS (cj hc hg hm hv (aE aL bt hs) hn hdb hs) (ha σ H0 R0 H R E _ λv H1 R1 E1 s1 e1=>h R1 H1 v _ E1.sub e1 λw hw=>q w H1 R1 E1 s1 hw)
theorem jG {bs:List Bool}(hm:X.mg "all"=none)(ha:EV X a Γ (ai bq) bs Γ1)(hs:starEach [a] X.env=[(false,eval a X.env)]:=by rfl)(hc:X.calm=true:=by rfl)(hg:Gl X "all":=by rfl):EV X (.Call (.Name "all" p) [a] [] pos) Γ bq (bs.all id) Γ1:=
 za (sL hc) hm boot_all ha (λR H v Q s ⟨p,vs,e,hp,pp,_⟩ q=>⟨p,bs,by rw [e],by rw [← lU pp];exact bI.of (s _ _ hp),q _ rfl⟩) hs hg
theorem eL {r:Rep α}{xs:List α}(hm:X.mg "list"=none)(ha:EV X a Γ (ai r) xs Γ1)(hs:starEach [a] X.env=[(false,eval a X.env)]:=by rfl)(hg:Gl X "list":=by rfl):bW X (.Call (.Name "list" p) [a] [] pos) Γ r xs Γ1:=by
 intro σ H0 R0 H R E Q q
 refine eS (gz fR hg hm PyProof.Rows.boot_list (aE aL bt hs) (by decide) (by decide) hs) (ha σ H0 R0 H R E _ λv H1 R1 E1 s1 e1=>?_)
 obtain ⟨p,vs,rfl,hp,pp,z⟩:=e1
 exact ⟨p,vs,rfl,.inl (bI.of (E1.sub _ _ hp)),λl hl=>q l vs _ R1 (E1.grow (Ext.dX E1.sub hl _)) s1 aA (E1.sub.free hl) (E1.ext.h.free hl) (E1.off hl) pp z⟩
theorem vW {b:Expr}{x y:Int}(hm:X.mg "min"=none)(ha:HA X [a,b] Γ [⟨ae,x⟩,⟨ae,y⟩] Γ1)(hs:starEach [a,b] X.env=(false,eval a X.env)::starEach [b] X.env:=by rfl)(hc:X.calm=true:=by rfl)(hg:Gl X "min":=by rfl)(hpl:(backTo pos (starEach [b] X.env)).any (·.1)=false:=by rfl):EV X (.Call (.Name "min" p) [a,b] [] pos) Γ ae (if y < x then y else x) Γ1:=by
 intro σ H0 R0 H R E Q q
 refine eS (cj (pV hc) hg hm PyProof.Rows.boot_min gN (by decide) (by decide) hs hpl) (ha σ H0 R0 H R E _ λvs H1 R1 E1 s1 p1=>?_)
 cases p1 with
 | cons a1 t=>cases t with
   | cons a2 t2=>cases t2;cases a1;cases a2;exact ⟨x,y,rfl,q _ H1 R1 E1 s1 rfl⟩
theorem uE {b:Expr}{x y:Int}(hm:X.mg "max"=none)(ha:HA X [a,b] Γ [⟨ae,x⟩,⟨ae,y⟩] Γ1)(hs:starEach [a,b] X.env=(false,eval a X.env)::starEach [b] X.env:=by rfl)(hc:X.calm=true:=by rfl)(hg:Gl X "max":=by rfl)(hpl:(backTo pos (starEach [b] X.env)).any (·.1)=false:=by rfl):EV X (.Call (.Name "max" p) [a,b] [] pos) Γ ae (if y > x then y else x) Γ1:=by
 intro σ H0 R0 H R E Q q
 refine eS (cj (qE hc) hg hm PyProof.Rows.boot_max gN (by decide) (by decide) hs hpl) (ha σ H0 R0 H R E _ λvs H1 R1 E1 s1 p1=>?_)
 cases p1 with
 | cons a1 t=>cases t with
   | cons a2 t2=>cases t2;cases a1;cases a2;exact ⟨x,y,rfl,q _ H1 R1 E1 s1 rfl⟩
theorem oC:∀{xs ys:List Int},xs.Perm ys->xs.Pairwise (· <=·)->ys.Pairwise (· <=·)->xs=ys:=by
 intro xs ys p h1 h2
 exact List.Perm.eq_of_pairwise (le:=λa b=>decide (a<=b)) (by intro a b _ _ h h';simp at h h';omega) (h1.imp λh=>by simpa using h) (h2.imp λh=>by simpa using h) p
def sortI (xs:List Int):List Int:=xs.mergeSort (λa b=>decide (a<=b))
theorem rJ {xs ms:List Int}(p:ms.Perm xs)(h:ms.Pairwise (· <=·)):ms=sortI xs:=by
 refine oC (p.trans (List.mergeSort_perm xs _).symm) h ?_
 have:=List.pairwise_mergeSort (le:=λ(a b:Int)=>decide (a<=b)) (by intro a b c;simp;omega) (by intro a b;simp;omega) xs
 exact this.imp λh=>by simpa using h
end
def Src (K:PySem.W.Frag)(J:It)(R1:Hp){α:Type}(r:Rep α)(xs:List α):Prop:=
 ∀(H' R':Hp),aj R1 R'->aj R' H'->∀i:Nat,(∀x,xs[i]?=some x->J.go i H'/\∀v H2,J.yld i H' v H2->∃R2,Ext H' R' H2 R2/\r.R K R2 v x)/\(xs.length<=i->J.stop i H')
section
variable {X:Cx}{Γ Γ1 Γ2 Γ3:Ga}{α β γ δ:Type}{N:Ga->Prop}{T:RT}
variable {tg:Expr}{xs:List α}{iter:Expr}{bf:α->Ga->Ga}{pos:Pos}{elt:Expr}{ifs:List Expr}{scope:Scope}{cl:List (Str×Addr)}{ix:List Nat}{ra:Rep α}{rb:Rep β}{p:α->Bool}{f:α->β}
def IV (X:Cx)(tg iter:Expr)(Γ:Ga){α:Type}(r:Rep α)(xs:List α)(Γ1:Ga):Prop:=
 ∃wi,PI X tg iter wi/\∀(σ:St) (H0 R0 H R:Hp),aw X.K σ H0 R0 H R Γ->∀Rq:It->Hp->Prop,(∀J H1 R1,aw X.K σ H0 R0 H1 R1 Γ1->aj R R1->xs.length<=sizeLine->Src X.K J R1 r xs->Rq J H1)->wi σ H Rq
theorem i6 {r:Rep α}(h:EV X iter Γ (ai r) xs Γ1):IV X tg iter Γ r xs Γ1:=by
 refine ⟨_,vX aL,λσ H0 R0 H R E Rq q=>h σ H0 R0 H R E _ λv H1 R1 E1 s1 e1=>?_⟩
 obtain ⟨a,vs,rfl,ha,pp,z⟩:=e1
 refine ⟨a,rfl,⟨vs,bI.of (E1.sub _ _ ha)⟩,q _ H1 R1 E1 s1 z λH' R' sR sH i=>⟨λx hx=>?_,λhi=>?_⟩⟩
 ·have hq:bI X.K H' a vs:=bI.of (sH _ _ (sR _ _ ha))
  obtain ⟨v,hv,hr⟩:=cV pp hx
  refine ⟨⟨vs,v,hq,hv⟩,λv' H2 hy=>?_⟩
  obtain ⟨rfl,hy⟩:=hy
  have:=hy vs hq
  rw [hv] at this
  cases this
  exact ⟨R',Ext.refl sH,r.mono sR hr⟩
 ·exact ⟨vs,bI.of (sH _ _ (sR _ _ ha)),by rw [pp.length];exact hi⟩
def ups (lo:Int)(n:Nat):List Int:=(List.range n).map λ(k:Nat)=>lo + (k:Int)
theorem dq (lo:Int)(n:Nat):(ups lo n).length=n:=by unfold ups;rw [List.length_map,List.length_range]
theorem mh {lo:Int}{n i:Nat}{x:Int}(h:(ups lo n)[i]?=some x):i < n/\x=lo + (i:Int):=by
 have hi:i < n:=by have:=(List.getElem?_eq_some_iff.mp h).1;rwa [dq] at this
 refine ⟨hi,?_⟩
 unfold ups at h
 rw [List.getElem?_map,List.getElem?_range hi] at h
 exact (Option.some.inj h).symm
theorem uy {K:PySem.W.Frag}{R1:Hp}(lo:Int)(n:Nat):Src K (uc lo n) R1 ae (ups lo n):=λH' R' sR sH i=>⟨λx hx=>by
 obtain ⟨h1,rfl⟩:=mh hx
 refine ⟨h1,λv H2 hy=>?_⟩
 obtain ⟨rfl,rfl⟩:=hy
 exact ⟨R',Ext.refl sH,rfl⟩,λhi=>by rw [dq] at hi;exact hi⟩
theorem eZ {a:Expr}{p1 p2:Pos}{n:Int}(hm:X.mg "range"=none)(ha:EV X a Γ ae n Γ1)(hn: -(2 ^ 62)<=n/\n<=1000000)(hs1:starEach [a] X.env=[(false,eval a X.env)]:=by rfl)(hg:Gl X "range":=by rfl):IV X tg (.Call (.Name "range" p1) [a] [] p2) Γ ae (ups 0 n.toNat) Γ1:=by
 refine ⟨_,pX hg hm (aE aL bt hs1) hs1,λσ H0 R0 H R E Rq q=>ha σ H0 R0 H R E _ λv H1 R1 E1 s1 e1=>?_⟩
 exact ⟨n,by rw [show v=V.int n from e1],hn.1,by omega,q _ H1 R1 E1 s1 (by rw [dq];exact Nat.le_trans (show n.toNat<=1000000 by omega) (by decide)) (uy 0 n.toNat)⟩
theorem il {body:List Stmt}{r:Rep α}(I:Nat->Ga->Prop)(hit:IV X tg iter Γ r xs Γ1)(hb:BG X tg r bf)(h0:I 0 Γ1)
 (hstep:∀(i:Nat) (x:α) (Γ:Ga),xs[i]?=some x->I i Γ->WS X body (bf x Γ) (I (i + 1)) T) (hend:∀Γ:Ga,I xs.length Γ->N Γ)
 (hc:X.calm=true:=by rfl) (hp:PassesOwn (model X.prog X.w) X.A X.env X.xe:=by exact PassesOwn.never) (hs:∀x,foldedSetIterable iter X.env x=pure x:=by intro _;rfl):W1 X (.For tg iter body [] pos) Γ N T:=λσ H0 R0 H R E D dn dr=>by
 obtain ⟨wi,hi,hit⟩:=hit
 refine sS (qU hp hc hi AQ eh hs) (hit σ H0 R0 H R E _ λJ H1 R1 E1 s1 hz src=>?_)
 refine ⟨λi m σ' H'=>m=xs.length - i/\i<=xs.length/\∃R' Γ',aw X.K σ' H0 R0 H' R' Γ'/\aj R1 R'/\I i Γ',⟨_,rfl,Nat.zero_le _,R1,Γ1,E1,aj.refl _,h0⟩,?_⟩
 rintro i m σ' H' ⟨rfl,hle,R',Γ',E',s',hI⟩
 obtain ⟨sgo,sstop⟩:=src H' R' s' E'.sub i
 by_cases hlt:i < xs.length
 ·obtain ⟨go,yl⟩:=sgo _ (List.getElem?_eq_getElem hlt)
  refine .inr ⟨go,λσ' H'=>i + 1<=xs.length/\∃R' Γ',aw X.K σ' H0 R0 H' R' Γ'/\aj R1 R'/\I (i + 1) Γ',λσ2 H2 h=>⟨xs.length - (i + 1),by omega,rfl,h.1,h.2⟩,λv H2 hy=>?_⟩
  obtain ⟨R2,x2,hr⟩:=yl v H2 hy
  refine hb σ' H0 R0 H2 R2 Γ' v _ (E'.grow x2) hr _ λσ2 E2=>?_
  exact hstep i _ Γ' (List.getElem?_eq_getElem hlt) hI σ2 H0 R0 H2 R2 E2 _ (λσ3 H3 R3 Γ3 E3 s3 h3=>⟨hlt,R3,Γ3,E3,s'.trans (x2.r.trans s3),h3⟩) dr
 ·have e:i=xs.length:=by omega
  subst e
  exact .inl ⟨sstop (Nat.le_refl _),dn σ' H' R' Γ' E' (s1.trans s') (hend Γ' hI)⟩
def oX:Option Ent->Ent
 | some (.im r x)=>.im r x
 | _=>.no
def cb (own:List Str)(ix:List Nat)(Γ:Ga):Ga:=List.replicate own.length .no++ix.map λi=>oX Γ[i]?
theorem jq {K:PySem.W.Frag}{σ:St}{H0 R0 H R:Hp}(E:aw K σ H0 R0 H R Γ)(own:List Str)(ix:List Nat):aw K (ee own ix σ) H R H R (cb own ix Γ):=by
 have noown:∀(i:Nat) (e:Ent) (o:Option V),(cb own ix Γ)[i]?=some e->e.fp o=[]:=λi e o q=>by
  unfold cb at q
  rcases List.mem_append.mp (List.mem_of_getElem? q) with z | z
  ·obtain ⟨_,rfl⟩:=List.mem_replicate.mp z;rfl
  ·obtain ⟨k,_,rfl⟩:=List.mem_map.mp z
   unfold oX
   split<;>rfl
 refine ⟨Ext.refl E.sub,λi e q=>?_,λi e a q w=>absurd w (by rw [noown i e _ q];exact List.not_mem_nil),λi j e e' a q _ w=>absurd w (by rw [noown i e _ q];exact List.not_mem_nil),by unfold cb ee;simp⟩
 unfold cb at q
 unfold ee
 by_cases hi:i < own.length
 ·rw [List.getElem?_append_left (by simpa using hi),List.getElem?_replicate] at q
  rw [if_pos hi] at q
  cases q;trivial
 ·rw [List.getElem?_append_right (by simpa using hi),List.length_replicate,List.getElem?_map] at q
  rw [List.getElem?_append_right (by simpa using hi),List.length_replicate,List.getElem?_map]
  cases ek:ix[i - own.length]? with
  | none=>rw [ek] at q;cases q
  | some k=>
    rw [ek] at q
    have q':oX Γ[k]?=e:=Option.some.inj q
    subst q'
    show (oX Γ[k]?).ok K H R (σ[k]?).join
    cases eg:Γ[k]? with
    | none=>trivial
    | some e=>
      cases e with
      | im r x=>exact E.ent k _ eg
      | no=>trivial
      | mu r x=>trivial
      | di x=>trivial
      | ob x=>trivial
theorem kX {own fr:List Str}{J:It}{σ:St}{H0 R0 H1 R1:Hp}{Q:VK}(E1:aw X.K σ H0 R0 H1 R1 Γ1)(src:Src X.K J R1 ra xs)(hz:xs.length<=sizeLine)
 (hb:∀(C:Addr) (s:Shared) (H:Hp) (ex:List Addr),BG (aO X scope cl C (own++fr) s H ex) tg ra bf) (hw:∀x,Wk (bf x (cb own ix Γ1)) (cb own ix Γ1))
 (ht:∀(C:Addr) (s:Shared) (H:Hp) (ex:List Addr) x,x∈xs->TF (aO X scope cl C (own++fr) s H ex) ifs (bf x (cb own ix Γ1)) (p x) (bf x (cb own ix Γ1)))
 (he:∀(C:Addr) (s:Shared) (H:Hp) (ex:List Addr) x,x∈xs->p x=true->EV (aO X scope cl C (own++fr) s H ex) elt (bf x (cb own ix Γ1)) rb (f x) (bf x (cb own ix Γ1)))
 (q:∀a vs H' R',Ext H1 R1 H' R'->H' a=none->PySem.Paired (rb.R X.K R') vs ((xs.filter p).map f)->Q (.ref a) (upd H' a (.lst vs))):
 ∃W:Nat->Nat->List V->St->Hp->Prop,(∃m,W 0 m [] (ee own ix σ) H1)/\∀i m ys σ' H',W i m ys σ' H'->
  ys.length<=sizeLine/\((J.stop i H'/\∀p,H' p=none->Q (.ref p) (upd H' p (.lst ys)))∨
  (J.go i H'/\∀x H2,J.yld i H' x H2->(λv σ H Q=>∀C s Hh ex,hG (aO X scope cl C (own++fr) s Hh ex) tg v σ H Q:TG) x σ' H2 λσ2 H3=>(λσ H Q=>∀C s Hh ex,iW (aO X scope cl C (own++fr) s Hh ex) ifs σ H Q:TT) σ2 H3 λb H4=>
    if b=true then (λσ H Q=>∀C s Hh ex,dj (aO X scope cl C (own++fr) s Hh ex) elt σ H Q:TE) σ2 H4 λv H5=>∃m',m' < m/\W (i + 1) m' (ys++[v]) σ2 H5 else∃m',m' < m/\W (i + 1) m' ys σ2 H4)):=by
 refine ⟨λi m ys σ' H'=>m=xs.length - i/\i<=xs.length/\∃R',aw X.K σ' H1 R1 H' R' (cb own ix Γ1)/\PySem.Paired (rb.R X.K R') ys (((xs.take i).filter p).map f),⟨_,rfl,Nat.zero_le _,R1,jq E1 own ix,.nil⟩,?_⟩
 rintro i m ys σ' H' ⟨rfl,hle,R',E',pp⟩
 have hys:ys.length<=sizeLine:=by
  rw [pp.length,List.length_map]
  refine Nat.le_trans (List.length_filter_le _ _) (Nat.le_trans ?_ hz)
  rw [List.length_take];omega
 obtain ⟨sgo,sstop⟩:=src H' R' E'.ext.r E'.sub i
 refine ⟨hys,?_⟩
 by_cases hlt:i < xs.length
 ·obtain ⟨go,yl⟩:=sgo _ (List.getElem?_eq_getElem hlt)
  have hmem:xs[i]∈xs:=List.getElem_mem hlt
  have tk:(xs.take (i + 1))=xs.take i++[xs[i]]:=by rw [List.take_succ,List.getElem?_eq_getElem hlt];rfl
  refine .inr ⟨go,λv H2 hy C s Hh ex=>?_⟩
  obtain ⟨R2,x2,hr⟩:=yl v H2 hy
  refine hb C s Hh ex σ' H1 R1 H2 R2 _ v _ (E'.grow x2) hr _ λσ2 E2=>?_
  intro C s Hh ex
  refine ht C s Hh ex _ hmem σ2 H1 R1 H2 R2 E2 _ λH4 R4 E4 s4=>?_
  cases hpx:p xs[i] with
  | false=>
    rw [if_neg Bool.false_ne_true]
    refine ⟨xs.length - (i + 1),by omega,rfl,hlt,R4,E4.weak (hw _),?_⟩
    rw [tk,List.filter_append,List.filter_cons,hpx,if_neg Bool.false_ne_true,List.filter_nil,List.append_nil]
    exact Paired.map (λ_ _=>rb.mono (x2.r.trans s4)) pp
  | true=>
    rw [if_pos rfl]
    intro C s Hh ex
    refine he C s Hh ex _ hmem hpx σ2 H1 R1 H4 R4 E4 _ λw H5 R5 E5 s5 e5=>?_
    refine ⟨xs.length - (i + 1),by omega,rfl,hlt,R5,E5.weak (hw _),?_⟩
    rw [tk,List.filter_append,List.filter_cons,hpx,if_pos rfl,List.filter_nil,List.map_append]
    exact cm (Paired.map (λ_ _=>rb.mono (x2.r.trans (s4.trans s5))) pp) (.cons e5 .nil)
 ·have e:i=xs.length:=by omega
  subst e
  rw [List.take_length] at pp
  exact .inl ⟨sstop (Nat.le_refl _),λa ha=>q a ys H' R' E'.ext ha pp⟩
theorem h9 {own fr:List Str}
 (S:cJ X scope cl own fr ix) (hit:IV X tg iter Γ ra xs Γ1)
 (hb:∀(C:Addr) (s:Shared) (H:Hp) (ex:List Addr),BG (aO X scope cl C (own++fr) s H ex) tg ra bf) (hw:∀x,Wk (bf x (cb own ix Γ1)) (cb own ix Γ1))
 (ht:∀(C:Addr) (s:Shared) (H:Hp) (ex:List Addr) x,x∈xs->TF (aO X scope cl C (own++fr) s H ex) ifs (bf x (cb own ix Γ1)) (p x) (bf x (cb own ix Γ1)))
 (he:∀(C:Addr) (s:Shared) (H:Hp) (ex:List Addr) x,x∈xs->p x=true->EV (aO X scope cl C (own++fr) s H ex) elt (bf x (cb own ix Γ1)) rb (f x) (bf x (cb own ix Γ1)))
 (hc:X.calm=true:=by rfl) (hs:∀x,foldedSetIterable iter X.env x=pure x:=by intro _;rfl):bW X (.ListComp elt [⟨tg,iter,ifs,0⟩] scope pos) Γ rb ((xs.filter p).map f) Γ1:=by
 intro σ H0 R0 H R E Q q
 obtain ⟨wi,hi,hit⟩:=hit
 refine eS (mW (g:=λv σ H Q=>∀C s Hh ex,hG (aO X scope cl C (own++fr) s Hh ex) tg v σ H Q) (tc:=λσ H Q=>∀C s Hh ex,iW (aO X scope cl C (own++fr) s Hh ex) ifs σ H Q) (te:=λσ H Q=>∀C s Hh ex,dj (aO X scope cl C (own++fr) s Hh ex) elt σ H Q) hc S hi
  (λC s H ex=>⟨λpins s1 σ H v u Q I r h=>h C s _ ex pins s1 u I r,λpins s1 σ H Q I h=>h C s _ ex pins s1 I,λpins s1 σ H Q I h=>h C s _ ex pins s1 I⟩) hs) ?_
 refine hit σ H0 R0 H R E _ λJ H1 R1 E1 s1 hz src=>kX E1 src hz hb hw ht he λa vs H' R' xx ha pp=>?_
 have E2:=E1.grow xx
 exact q a vs _ R' (E2.grow (Ext.dX E2.sub ha _)) (s1.trans xx.r) aA (E2.sub.free ha) (E2.ext.h.free ha) (E2.off ha) pp (by
  rw [List.length_map];exact Nat.le_trans (List.length_filter_le _ _) hz)
theorem rB (i:Nat){y:Str}{py spos:Pos}{own fr:List Str}
 (S:cJ X scope cl own fr ix) (hit:IV X tg iter Γ ra xs Γ1)
 (hb:∀(C:Addr) (s:Shared) (H:Hp) (ex:List Addr),BG (aO X scope cl C (own++fr) s H ex) tg ra bf) (hw:∀x,Wk (bf x (cb own ix Γ1)) (cb own ix Γ1))
 (ht:∀(C:Addr) (s:Shared) (H:Hp) (ex:List Addr) x,x∈xs->TF (aO X scope cl C (own++fr) s H ex) ifs (bf x (cb own ix Γ1)) (p x) (bf x (cb own ix Γ1)))
 (he:∀(C:Addr) (s:Shared) (H:Hp) (ex:List Addr) x,x∈xs->p x=true->EV (aO X scope cl C (own++fr) s H ex) elt (bf x (cb own ix Γ1)) rb (f x) (bf x (cb own ix Γ1)))
 (h:N (Γ1.set i (.mu rb ((xs.filter p).map f))))
 (hsw:swapsWith (.ListComp elt [⟨tg,iter,ifs,0⟩] scope pos) (some (.Name y py)) spos.line X.env=pure true:=by rfl)
 (hN:X.N.Nodup:=by first | assumption | decide) (hi':X.N[i]?=some y:=by rfl) (hx:Loc X.env.scope y:=by first | exact Or.inl rfl | exact Or.inr rfl)
 (hc:X.calm=true:=by rfl) (hs:∀x,foldedSetIterable iter X.env x=pure x:=by intro _;rfl) (hf:X.fn y=true∨X.env.scope.names.lookup y=some .local:=by first | exact .inl rfl | exact .inr rfl):
 W1 X (.Assign [.Name y py] (.ListComp elt [⟨tg,iter,ifs,0⟩] scope pos) spos) Γ N T:=λσ H0 R0 H R E D dn dr=>by
 obtain ⟨wi,hi,hit⟩:=hit
 refine sS (jJ (i:=i) (g:=λv σ H Q=>∀C s Hh ex,hG (aO X scope cl C (own++fr) s Hh ex) tg v σ H Q) (tc:=λσ H Q=>∀C s Hh ex,iW (aO X scope cl C (own++fr) s Hh ex) ifs σ H Q) (te:=λσ H Q=>∀C s Hh ex,dj (aO X scope cl C (own++fr) s Hh ex) elt σ H Q) hsw hN hi' hx hc S hi
  (λC s H ex=>⟨λpins s1 σ H v u Q I r h=>h C s _ ex pins s1 u I r,λpins s1 σ H Q I h=>h C s _ ex pins s1 I,λpins s1 σ H Q I h=>h C s _ ex pins s1 I⟩) hs hf) ?_
 refine hit σ H0 R0 H R E _ λJ H1 R1 E1 s1 hz src=>kX (Q:=λv H'=>D.nx (σ.set i (some v)) H') E1 src hz hb hw ht he λa vs H' R' xx ha pp=>?_
 have E2:=E1.grow xx
 exact dn _ _ R' _ ((E2.grow (Ext.dX E2.sub ha _)).si (u:=.lst vs) (en:=.mu rb ((xs.filter p).map f)) i ⟨a,vs,rfl,aA,E2.sub.free ha,pp⟩ (E2.ext.h.free ha) λj e _ q w=>E2.off ha j e q w) (s1.trans xx.r) h
end
section
variable {X:Cx}{Γ Γ1 Γ2 Γ3:Ga}{α β γ δ:Type}{N:Ga->Prop}{T:RT}
variable {pins:List (Addr×Obj)}{σ:St}{H:Hp}{s:Shared}{K:PySem.W.Frag}{es:List Expr}{tp p pos:Pos}{xs:List α}{r:Rep α}
theorem fK {h':Heap}{t':Nat}{fp:List Addr}(I:Inv X pins σ H s)(k:∀b o,b∉fp->s.heap.get? b=some o->h'.get? b=some o)(hf:∀b∈fp,gf X pins H b):Inv X pins σ H {s with heap:=h',toks:=t'}:=by
 have nit:∀b u,H b=some u->b∉fp:=λb u e z=>by rw [(hf b z).1] at e;cases e
 refine I.step (g':=s.gens) (d':=s.drawn) (ch:=fp) (λb hb=>⟨(hf b hb).2.2.2.1,(hf b hb).2.1,(hf b hb).2.2.2.2.1,(hf b hb).2.2.2.2.2⟩) (λb o _ _ hc e _=>k b o hc e) (λb o _ _ hc e _=>⟨o.slots,k b o hc e⟩) (λ_ _ _ _ n=>n)
  (λb o hc e=>⟨o,k b o hc e⟩) (λ_ _ e=>e) (λ_ _ _ e=>e) (λb ps e=>⟨#[],by rw [e];simp⟩) (λm hm=>?_) (λb u e=>?_) I.bare
 ·obtain ⟨o,es,ep,ho,r⟩:=hm
  exact ⟨o,es,ep,k _ o (λz=>(hf _ z).2.1 rfl) ho,r⟩
 ·refine (I.hok b u e).eP (λc v hc q=>k c v ?_ q) (λ_ q=>q) λ_ _ q=>q
  rcases hc with z | z
  ·rw [z];exact nit b u e
  ·exact nit c _ z
theorem adopt {a:Addr}{o:HO}(I:Inv X pins σ H s)(hf:gf X pins H a)(hy:X.s₀.heap.objs.size<=a)(new:br X.prog X.w (upd H a o) s.heap a o):Inv X pins σ (upd H a o) s:=by
 have ne:∀{b:Addr} {u:HO},H b=some u->b≠a:=λe=>bZ e hf.1
 have ne0:∀{b:Addr} {u:Obj},X.s₀.heap.get? b=some u->b≠a:=λe z=>absurd (Nat.lt_of_lt_of_le (Heap.lt_size e) hy) (by rw [z];exact Nat.lt_irrefl _)
 refine ⟨I.ok,I.os,I.bare,⟨I.base.keep,I.base.slot,λb u e n hx=>by rw [az (ne0 e)];exact I.base.free b u e n hx,I.base.there,λb xs e=>?_,λb u v e=>?_,λb ps e=>?_⟩,I.loc,I.cell,?_,λx c e=>?_,λp hp=>?_,λb u e=>?_,I.len⟩
 ·have q:=I.base.tups b xs e;rw [az (ne q)];exact q
 ·have q:=I.base.frzs b u v e;rw [az (ne q)];exact q
 ·obtain ⟨m,q⟩:=I.base.tbls b ps e;exact ⟨m,by rw [az (ne q)];exact q⟩
 ·rw [az (Ne.symm hf.2.1)];exact I.free
 ·rw [az (hf.2.2.2.2.1 x c e)];exact I.freeC x c e
 ·obtain ⟨e,n,r⟩:=I.pin p hp
  exact ⟨e,by rw [az (hf.2.2.2.2.2 p hp)];exact n,r⟩
 ·by_cases hb:b=a
  ·subst hb;rw [aA] at e;cases e;exact new
  ·rw [az hb] at e
   exact (I.hok b u e).eP (λc v _ q=>q) (λc q=>by rw [az (ne q)];exact q) λc xs q=>by rw [az (ne q)];exact q
def AK (K:PySem.W.Frag)(a:Addr):It:=
 ⟨λi H=>∃xs x,bI K H a xs/\xs[i]?=some x,λi H v H'=>∃p x,H p=none/\v= .ref p/\H'=upd H p (.tup [.int i,x])/\∀xs,bI K H a xs->xs[i]?=some x,λi H=>∃xs,bI K H a xs/\xs.length<=i⟩
theorem qh {P:Program}{w:World}{k:Nat}(a e it:Addr)(hei:e≠it):Turn P w K (.Tuple es k tp) (AK K a) [e,it] e (λi h=>(∃old,IsEnum h e it i old)/\h.IsListIter it a i) where
 mem:=by simp
 obj:=λi h st b hb=>by
  obtain ⟨⟨old,he⟩,o,ho,hc,hd⟩:=st
  rcases List.mem_cons.mp hb with rfl | hb
  ·exact ⟨_,he,λv z=>by cases z⟩
  ·have e2:b=it:=by simpa using hb
   subst e2
   exact ⟨o,ho,λv z=>by rw [hd] at z;cases z⟩
 keep:=λi h h' st kk=>⟨st.1.elim λold he=>⟨old,kk e (by simp) _ he⟩,st.2.at λo x=>kk it (by simp) o x⟩
 item:=by
  intro X hP hw hK hc i pins s σ H E I hf st hg
  subst hP hw hK
  obtain ⟨⟨old,he⟩,hit⟩:=st
  obtain ⟨xs,x,hq,hx⟩:=hg
  obtain ⟨its,r,pl,hz⟩:=I.list hq
  obtain ⟨u,hu,rx⟩:=r.get hx
  have hn:H s.heap.objs.size=none:=I.hok.fresh (Nat.le_refl _)
  refine wpAny_pyNext_enum_item he hit pl.isList (x:=u) (by simpa using hu) hei λh' ho hit' hT hsz hk=>?_
  refine ⟨_,rfl,?_⟩
  refine wpAny_letOwnedTupleGo_enum (s:={s with heap:=h',toks:=s.toks + 1}) ho λh2 he2 hs2=>?_
  have hk2:∀b o,b∉[e,it]->s.heap.get? b=some o->h2.get? b=some o:=λb o hb q=>by
   have hbe:b≠e:=λz=>hb (by simp [z])
   exact hs2.extBut b o hbe (hk b o hbe (λz=>hb (by simp [z])) q)
  have I1:Inv X pins σ H {s with heap:=h2,toks:=s.toks + 1}:=fK I hk2 hf
  have hel:e≠s.heap.objs.size:=Nat.ne_of_lt (Heap.lt_size he)
  have hT2:h2.get? s.heap.objs.size=some {cls:=.type "tuple",data:=.seq #[.int i s.toks,u]}:=(hs2.2 _ (Ne.symm hel)).trans hT
  have I2:Inv X pins σ (upd H s.heap.objs.size (.tup [.int i,x])) {s with heap:=h2,toks:=s.toks + 1}:=
   adopt I1 (I.ia (Nat.le_refl _) hn) (I.sz) ⟨by show 2<=sizeLine;decide,[.int i s.toks,u],.cons ⟨_,rfl⟩ (.cons rx .nil),⟨_,hT2,rfl,_,rfl⟩⟩
  refine ⟨.ref s.heap.objs.size,_,I2,rfl,⟨s.heap.objs.size,x,hn,rfl,rfl,λys hy=>?_⟩,⟨⟨u,by simpa using he2⟩,hit'.at λo y=>(hs2.2 it (Ne.symm hei)).trans y⟩,λb hb=>?_⟩
  ·rw [I.mx hy hq];exact hx
  ·have hlt:b < s.heap.objs.size:=by
    rcases List.mem_cons.mp hb with rfl | hb
    ·exact Heap.lt_size he
    ·have e2:b=it:=by simpa using hb
     subst e2
     obtain ⟨o,ho,_⟩:=hit
     exact Heap.lt_size ho
   rw [az (Nat.ne_of_lt hlt)]
   exact (hf b hb).1
 done:=by
  intro X hP hw hK hc i pins s σ H E I hf st hg
  subst hP hw hK
  obtain ⟨⟨old,he⟩,hit⟩:=st
  obtain ⟨xs,hq,hx⟩:=hg
  obtain ⟨its,r,pl,hz⟩:=I.list hq
  refine wpAny_pyNext_enum_end (I.ok.hd hc) he hit pl.isList (by have:=r.length;simp;omega) λh' hk=>⟨rfl,?_⟩
  exact fK (t':=s.toks) I (λb o hb q=>hk b o (λz=>hb (by simp [z])) q) hf
 self:=λ_ _ _ _ _ st h=>st.1.elim λold he=>wpAny_pyIter_enum he h
def z9 (K:PySem.W.Frag)(ta:TA):TI:=λσ H R=>ta σ H λvs H1=>∃a xs,vs=[.ref a]/\bI K H1 a xs/\R (AK K a) H1
theorem vO {a:Expr}{ta:TA}{k:Nat}(hg:Gl X "enumerate")(hm:X.mg "enumerate"=none)(ha:PA X [a] ta)(hs:starEach [a] X.env=[(false,eval a X.env)]:=by rfl):PI X (.Tuple es k tp) (.Call (.Name "enumerate" p) [a] [] pos) (z9 X.K ta):=by
 intro pins s σ H R I h
 refine Call_ (gr I hg hm boot_enumerate (PyProof.Rows.callWith_type1 (aI (ha pos pins s σ H _ I h) λus s1 ⟨vs,H1,I1,r1,q1⟩=>?_) hs rfl))
 obtain ⟨l,xs,e,hq,q⟩:=q1
 subst e
 cases r1 with
 | cons r rr=>
   cases rr
   cases r
   obtain ⟨its,r',pl,hz⟩:=I1.list hq
   refine call_enumerate_list pl.isList λh' he hit hsz hk=>?_
   refine wpAny_pyIter_enum he ?_
   have I2:Inv X pins σ H1 {s1 with heap:=h'}:=I1.kept (t':=s1.toks) hk
   have f0:H1 s1.heap.objs.size=none:=I1.hok.fresh (Nat.le_refl _)
   have f1:H1 (s1.heap.objs.size + 1)=none:=I1.hok.fresh (Nat.le_succ _)
   refine ⟨s1.heap.objs.size + 1,[s1.heap.objs.size + 1,s1.heap.objs.size],_,_,H1,rfl,I2,qh l (s1.heap.objs.size + 1) s1.heap.objs.size (Nat.ne_of_gt (Nat.lt_succ_self _)),⟨⟨.none,he⟩,hit⟩,λb hb=>?_,q⟩
   rcases List.mem_cons.mp hb with rfl | hb
   ·exact I1.ia (Nat.le_succ _) f1
   ·have e2:b=s1.heap.objs.size:=by simpa using hb
    subst e2
    exact I1.ia (Nat.le_refl _) f0
def nums (xs:List α):List (Int×α):=(xs.zipIdx).map λp=>((p.2:Int),p.1)
theorem ja (xs:List α):(nums xs).length=xs.length:=by unfold nums;rw [List.length_map,List.length_zipIdx]
theorem j8 {i:Nat}{y:Int×α}(h:(nums xs)[i]?=some y):y.1=(i:Int)/\xs[i]?=some y.2:=by
 unfold nums at h
 rw [List.getElem?_map,List.getElem?_zipIdx] at h
 cases e:xs[i]? with
 | none=>rw [e] at h;cases h
 | some x=>rw [e] at h;cases h;exact ⟨by simp,rfl⟩
theorem m3 {a:Expr}{k:Nat}(hm:X.mg "enumerate"=none)(ha:EV X a Γ (ai r) xs Γ1)(hs:starEach [a] X.env=[(false,eval a X.env)]:=by rfl)(hg:Gl X "enumerate":=by rfl):
 IV X (.Tuple es k tp) (.Call (.Name "enumerate" p) [a] [] pos) Γ (i0 ae r) (nums xs) Γ1:=by
 refine ⟨_,vO hg hm (aE aL bt hs) hs,λσ H0 R0 H R E Rq q=>ha σ H0 R0 H R E _ λv H1 R1 E1 s1 e1=>?_⟩
 obtain ⟨a,vs,rfl,hp,pp,z⟩:=e1
 refine ⟨a,vs,rfl,bI.of (E1.sub _ _ hp),q _ H1 R1 E1 s1 (by rw [ja];exact z) λH' R' sR sH i=>⟨λy hy=>?_,λhi=>?_⟩⟩
 ·have hq:bI X.K H' a vs:=bI.of (sH _ _ (sR _ _ hp))
  obtain ⟨e1,e2⟩:=j8 hy
  obtain ⟨v,hv,hr⟩:=cV pp e2
  refine ⟨⟨vs,v,hq,hv⟩,λv' H2 hyl=>?_⟩
  obtain ⟨p,x,hpn,rfl,rfl,hy⟩:=hyl
  have:=hy vs hq
  rw [hv] at this
  cases this
  have s2:aj R' (upd R' p (.tup [.int i,v])):=aj.fresh (sH.free hpn) _
  exact ⟨upd R' p (.tup [.int i,v]),Ext.fresh sH hpn _,p,_,_,rfl,aA,by rw [e1];rfl,r.mono s2 (r.mono sR hr)⟩
 ·exact ⟨vs,bI.of (sH _ _ (sR _ _ hp)),by rw [pp.length,← ja xs];exact hi⟩
theorem mM:dz X (.builtin "isinstance") (λxs H Q=>∃x c t b,xs=[x,.ty c]/\cy X.K H x t/\PySem.W.kitOne X.K t (.type c)=some b/\Q (.bl b) H):=by
 intro pins s σ H xs us Q I r h
 obtain ⟨x,c,t,b,rfl,ty,e,q⟩:=h
 obtain ⟨u,u2,rfl,r1,r2⟩:=vals2 r
 cases (show u2=Value.type c from r2)
 exact pJ I r1 ty e λtk=>⟨.bl b,H,I.tok tk,rfl,q⟩
theorem aF {e:Expr}{y:Str}{p2:Pos}{x:α}{c:String}{t:Value}{b:Bool}(hm:X.mg "isinstance"=none)(hmy:X.mg y=none)(hvy:bootBuiltins y=some (.type c))(he:EV X e Γ r x Γ1)
 (ty:∀(R H:Hp) v,aj R H->r.R X.K R v x->cy X.K H v t) (ht:∀K:PySem.W.Frag,PySem.W.kitOne K t (.type c)=some b:=by intro;rfl)
 (hs:starEach [e,.Name y p2] X.env=(false,eval e X.env)::starEach [.Name y p2] X.env:=by rfl) (hg:Gl X "isinstance":=by rfl) (hgy:Gl X y:=by rfl) (hny:y≠"__name__":=by decide) (hdy:(y==("__debug__":Str))=false:=by decide):EV X (.Call (.Name "isinstance" p) [e,.Name y p2] [] pos) Γ bq b Γ1:=by
 intro σ H0 R0 H R E Q q
 refine eS (cj mM hg hm PyProof.Rows.boot_isinstance (aE aL (aE (mY (v:=.ty c) hgy hmy hvy rfl hny hdy) bt rfl) hs) (by decide) (by decide) hs rfl) (he σ H0 R0 H R E _ λv H1 R1 E1 s1 e1=>?_)
 exact ⟨v,c,t,b,rfl,ty R1 H1 v E1.sub e1,ht _,q _ H1 R1 E1 s1 rfl⟩
theorem ty_int {x:Int}(R H:Hp)(v:V)(_:aj R H)(h:ae.R K R v x):cy K H v (.type "int"):=by cases h;exact .int _
theorem ty_list (R H:Hp)(v:V)(s:aj R H)(h:(ai r).R K R v xs):cy K H v (.type "list"):=by obtain ⟨a,vs,rfl,e,_⟩:=h;exact .lst (s _ _ e)
theorem in1_units (A:Around):A.in1.units=A.units + 1:=rfl
theorem pO {X:Cx}{R:Hp}{A:Around}(I:Inv X pins σ H s)(sub:aj R H){a b:Addr}{vs ws:List V}{k:Nat->Bool}(ha:R a=some (.tup vs))(hb:R b=some (.tup ws))(hl:vs.length=ws.length)(hu:A.units < cLine)
 (he:∀(us us':List Value),Vals vs us->Vals ws us'->∀(j:Nat) (h1:j < us.toArray.size) (h2:j < us'.toArray.size),SeqAt.EqAt A.in1 s us.toArray[j] us'.toArray[j] (k j)):
 SeqAt.RcAt A s (.ref a) (.ref b) ((List.range vs.length).all k)/\SeqAt.RcNeAt A s (.ref a) (.ref b) (!(List.range vs.length).all k):=by
 obtain ⟨us,hv,pl,_⟩:=I.tuple (bH.of (sub _ _ ha))
 obtain ⟨us',hw,pl',_⟩:=I.tuple (bH.of (sub _ _ hb))
 have lx:us.toArray.size=vs.length:=by rw [List.size_toArray,← hv.length]
 have ly:us'.toArray.size=vs.length:=by rw [List.size_toArray,← hw.length,hl]
 have r1:=SeqAt.RcAt.tuples (A:=A) pl pl' hu (he us us' hv hw)
 have r2:=SeqAt.RcNeAt.tuples (A:=A) pl pl' hu (he us us' hv hw)
 rw [lx,ly,Nat.min_self] at r1 r2
 simp only [beq_self_eq_true,Bool.and_true] at r1 r2
 exact ⟨r1,r2⟩
end
def kD (scope:Scope)(env:Env):List (Str×Addr):=(scope.names.filterMap λp=>if p.2== .free then (env.cells.lookup p.1).map (λc=>(p.1,c)) else none).reverse
theorem j1 {env:Env}:∀(names:List (Str×NameKind)) (acc:List (Str×Addr)),(∀y∈names,y.2= .free->∃c,env.cells.lookup y.1=some c)->
 (forIn names acc λ(x:Str×NameKind) (r:List (Str×Addr))=>if (x.2==NameKind.free)=true then do let a ← cellOf env x.1;pure (ForInStep.yield ((x.1,a)::r)) else pure (ForInStep.yield r):Sem (List (Str×Addr)))
  =pure ((names.filterMap λp=>if p.2== .free then (env.cells.lookup p.1).map (λc=>(p.1,c)) else none).reverse++acc)
 | [],acc,_=>rfl
 | (n,k)::r,acc,h=>by
   have ih:=j1 (env:=env) r
   rw [List.forIn_cons,List.filterMap_cons]
   cases hk:(k==NameKind.free) with
   | false=>
     simp only [hk,Bool.false_eq_true,if_false]
     rw [pure_bind]
     exact ih acc λy hy=>h y (List.mem_cons_of_mem _ hy)
   | true=>
     obtain ⟨c,hc⟩:=h (n,k) List.mem_cons_self (eq_of_beq hk)
     have hcell:cellOf env n=pure c:=by unfold cellOf;rw [hc]
     simp only [hk,if_true,hc,Option.map_some,hcell]
     rw [pure_bind,pure_bind]
     show forIn r ((n,c)::acc) _=_
     rw [ih ((n,c)::acc) λy hy=>h y (List.mem_cons_of_mem _ hy)]
     simp
theorem oy {X:Cx}{scope:Scope}{own fr:List Str}{ix:List Nat}(hk:scope.kind= .function)(hn:∀y∈scope.names,y.2≠ .cell)(hl:∀y∈scope.names,y.2= .local->scope.names.lookup y.1=some .local)
 (hc:∀x,X.env.scope.names.lookup x=some .cell->∃c,X.env.cells.lookup x=some c) (hf:∀y∈scope.names,y.2= .free->X.env.scope.names.lookup y.1=some .cell)
 (hfr:∀x∈fr,scope.names.lookup x=some .free) (hlen:fr.length=ix.length) (hat:∀(k i:Nat) (x:Str),ix[k]?=some i->fr[k]?=some x->X.N[i]?=some x):cJ X scope (kD scope X.env) own fr ix:=by
 have free:∀y∈scope.names,y.2= .free->∃c,X.env.cells.lookup y.1=some c:=λy hy e=>hc _ (hf y hy e)
 refine ⟨?_,λx c e=>?_,hk,hn,hl,λx e=>?_,hfr,hlen,λk i x e1 e2=>⟨hat k i x e1 e2,hf (x,.free) (PySem.mem_of_lookup (hfr x (List.mem_of_getElem? e2))) rfl⟩⟩
 ·have:=j1 (env:=X.env) scope.names [] free
  rw [List.append_nil] at this
  have e:closureFor scope X.env=((forIn scope.names [] λ(x:Str×NameKind) (r:List (Str×Addr))=>if (x.2==NameKind.free)=true then do let a ← cellOf X.env x.1;pure (ForInStep.yield ((x.1,a)::r)) else pure (ForInStep.yield r):Sem (List (Str×Addr))) >>=λcs=>pure cs):=rfl
  rw [e,this,pure_bind]
  rfl
 ·have m:=PySem.mem_of_lookup e
  unfold kD at m
  obtain ⟨p,_,hp⟩:=List.mem_filterMap.mp (List.mem_reverse.mp m)
  split at hp
  ·cases q:X.env.cells.lookup p.1 with
   | none=>rw [q] at hp;cases hp
   | some c'=>rw [q] at hp;cases hp;exact q
  ·cases hp
 ·have m:=PySem.mem_of_lookup e
  obtain ⟨c,hcc⟩:=free _ m rfl
  have m2:(x,c)∈kD scope X.env:=by
   unfold kD
   refine List.mem_reverse.mpr (List.mem_filterMap.mpr ⟨(x,.free),m,?_⟩)
   simp [hcc]
  cases q:(kD scope X.env).lookup x with
  | some c'=>exact ⟨c',rfl⟩
  | none=>
    rw [List.lookup_eq_none_iff] at q
    exact absurd (q _ m2) (by simp)
def pT (scope so:Scope)(N0 fr:List Str)(ix:List Nat):Bool:=
 decide (scope.kind= .function)&&scope.names.all (λy=>decide (y.2≠ .cell)&&(decide (y.2≠ .local) ||decide (scope.names.lookup y.1=some .local))&&(decide (y.2≠ .free) ||decide (so.names.lookup y.1=some .cell)))
  &&fr.all (λx=>decide (scope.names.lookup x=some .free))&&decide (fr.length=ix.length)&&(List.range ix.length).all λk=>match ix[k]?,fr[k]? with | some i,some x=>decide (N0[i]?=some x) | _,_=>true
theorem eD {X:Cx}{scope so:Scope}{N0 own fr:List Str}{ix:List Nat}(hso:X.env.scope=so)(hN0:X.N=N0)(hc:∀x,X.env.scope.names.lookup x=some .cell->∃c,X.env.cells.lookup x=some c)(h:pT scope so N0 fr ix=true):cJ X scope (kD scope X.env) own fr ix:=by
 unfold pT at h
 simp only [Bool.and_eq_true,Bool.or_eq_true,decide_eq_true_eq,List.all_eq_true] at h
 obtain ⟨⟨⟨⟨h1,h2⟩,h3⟩,h4⟩,h5⟩:=h
 refine oy h1 (λy hy=>(h2 y hy).1.1) (λy hy e=>(h2 y hy).1.2.resolve_left λz=>z e) hc (λy hy e=>by rw [hso];exact (h2 y hy).2.resolve_left λz=>z e) h3 h4 λk i x e1 e2=>?_
 have hk:k < ix.length:=(List.getElem?_eq_some_iff.mp e1).1
 have:=h5 k (List.mem_range.mpr hk)
 rw [e1,e2] at this
 rw [hN0]
 simpa using this
section
variable {X:Cx}{Γ Γ1 Γ2 Γ3:Ga}{α β γ δ:Type}{N:Ga->Prop}{T:RT}
end
section
variable {X:Cx}{Γ Γ1 Γ2 Γ3:Ga}{α β γ δ:Type}{N:Ga->Prop}{T:RT}
theorem vz:cU X (binaryOp .Mult) (rI IntMulOk λi j=>.int (i * j)):=mZ λ_ _ _ _ _ _ _ hc q=>mul_int q hc
theorem kE {a b:Expr}{pos:Pos}{x y:Int}(ha:EV X a Γ ae x Γ1)(hb:EV X b Γ1 ae y Γ2)(h:IntMulOk x y):EV X (.BinOp a .Mult b pos) Γ ae (x * y) Γ2:=fC vz ha hb λR v u H Q e1 e2 q=>⟨x,y,e1,e2,h,q _ rfl⟩
theorem aw.zT {K:PySem.W.Frag}{σ:St}{H0 R0 H R:Hp}(E:aw K σ H0 R0 H R Γ){i:Nat}{e0 en:Ent}(hi:Γ[i]?=some e0)(ho:en.ok K H R (σ[i]?).join)(hsub:∀b∈en.fp (σ[i]?).join,H0 b=none/\∀(j:Nat) (e:Ent),j≠i->Γ[j]?=some e->b∉e.fp (σ[j]?).join):aw K σ H0 R0 H R (Γ.set i en):=by
 refine ⟨E.ext,λj e q=>?_,λj e b q w=>?_,λj k e e' b q q' w w'=>?_,by rw [List.length_set];exact E.len⟩
 ·rcases set_at q with ⟨rfl,rfl,_⟩ | ⟨hj,q1⟩
  ·exact ho
  ·exact E.ent j e q1
 ·rcases set_at q with ⟨rfl,rfl,_⟩ | ⟨hj,q1⟩
  ·exact (hsub b w).1
  ·exact E.nw j e b q1 w
 ·rcases set_at q with ⟨rfl,rfl,_⟩ | ⟨hj,q1⟩
  ·rcases set_at q' with ⟨rfl,rfl,_⟩ | ⟨hk,q1'⟩
   ·rfl
   ·exact absurd w' ((hsub b w).2 k e' hk q1')
  ·rcases set_at q' with ⟨rfl,rfl,_⟩ | ⟨hk,q1'⟩
   ·exact absurd w ((hsub b w').2 j e hj q1)
   ·exact E.ds _ _ _ _ b q1 q1' w w'
variable {P:Program}{w:World}{K:PySem.W.Frag}{mg:Str->Option Value}{base:Heap}
end
section
variable {X:Cx}{Γ Γ1 Γ2 Γ3:Ga}{α β γ δ:Type}{N:Ga->Prop}{T:RT}
def gy:Ent->Ent
 | .im r x=>.im r x
 | _=>.no
theorem aw.frz {K:PySem.W.Frag}{σ:St}{H0 R0 H R:Hp}(E:aw K σ H0 R0 H R Γ):aw K σ H H H H (Γ.map gy):=by
 have noown:∀(i:Nat) (e:Ent) (o:Option V),(Γ.map gy)[i]?=some e->e.fp o=[]:=λi e o q=>by
  rw [List.getElem?_map] at q
  cases h:Γ[i]? with
  | none=>rw [h] at q;cases q
  | some e'=>rw [h] at q;cases q;cases e'<;>rfl
 refine ⟨Ext.refl (aj.refl _),λi e q=>?_,λi e a q w=>absurd w (by rw [noown i e _ q];exact List.not_mem_nil),λi j e e' a q _ w=>absurd w (by rw [noown i e _ q];exact List.not_mem_nil),by rw [List.length_map];exact E.len⟩
 rw [List.getElem?_map] at q
 cases h:Γ[i]? with
 | none=>rw [h] at q;cases q
 | some e'=>
   rw [h] at q;cases q
   have:=E.ent i e' h
   cases e' with
   | im r x=>obtain ⟨v,e,hr⟩:=this;exact ⟨v,e,r.mono E.sub hr⟩
   | no=>trivial
   | mu r x=>trivial
   | di x=>trivial
   | ob x=>trivial
end
variable {P:Program}{w:World}{K:PySem.W.Frag}{mg:Str->Option Value}{base:Heap}
theorem wV {S:cE}{x qual:Str}{st:Stmt}{f:Addr}{fd:FuncData}{N ps:List Str}{k:Nat}(F:bL K x qual st f fd)(Sc:aR N ps (aq st))(len:∀qs T,S K qs T->qs.length=ps.length)
 (hbody:∀(cdv:Value) (A:Around) (outer:List Env) (s:Shared) (H:Hp) (E:XK) (qs:List Pk) (T:RT),bg k (A.deeper (envOfC qual (aq st) s.heap.objs.size f cdv))->S K qs T->
  WS (bA cL P w K mg base N qual (aq st) f cdv A outer s H E).cD (bz st) (eG qs N.length) (λ_=>False) T):cq P w K mg base cL (k + 1) f fd ps (aZ S K):=by
 refine F.ok Sc (λvs H Q E h=>?_) (λcdv A outer s H vs Q E hr h=>?_)
 ·obtain ⟨R,qs,T,_,p,hS,_⟩:=h
  rw [p.length];exact len qs T hS
 ·obtain ⟨R,qs,T,sR,p,hS,q⟩:=h
  have hl:qs.length<=N.length:=by
   rw [len qs T hS]
   have:=congrArg List.length Sc.pre
   rw [List.length_take] at this
   omega
  exact ⟨_,eh,hbody cdv A outer s H E qs T hr hS (L2.start N vs) H R H R (fj sR p hl) {nx:=λ_ H'=>Q .non H',rt:=Q} (λ_ _ _ _ _ _ f=>f.elim) λv H' R' xx t=>q v H' R' xx t⟩
def Def (K:PySem.W.Frag)(mg:Str->Option Value)(x:Str)(st:Stmt)(ps:List Str):Prop:=∃f fd,bL K x x st f fd/\mg x=some (.ref f)/\Binds K fd ps []
theorem bM {h:Heap}{x:Str}{st:Stmt}{ps:List Str}{f:Addr}{oc:Value}{od an:Option Addr}{osl:Array (Option Value)}{kV doc pm cdv ct:Value}(KX:K.In h)(G:h.Ns mainGlobals mg)
 (a:PySem.W.nsIn K mainGlobals x=some (some (.ref f))) (l:K.lookup f=some ⟨oc,od,.func (PySem.W.fnOf x x (dv st) (bz st) (aq st) .none kV doc pm an cdv ct),osl⟩) (c:PySem.W.codeIn K cdv x=true) (k:PySem.W.keepIn K (.ref f)=true)
 (b:∀(kV doc pm:Value) (an:Option Addr) (cdv ct:Value) (us:List Value),us.length=ps.length->bindArgs (PySem.W.fnOf x x (dv st) (bz st) (aq st) .none kV doc pm an cdv ct) ⟨us,[]⟩=pure (ps.zip us)):Def K mg x st ps:=
 ⟨f,_,gg l c k,PySem.W.mg_of KX G a,(gg l c k).binds b⟩
open PySem.Builtin.Int (intBits)
theorem mR {ns:List Int}(h:PySem.W.WData.layableAll [.list (ns.map .int)]=true):∀n∈ns,intBits n<=2 ^ 20:=λn hn=>by
 have h1:=PySem.W.layableW_arg h _ (List.mem_singleton.mpr rfl)
 have h2:=PySem.W.layableW_item h1 (.int n) (List.mem_map.mpr ⟨n,hn,rfl⟩)
 exact PySem.PyData.bits_of_layable h2
end Fc
namespace Att
open PySem PySem.W PySem.Calls PyProof.Rows
open PySem.Builtin.Int (intBits)
theorem lD {l:OpenLaw}{n:Nat}{q:Program}{loose:List Str}{XP:(Str->Option Value)->Heap->Prop}{YP:World->Heap->Prop}{d:DefRec}
 (hn:l.most=some n) (hdf:d.params.defaults=[])
 (call:∀(w:World) (s₀ s₁:Shared) (mg mb:Str->Option Value) (fa:Addr) (o:Obj) (pm cd doc:Value) (a:Addr) (vs:List Value) (ns:List Int),
  Ground q loose [] XP w s₀ mg mb s₁.heap->YP w s₁.heap->
  s₁.heap.get? fa=some o->o.data= .func (docDef d.name d.params d.body d.scope pm cd doc)->s₁.heap.CodeRec cd d.name->mg d.name=some (.ref fa)->
  s₁.heap.get? a=some {cls:=.type "list",data:=.seq vs.toArray}->IntsAre vs ns->ns.length<=n->(∀m∈ns,intBits m<=2 ^ 20)->s₁.gens= #[]->
  codeAny (model l.prog w) callerA (.call (.ref fa) ⟨[.ref a],[]⟩) (λr s'=>r= .ok (.ret (.bool true))/\OldK s₁.heap s'.heap/\s'.os=s₁.os/\AllBare s'.gens) s₁):
 WalkO q loose XP YP l.row.toRowW d [] (λf vs=>PySem.call f vs):=by
 intro w s₀ s₁ mg mb G Y fa o pm cd doc dV kV ho hd hcd hD hmg hg args vals as hpre hlay hrd hwl hlo
 obtain rfl:dV= .none:=Dflts.none hD hdf
 obtain rfl:kV= .none:=Dflts.noKw hD
 obtain ⟨a,vs,ns,rfl,rfl,hobj,hints,hlen⟩:=p8 hn hpre hwl
 refine enter_call (codeAny_mono (call w s₀ s₁ mg mb fa o pm cd doc a vs ns G Y ho (fd_plain hd) hcd hmg hobj hints hlen (Fc.mR hlay) hg) λr s' hq=>?_)
 obtain ⟨rfl,h2,h3,h4⟩:=hq
 exact ⟨.inl ⟨.bool true,.bool true,[],rfl,λ_=>rfl,.bool true,qM l _,λ_=>⟨List.Pairwise.nil,λ_ hm=>(nomatch hm)⟩⟩,h2,h3,h4⟩
end Att
namespace L2
open PySem PySem.Spec PyProof.Rows
open PySem.Builtin.Int (intBits)
theorem sI {l:PySem.W.OpenLaw}{n k:Nat}{q:Program}{loose:List Str}{XP:(Str->Option Value)->Heap->Prop}{YP:World->Heap->Prop}{d:DefRec}{K:Params->PySem.W.Frag}{CX:World->gI}{sp:World->Sp}{x:Str}
 (hn:l.most=some n) (hn2:n<=sizeLine) (hdf:d.params.defaults=[]) (hr:bg k callerA)
 (hY:∀(w:World) (h:Heap),YP w h->(K w.params).In h)
 (F:∀(w:World) (mg:Str->Option Value) (fa:Addr) (h:Heap),(K w.params).In h->h.Ns mainGlobals mg->mg d.name=some (.ref fa)->
  ∃fd:FuncData,(∀(s:Shared) (u:Value),BindsTo s fd ⟨[u],[]⟩ [(x,u)])/\
   ∀base:Heap,(K w.params).In base->base.Ns mainGlobals mg->cq l.prog w (K w.params) mg base (CX w) k fa fd [x] (sp w))
 (hsp:∀(w:World) (H:Hp) (a:Addr) (ns:List Int),ns.length<=n->(∀m∈ns,intBits m<=2 ^ 20)->rL H->bI (K w.params) H a (ns.map V.int)->sp w [.ref a] H (λv _=>v= .bl true) λ_ _ _=>False)
 (hCX:∀(w:World) (H:Hp) (s:Shared) (e:Value) (s':Shared),CX w [] H s (λ_ _ _=>False) e s'->False):
 PySem.W.WalkO q loose XP YP l.row.toRowW d [] (λf vs=>PySem.call f vs):=by
 refine Att.lD hn hdf λw s₀ s₁ mg mb fa o pm cd doc a vs ns G Y ho hd hcd hmg hobj hints hlen hbits hg=>?_
 have KX:=hY w _ Y
 obtain ⟨fd,hb,hF⟩:=F w mg fa _ KX G.T.g hmg
 exact tq KX G.T.g G.T.b G.T.builtins G.T.nolimit hg hobj hints (Nat.le_trans hlen hn2) hr hF hb (λH hO hS=>hsp w H a ns hlen hbits hO hS) λH e s'=>hCX w H s₁ e s'
end L2
namespace Fc
open PySem PySem.Spec L2
open PyProof.Rows hiding St
section
variable {H:Hp}{h:Heap}
structure nz (h0 h:Heap) (H:Hp) (e T:Addr) (cls:Value):Prop where
 ex:∃oe vs oT ts a0,h.get? e=some oe/\(oe.cls=cls/\vs[0]?=some a0)/\oe.data= .fields vs/\vs[1]?=some (.ref T)/\T≠e/\h.get? T=some oT/\oT.data= .fields ts/\ts[3]?=some .none
 ne:h0.get? e=none
 nT:h0.get? T=none
 fe:H e=none
 fT:H T=none
theorem gK {h b0 h0:Heap}{fs:List Addr}:∀{l:List Env},h.FunFrames b0 l->(∀b∈bo l,b∈fs)->h.FunFrames (PySem.W.hideAll h0 fs) l
 | [],_,_=>trivial
 | env::rest,hl,hs=>by
   obtain ⟨hk,⟨L,o,hf,hn,ho,hd⟩,hr⟩:=hl
   refine ⟨hk,⟨L,o,hf,PySem.W.hideAll_none fs (hs L ?_),ho,hd⟩,gK hr λb hb=>hs b ?_⟩
   ·show L∈(env::rest).filterMap (·.frame)
    rw [List.filterMap_cons,hf];exact List.mem_cons_self
   ·show b∈(env::rest).filterMap (·.frame)
    rw [List.filterMap_cons,hf];exact List.mem_cons_of_mem _ hb
theorem Un.shrink {fs fs' ex:List Addr}{H':Hp}{h':Heap}(u:Un fs ex H H' h h')(hs:∀b o,h.get? b=some o->b∈fs->b∈fs'):Un fs' ex H H' h h':=
 ⟨λb o q n hb he=>u.keep b o q n (λz=>hb (hs b o q z)) he,λb o q n _ he=>u.any q n he,u.free,u.there,u.tups,u.frzs,u.tbls⟩
theorem br.there {P:Program}{w:World}{a:Addr}{o:HO}(x:br P w H h a o):∃ob,h.get? a=some ob:=by
 cases o with
 | lst xs=>obtain ⟨_,_,_,_,e⟩:=x;exact ⟨_,e⟩
 | tup xs=>obtain ⟨_,_,_,p⟩:=x;obtain ⟨o,e,_⟩:=p;exact ⟨o,e⟩
 | dK kvs=>obtain ⟨_,_,_,_,o,_,_,e,_⟩:=x;exact ⟨_,e⟩
 | dT kvs=>obtain ⟨_,_,_,_,o,_,_,e,_⟩:=x;exact ⟨_,e⟩
 | set S n=>obtain ⟨o,_,_,_,e,_⟩:=x;exact ⟨_,e⟩
 | ins C dx fs=>obtain ⟨_,_,_,e,_⟩:=x;exact ⟨_,e⟩
 | own y=>obtain ⟨_,e⟩:=x;exact ⟨_,e⟩
 | xd fs=>obtain ⟨_,⟨_,_,_,e,_⟩,_⟩:=x;exact ⟨_,e⟩
 | rng lo hi=>obtain ⟨_,_,_,e⟩:=x;exact ⟨_,e⟩
 | frz ob u=>obtain ⟨e,_⟩:=x;exact ⟨_,e⟩
 | tbl ps=>exact ⟨_,show h.get? a=some _ from x⟩
 | met f y=>exact ⟨_,show h.get? a=some _ from x⟩
 | ext φ=>obtain ⟨_,⟨_,e⟩,_⟩:=x;exact ⟨_,e⟩
theorem bO.none_of {P:Program}{w:World}(x:bO P w H h){a:Addr}(e:h.get? a=none):H a=none:=by
 cases q:H a with
 | none=>rfl
 | some u=>
   obtain ⟨ob,r⟩:=br.there (x a u q)
   rw [e] at r;cases r
theorem dh {fs:List Addr}{H':Hp}{h':Heap}(u:Un fs [] H H' h h'){b:Addr}(e:h'.get? b=none):h.get? b=none:=by
 cases q:h.get? b with
 | none=>rfl
 | some o=>
   obtain ⟨o',r⟩:=u.there b o q List.not_mem_nil
   rw [e] at r;cases r
abbrev ft:List Value:=[.type "ValueError",.type "Exception",.type "BaseException",.type "object"]
end
section
variable {X:Cx}{Γ Γ1:Ga}
def RS (X:Cx)(H0 R0:Hp)(sts:List Stmt)(Γ:Ga):Prop:=∀(σ:St) (H R:Hp),aw X.K σ H0 R0 H R Γ->∀D:Ends,hJ X sts D σ H
theorem jt.cD {st:Stmt}{D:Ends}{σ:St}{H:Hp}(h:jt X.cD st D σ H):jt X st D σ H:=λpins s I=>
 wpAny_mono (h pins s (I.ei _)) (λ_ _ q=>q.dc) λ_ _ z=>False.elim z
theorem fW.cD {e:Expr}{Q:Bool->Hp->Prop}{σ:St}{H:Hp}(h:fW X.cD e σ H Q):fW X e σ H Q:=λpins s I=>
 wpAny_mono (h pins s (I.ei _)) (λ_ _ ⟨H',I',q⟩=>⟨H',I'.dc,q⟩) λ_ _ z=>False.elim z
theorem vE {H0 R0:Hp}{st:Stmt}{rest:List Stmt}{N1:Ga->Prop}(h1:W1 X.cD st Γ N1 (λ_ _ _ _=>False))(h2:∀Γ',N1 Γ'->RS X H0 R0 rest Γ'):RS X H0 R0 (st::rest) Γ:=λσ H R E D=>by
 refine λpins s I=>wpAny_execs_cons (aI (jt.cD (h1 σ H0 R0 H R E {nx:=λσ' H'=>hJ X rest D σ' H',rt:=λ_ _=>False,bk:=λ_ _=>False,ct:=λ_ _=>False} (λσ' H' R' Γ' E' _ n=>h2 Γ' n σ' H' R' E' D) λ_ _ _ _ z=>z) pins s I) λf s1 q=>?_)
 cases f with
 | next=>
   obtain ⟨σ',H',I',q⟩:=q
   exact q pins s1 I'
 | brk=>obtain ⟨_,_,_,q⟩:=q;exact q.elim
 | cont=>obtain ⟨_,_,_,q⟩:=q;exact q.elim
 | ret u=>obtain ⟨_,_,_,_,_,q⟩:=q;exact q.elim
theorem tK {H0 R0:Hp}{c:Expr}{a b rest:List Stmt}{pos:Pos}(hc:TV X.cD c Γ true Γ1)(h:RS X H0 R0 a Γ1):RS X H0 R0 (.If c a b pos::rest) Γ:=λσ H R E D=>by
 refine λpins s I=>wpAny_execs_cons ?_
 have:=fW.cD (hc σ H0 R0 H R E (λb H'=>b=true/\∀D,hJ X a D σ H') λH' R' E' _=>⟨rfl,λD=>h σ H' R' E' D⟩) pins s I
 refine PySem.wpAny_If (aI this λb s1 ⟨H',I',hb,q⟩=>?_)
 subst hb
 rw [if_pos rfl]
 refine aI (q {nx:=λ_ _=>False,rt:=λ_ _=>False} pins s1 I') λf s2 z=>?_
 cases f with
 | next=>obtain ⟨_,_,_,z⟩:=z;exact z.elim
 | brk=>obtain ⟨_,_,_,z⟩:=z;exact z.elim
 | cont=>obtain ⟨_,_,_,z⟩:=z;exact z.elim
 | ret u=>obtain ⟨_,_,_,_,_,z⟩:=z;exact z.elim
end
section
variable {P:Program}{w:World}{K:PySem.W.Frag}{mg:Str->Option Value}{base:Heap}
end
abbrev iN (X:Cx)(e:Addr)(o:Obj):Cx:={X with pn:=(e,o)::X.pn}
theorem Ok.pin {X:Cx}(ok:X.Ok)(e:Addr)(o:Obj):(iN X e o).Ok:=
 ⟨ok.mod,ok.kind,ok.glob,ok.blt,ok.above,ok.inj,ok.has,ok.cab,ok.hd,ok.frames,ok.stk,ok.exf,ok.bs,ok.bsz,ok.noex,ok.exfs,ok.funs,ok.frf⟩
theorem Ok.Ag {X:Cx}{e:Addr}{o:Obj}(ok:(iN X e o).Ok):X.Ok:=
 ⟨ok.mod,ok.kind,ok.glob,ok.blt,ok.above,ok.inj,ok.has,ok.cab,ok.hd,ok.frames,ok.stk,ok.exf,ok.bs,ok.bsz,ok.noex,ok.exfs,ok.funs,ok.frf⟩
section
variable {X:Cx}{pins:List (Addr×Obj)}{σ:St}{H:Hp}{s:Shared}{e:Addr}{o:Obj}
theorem Inv.pinned (I:Inv X pins σ H s)(h:s.heap.get? e=some o/\H e=none/\e≠X.env.locals/\e∉X.fs/\∀v,o.data≠ .cell v):Inv (iN X e o) pins σ H s:=
 ⟨Ok.pin I.ok e o,I.os,I.bare,I.base,I.loc,I.cell,I.free,I.freeC,λp hp=>by
  rcases List.mem_cons.mp hp with rfl | hp
  ·exact h
  ·exact I.pin p hp,I.hok,I.len⟩
theorem Inv.fV (I:Inv (iN X e o) pins σ H s):Inv X pins σ H s:=
 ⟨Ok.Ag I.ok,I.os,I.bare,I.base,I.loc,I.cell,I.free,I.freeC,λp hp=>I.pin p (List.mem_cons_of_mem _ hp),I.hok,I.len⟩
abbrev markX (X:Cx)(v:Value):Cx:={X with A:=X.A.mark (some v),calm:=false,xe:=λ_ _=>False}
theorem Inv.marked (I:Inv X pins σ H s)(v:Value):Inv (markX X v) pins σ H s:=
 ⟨⟨I.ok.mod,I.ok.kind,I.ok.glob,I.ok.blt,I.ok.above,I.ok.inj,I.ok.has,I.ok.cab,(λz=>by cases z),I.ok.frames,I.ok.stk,I.ok.exf,I.ok.bs,I.ok.bsz,I.ok.noex,I.ok.exfs,I.ok.funs,I.ok.frf⟩,
   I.os,I.bare,I.base,I.loc,I.cell,I.free,I.freeC,I.pin,I.hok,I.len⟩
theorem Inv.unmarked {v:Value}(c:X.calm=true->X.A.handled=none)(I:Inv (markX X v) pins σ H s):Inv X pins σ H s:=
 ⟨⟨I.ok.mod,I.ok.kind,I.ok.glob,I.ok.blt,I.ok.above,I.ok.inj,I.ok.has,I.ok.cab,c,I.ok.frames,I.ok.stk,I.ok.exf,I.ok.bs,I.ok.bsz,I.ok.noex,I.ok.exfs,I.ok.funs,I.ok.frf⟩,
   I.os,I.bare,I.base,I.loc,I.cell,I.free,I.freeC,I.pin,I.hok,I.len⟩
theorem qo {M:Model}{A:Around}{E:Value->Shared->Prop}{i:Nat}{x:Str}{pos:Pos}{Q:Unit->Shared->Prop}(I:Inv X pins σ H s)(hN:X.N.Nodup)(hi:X.N[i]?=some x)(hk:X.env.scope.names.lookup x=some .local)
 (h:∀s',Inv X pins (σ.set i none) H s'->Q () s'):wpAny M A (do bindName X.env x .none;unbindBehindTheSuite X.env x pos) Q E s:=by
 obtain ⟨m,hn,hl⟩:=id I.loc
 have hcls:(X.env.scope.kind== .class ||(X.env.scope.kind== .module&&X.env.locals != X.env.globals))=false:=by rw [I.ok.kind];rfl
 have cne:=I.cne
 refine wpAny_nameGoes_keeps hk hn hcls λh' v hn' hs=>?_
 obtain ⟨oL,_,_,hoL,_⟩:=id hn
 have tracked:bO X.prog X.w H h':=λb ob e=>by
  refine (I.hok b ob e).eP (λc w' hc q=>(hs.2 c ?_).trans q) (λ_ q=>q) λ_ _ q=>q
  rintro rfl
  rcases hc with rfl | hc
  ·rw [I.free] at e;cases e
  ·rw [I.free] at hc;cases hc
 refine h _ ⟨I.ok,I.os,I.bare,⟨λb o e n hb hx=>?_,λb o e n hb hx=>?_,I.base.free,λb o e hx=>?_,I.base.tups,I.base.frzs,I.base.tbls⟩,⟨_,hn',λj y v' e1 e2 e3=>?_⟩,λy c e=>?_,I.free,I.freeC,λp hp=>?_,tracked,by simpa using I.len⟩
 ·exact (hs.2 b (Nat.ne_of_lt (Nat.lt_of_lt_of_le (Heap.lt_size e) I.ok.above))).trans (I.base.keep b o e n hb hx)
 ·obtain ⟨sl,e1⟩:=I.base.slot b o e n hb hx
  exact ⟨sl,(hs.2 b (Nat.ne_of_lt (Nat.lt_of_lt_of_le (Heap.lt_size e) I.ok.above))).trans e1⟩
 ·obtain ⟨o',e1⟩:=I.base.there b o e hx
  exact ⟨o',(hs.2 b (Nat.ne_of_lt (Nat.lt_of_lt_of_le (Heap.lt_size e) I.ok.above))).trans e1⟩
 ·by_cases hj:j=i
  ·subst hj
   rw [List.getElem?_set] at e2
   split at e2
   ·split at e2<;>cases e2
   ·rename_i z;exact absurd rfl z
  ·rw [List.getElem?_set_ne (Ne.symm hj)] at e2
   obtain ⟨u',r',q⟩:=hl j y v' e1 e2 e3
   refine ⟨u',r',?_⟩
   rcases q with ⟨k,e⟩ | ⟨k,c,e,z⟩
   ·refine .inl ⟨k,?_⟩
    have:y≠x:=λe=>hj (jk hN e1 (e▸hi))
    simp [this,e]
   ·exact .inr ⟨k,c,e,z.sameBut hs (cne y c e)⟩
 ·obtain ⟨w',z⟩:=I.cell y c e
  exact ⟨w',z.sameBut hs (cne y c e)⟩
 ·obtain ⟨e,n,ne,nf,d⟩:=I.pin p hp
  exact ⟨(hs.2 p.1 ne).trans e,n,ne,nf,d⟩
end
theorem iQ.cD {X:Cx}{es:List Expr}{Q:List V->Hp->Prop}{σ:St}{H:Hp}(h:iQ X.cD es σ H Q)(E:Value->Shared->Prop):∀(pos:Pos) (pins:List (Addr×Obj)) (s:Shared),Inv X pins σ H s->wpAny (model X.prog X.w) X.A (spliced (backTo pos (starEach es X.env))) (AP X pins σ Q) E s:=λpos pins s I=>
 wpAny_mono (h pos pins s (I.ei _)) (λ_ _ ⟨vs,H',I',r,q⟩=>⟨vs,H',I'.dc,r,q⟩) λ_ _ z=>False.elim z
theorem lB {P:Program}{w:World}{fs:List Addr}{H1 H':Hp}{h1 h' h2:Heap}{e T:Addr}{cls:Value}(u:Un fs [] H1 H' h1 h')(hok:bO P w H' h')(fly:nz h1 h' H' e T cls)(hf:∀b∈fs,H' b=none)
 (st:(PySem.W.hideAll h' (e::T::fs)).StaysIn h2) (up:∀b o,h'.get? b=some o->b∈fs->∃sl,h2.get? b=some {o with slots:=sl}):Un fs [] H1 H' h1 h2/\bO P w H' h2:=by
 have keep:∀b o,h'.get? b=some o->b∉fs->b≠e->b≠T->h2.get? b=some o:=λb o q hb n1 n2=>st b o (PySem.W.hideAll_get _ q λz=>by
  rcases List.mem_cons.mp z with z | z
  ·exact n1 z
  ·rcases List.mem_cons.mp z with z | z
   ·exact n2 z
   ·exact hb z)
 have n1:∀b o,h1.get? b=some o->b≠e:=λb o q z=>by rw [z,fly.ne] at q;cases q
 have n2:∀b o,h1.get? b=some o->b≠T:=λb o q z=>by rw [z,fly.nT] at q;cases q
 refine ⟨⟨λb o q n hb hx=>keep b o (u.keep b o q n hb hx) hb (n1 b o q) (n2 b o q),λb o q n hb hx=>?_,u.free,λb o q hx=>?_,u.tups,u.frzs,u.tbls⟩,λb x q=>?_⟩
 ·obtain ⟨sl,r⟩:=u.slot b o q n hb hx
  obtain ⟨sl',r'⟩:=up b _ r hb
  exact ⟨sl',r'⟩
 ·obtain ⟨o',r⟩:=u.there b o q hx
  by_cases hb:b∈fs
  ·obtain ⟨sl',r'⟩:=up b _ r hb;exact ⟨_,r'⟩
  ·exact ⟨_,keep b o' r hb (n1 b o q) (n2 b o q)⟩
 ·refine (hok b x q).eP (λc v hc r=>?_) (λ_ r=>r) λ_ _ r=>r
  have hc':H' c≠none:=by
   rcases hc with rfl | hc
   ·rw [q];exact Option.some_ne_none _
   ·rw [hc];exact Option.some_ne_none _
  exact keep c v r (λz=>hc' (hf c z)) (λz=>hc' (z▸fly.fe)) λz=>hc' (z▸fly.fT)
theorem gj {h h' b0 h0:Heap}{fs:List Addr}:∀{l:List Env},h.FunFrames b0 l->(∀b∈bo l,∀o,h.get? b=some o->∃sl,h'.get? b=some {o with slots:=sl})->(∀b∈bo l,b∈fs)->h'.FunFrames (PySem.W.hideAll h0 fs) l
 | [],_,_,_=>trivial
 | env::rest,hl,hk',hs=>by
   obtain ⟨hk,⟨L,o,hf,hn,ho,hd⟩,hr⟩:=hl
   have hL:L∈bo (env::rest):=by
    show L∈(env::rest).filterMap (·.frame)
    rw [List.filterMap_cons,hf];exact List.mem_cons_self
   have hT:∀b∈bo rest,b∈bo (env::rest):=λb hb=>by
    show b∈(env::rest).filterMap (·.frame)
    rw [List.filterMap_cons,hf];exact List.mem_cons_of_mem _ hb
   obtain ⟨sl,e⟩:=hk' L hL o ho
   exact ⟨hk,⟨L,_,hf,PySem.W.hideAll_none fs (hs L hL),e,hd⟩,gj hr (λb hb=>hk' b (hT b hb)) λb hb=>hs b (hT b hb)⟩
end Fc
namespace Fc
open PySem PySem.Spec PySem.W PySem.Calls PySem.Builtin.ObjectAttr PySem.Builtin.Getset_descriptor L2
open PyProof.Rows hiding St
def jW (x D:Addr)(h:Heap):Prop:=∃ox,h.get? x=some ox/\ox.cls= .ref D
theorem jW.ty {M:Model}{h:Heap}{x D:Addr}(p:jW x D h):Looks M h (typeOf (.ref x)) (.ref D):=by
 obtain ⟨ox,h1,h2⟩:=p
 exact h2▸(Looks.ld h1).andThen .now
def cx (K:Frag)(D:Addr):Bool:=(findIn K (.ref D) "__getattribute__"==some (some (.builtin "BaseException.__getattribute__")))&&(findIn K (.ref D) "__getattr__"==some none)&&(findIn K (.ref D) "__class__"==some (some (.builtin "object.__class__")))&&(specialIn K (.builtin "object.__class__") "__get__"==some (some (.builtin "getset_descriptor.__get__")))
 &&(takesIn K (.builtin "object.__class__")==some true)&&(mroIn K D (.type "object")==some true)&&(subIn K (.ref D) (.type "BaseException")==some true)&&(clsIn K D).isSome
section
variable {K:Frag}{D x:Addr}{prog:Program}{w:World}{A:Around}{E:Value->Shared->Prop}{s:Shared}
theorem qB {Q:Option Value->Shared->Prop}(e:cx K D=true)(X:K.In s.heap)(p:jW x D s.heap)(h:Q (some (.ref D)) {s with toks:=s.toks + 1}):wpAny (model prog w) A (getAttr? (.ref x) "__class__") Q E s:=by
 unfold cx at e
 simp only [Bool.and_eq_true,beq_iff_eq] at e
 obtain ⟨⟨⟨⟨⟨⟨⟨hga,hgk⟩,ha⟩,hn⟩,htk⟩,hm⟩,hsb⟩,hc⟩:=e
 obtain ⟨hh,g,d,t,os⟩:=s
 have X:K.In hh:=X
 have p:jW x D hh:=p
 have L0:=p.ty (M:=model prog w)
 have L1:=looks_findIn (M:=model prog w) X hga
 have L2:=looks_findIn (M:=model prog w) X hgk
 have LB:Looks (model prog w) hh (isSubtype (.ref D) (.type "BaseException")) true:=looks_subIn X hsb
 have F1:Looks (model prog w) hh (find (.ref x) (.ref D) "__class__") (.bind (.builtin "getset_descriptor.__get__") (.builtin "object.__class__")):=by
  refine (looks_findIn X ha).andThen ((show Looks _ hh (getOf (some (.builtin "object.__class__"))) (some (.builtin "getset_descriptor.__get__")) from looks_specialIn X hn).andThen ?_)
  exact (show Looks _ hh (dataDescriptor? (some (.builtin "object.__class__")) (some (.builtin "getset_descriptor.__get__"))) (some (.builtin "getset_descriptor.__get__",.builtin "object.__class__")) from (looks_takesIn X htk).andThen .now).andThen (Looks.tag .now)
 have M1:=looks_mroIn (M:=model prog w) X hm
 have hx2:(Value.builtin "BaseException.__getattribute__"==Value.builtin "object.__getattribute__")=false:=by decide +kernel
 have hx1:(onTheHeap (Value.ref D)&&Value.builtin "BaseException.__getattribute__"==Value.builtin "object.__getattribute__")=false:=by rw [hx2];rfl
 unfold getAttr? getAttrBy? getAttrBy
 refine wpAny_bind (wpAny_mkText (wpAny_bind (wpAny_attempt (wpAny_holding (wpAny_bind (L0.at (wpAny_bind (L1.at ?_))))))))
 dsimp only
 rw [hx1]
 simp only [Bool.false_eq_true,if_false]
 unfold getAttrByItsOwn hookBefore
 have f3:=PySem.F.attr_ValueError.ga.bind (.ref x)
 refine wpAny_bind (L2.at ?_)
 refine wpAny_bind (wpAny_attempt (wpAny_holding ?_))
 show wpAny _ _ (boundAndCalled _ _ _) _ _ _
 unfold boundAndCalled
 refine wpAny_bind (wpAny_of_eq f3 ?_)
 have hkd:builtinKind "BaseException.__getattribute__"=some .slot:=by decide +kernel
 have hsplit:splitId "BaseException.__getattribute__"=some ("BaseException","__getattribute__"):=by decide +kernel
 have hargs:=PySem.F.args_bexc_ga (.ref x) (.str "__class__" t)
 refine wpAny_call (codeAny_call_builtin PySem.F.attr_ValueError.ga.plain PySem.F.entry_bexc_ga ?_)
 show wpAny _ _ (checkBuiltinCall "BaseException.__getattribute__" ⟨[.ref x,.str "__class__" t],[]⟩) _ _ _
 simp only [checkBuiltinCall,hkd,hsplit]
 refine wpAny_bind ?_
 unfold isInstance
 repeat lk
 refine wpAny_run ?_
 refine codeAny_call_builtin KF.slot_gs.plain KF.entry_gs (KF.slot_gs.check _ _ _ _ _ _ _ _ KF.type_class (KF.args_gs _ _ _) ?_)
 unfold Builtin.«getset_descriptor.__get__» descrGet
 rw [dga_obj]
 refine wpAny_bind (wpAny_pure ?_)
 unfold descrGetter descrCheckInstance descrNameAndClass isInstance
 simp only [KF.owner_class]
 repeat lk
 refine ⟨Code.quiet_builtin _ (by decide +kernel),codeAny_builtin KF.entry_class ?_⟩
 unfold Builtin.«object.__class__» shownTypeOf
 repeat lk
 exact h
theorem mI (e:cx K D=true):KitX K (.ref x) (.ref D) (jW x D) where
 ty:=λ_ _ _ p=>p.ty
 it:=λ_ _ X _=>by
  unfold cx at e
  rw [Bool.and_eq_true] at e
  have hc:=e.2
  unfold clsIn at hc
  split at hc
  ·rename_i c' d' cd' sl' ho
   intro A' Q' E' s' k q
   unfold isType loadHead
   exact wpAny_bind (wpAny_loadPart (k _ _ (X _ _ ho)) (wpAny_pure q))
  ·cases hc
 ne:=λh tp dd its n sl X htp=>by
  unfold cx at e
  rw [Bool.and_eq_true] at e
  have hc:=e.2
  refine Bool.eq_false_iff.mpr λq=>?_
  have z:D=tp:=Value.ref.inj (beq_iff_eq.mp q)
  subst z
  unfold clsIn at hc
  split at hc
  ·rename_i c' d' cd' sl' ho
   have z:=(X _ _ ho).symm.trans htp
   cases z
  ·cases hc
 ca:=λX p k=>qB e X p k
end
section
variable {X:Cx}{Γ Γ1:Ga}{ea D:Addr}{oe:Obj}
end
end Fc
namespace Fc
open PySem PySem.Spec L2
open PyProof.Rows hiding St
section
variable {X:Cx}{Γ Γ1:Ga}{H0 R0:Hp}
def RX (X:Cx)(H0 R0:Hp)(e:Expr)(Γ:Ga):Prop:=∀(σ:St) (H R:Hp),aw X.K σ H0 R0 H R Γ->∀Q:VK,dj X e σ H Q
theorem nA {e:Expr}{pos:Pos}{rest:List Stmt}(h:RX X H0 R0 e Γ)(hsw:swapsWith e none pos.line X.env=pure false:=by rfl):RS X H0 R0 (.Expr e pos::rest) Γ:=λσ H R E D=>
 nv (jl tG eh) (sS (fP aL hsw) (h σ H R E _))
end
section
variable {P:Program}{w:World}{K:PySem.W.Frag}{mg:Str->Option Value}{base:Heap}{N:List Str}{qual:Str}{scope:Scope}{f:Addr}{cd:Value}{A:Around}{outer:List Env}{s:Shared}{H R:Hp}{E:XK}{Γ Γ1:Ga}
end
end Fc
namespace Fc
open PySem PySem.Spec PySem.W PySem.Calls L2
open PyProof.Rows hiding St
section
variable {X:Cx}{Γ Γ1:Ga}{ea D:Addr}{oe:Obj}{pins:List (Addr×Obj)}{σ:St}{H:Hp}{s:Shared}
end
def bS:Rep Str:=⟨λ_ _ v x=>v= .str x,λ_ h=>h⟩
theorem cA {X:Cx}{Γ:Ga}{x:Str}{j:Nat}{pos:Pos}:EV X (.Constant (.str x) j pos) Γ bS x Γ:=λ_ _ _ _ _ E _ q=>eS mw (q _ _ _ E (aj.refl _) rfl)
end Fc
namespace Fc
open PySem PySem.Spec L2
open PyProof.Rows hiding St
inductive PV
 | non
 | bl (b:Bool)
 | int (i:Int)
 | str (x:Str)
 | tup (xs:List PV)
 | lst (xs:List PV)
mutual
inductive cQ (H:Hp):V->PV->Prop
 | non:cQ H .non .non
 | bl (b:Bool):cQ H (.bl b) (.bl b)
 | int (i:Int):cQ H (.int i) (.int i)
 | str (x:Str):cQ H (.str x) (.str x)
 | tup {a:Addr} {vs:List V} {xs:List PV}:H a=some (.tup vs)->cN H vs xs->cQ H (.ref a) (.tup xs)
 | lst {a:Addr} {vs:List V} {xs:List PV}:H a=some (.lst vs)->cN H vs xs->xs.length<=sizeLine->cQ H (.ref a) (.lst xs)
inductive cN (H:Hp):List V->List PV->Prop
 | nil:cN H [] []
 | cons {v:V} {x:PV} {vs:List V} {xs:List PV}:cQ H v x->cN H vs xs->cN H (v::vs) (x::xs)
end
mutual
theorem cQ.mono {H H':Hp}(s:aj H H'):∀{v:V} {x:PV},cQ H v x->cQ H' v x
 | _,_,.non=>.non
 | _,_,.bl b=>.bl b
 | _,_,.int i=>.int i
 | _,_,.str x=>.str x
 | _,_,.tup h t=>.tup (s _ _ h) (cN.mono s t)
 | _,_,.lst h t z=>.lst (s _ _ h) (cN.mono s t) z
theorem cN.mono {H H':Hp}(s:aj H H'):∀{vs:List V} {xs:List PV},cN H vs xs->cN H' vs xs
 | _,_,.nil=>.nil
 | _,_,.cons h t=>.cons (cQ.mono s h) (cN.mono s t)
end
theorem cN.pair {H:Hp}:∀{vs:List V} {xs:List PV},cN H vs xs->PySem.Paired (cQ H) vs xs
 | _,_,.nil=>.nil
 | _,_,.cons h t=>.cons h (cN.pair t)
theorem cN.of {H:Hp}:∀{vs:List V} {xs:List PV},PySem.Paired (cQ H) vs xs->cN H vs xs
 | _,_,.nil=>.nil
 | _,_,.cons h t=>.cons h (cN.of t)
def ak:Rep PV:=⟨λ_ H v x=>cQ H v x,λs h=>h.mono s⟩
section
variable {X:Cx}{Γ Γ1 Γ2 Γ3:Ga}{α β γ δ:Type}{N:Ga->Prop}{T:RT}
variable {e:Expr}{pos:Pos}{a:Expr}{x:Str}{K:PySem.W.Frag}
theorem EV.re {r:Rep α}{r':Rep β}{x:α}{y:β}(h:EV X e Γ r x Γ1)(f:∀(K:PySem.W.Frag) (R:Hp) (v:V),r.R K R v x->r'.R K R v y):EV X e Γ r' y Γ1:=λσ H0 R0 H R E Q q=>h σ H0 R0 H R E Q λv H' R' E' s' e'=>q v H' R' E' s' (f _ _ v e')
theorem EV.pI {n:Int}(h:EV X e Γ ae n Γ1):EV X e Γ ak (.int n) Γ1:=h.re λK R v e=>by cases e;exact .int n
theorem EV.pS (h:EV X e Γ bS x Γ1):EV X e Γ ak (.str x) Γ1:=h.re λK R v e=>by cases e;exact .str x
theorem EV.pL {xs:List PV}(h:EV X e Γ (ai ak) xs Γ1):EV X e Γ ak (.lst xs) Γ1:=h.re λK R v ⟨a,vs,e,q,p,z⟩=>by subst e;exact .lst q (.of p) z
theorem EV.iP {n:Int}(h:EV X e Γ ak (.int n) Γ1):EV X e Γ ae n Γ1:=h.re λK R v e=>by cases e;rfl
theorem EV.sP (h:EV X e Γ ak (.str x) Γ1):EV X e Γ bS x Γ1:=h.re λK R v e=>by cases e;rfl
theorem EV.lP {xs:List PV}(h:EV X e Γ ak (.lst xs) Γ1):EV X e Γ (ai ak) xs Γ1:=h.re λK R v e=>by cases e with | lst q p z=>exact ⟨_,_,rfl,q,p.pair,z⟩
theorem nG {R:Hp}:∀{vs:List V} {xs:List Int},cN R vs (xs.map PV.int)->∀K:PySem.W.Frag,PySem.Paired (ae.R K R) vs xs
 | _,[],.nil,_=>.nil
 | _,_::_,.cons h t,K=>.cons (by cases h;rfl) (nG t K)
theorem bD {es:List Expr}{k:Nat}{xs:List PV}(h:EA X es Γ ak xs Γ1)(hz:xs.length<=sizeLine:=by show _<=sizeLine;decide):EV X (.Tuple es k pos) Γ ak (.tup xs) Γ1:=by
 intro σ H0 R0 H R E Q q
 refine eS (gu gN) (h σ H0 R0 H R E _ λvs H1 R1 E1 s1 p1=>⟨by rw [p1.length];exact hz,λp hp=>?_⟩)
 have x:=Ext.fresh E1.sub hp (.tup vs)
 exact q _ _ _ (E1.grow x) (s1.trans x.r) (.tup aA (.of (Paired.map (λ_ _=>ak.mono x.r) p1)))
theorem aP {b:Expr}{xs:List PV}{i:Int}{y:PV}(ha:EV X a Γ ak (.tup xs) Γ1)(hb:EV X b Γ1 ae i Γ2)(h:da xs i=some y)(hs:gQ b:=by exact λ_ _=>rfl):EV X (.Subscript a b pos) Γ ak y Γ2:=by
 intro σ H0 R0 H R E Q q
 refine eS (lr xr aL aL hs) (ha σ H0 R0 H R E _ λv H1 R1 E1 s1 e1=>hb σ H0 R0 H1 R1 E1 _ λu H2 R2 E2 s2 e2=>?_)
 cases ak.mono (K:=X.K) s2 e1 with
 | tup ha pp=>
   obtain ⟨w,e3,e4⟩:=g8 pp.pair h
   exact ⟨_,_,i,w,rfl,e2,bH.of (E2.sub _ _ ha),e3,q w H2 R2 E2 (s1.trans s2) e4⟩
theorem eW {p:Pos}{xs:List PV}(hm:X.mg "len"=none)(ha:EV X a Γ ak (.tup xs) Γ1)(hs:starEach [a] X.env=[(false,eval a X.env)]:=by rfl)(hg:Gl X "len":=by rfl):EV X (.Call (.Name "len" p) [a] [] pos) Γ ae (xs.length:Int) Γ1:=by
 intro σ H0 R0 H R E Q q
 refine eS (cj dC hg hm PySem.boot_len (aE aL bt hs) (by decide) (by decide) hs) (ha σ H0 R0 H R E _ λv H1 R1 E1 s1 e1=>?_)
 cases e1 with
 | tup hp pp=>
   refine ⟨_,_,rfl,.inr (bH.of (E1.sub _ _ hp)),?_⟩
   rw [pp.pair.length]
   exact q _ H1 R1 E1 s1 rfl
theorem dY {xs:List PV}(R H:Hp)(v:V)(s:aj R H)(h:ak.R K R v (.tup xs)):cy K H v (.type "tuple"):=by cases h with | tup e _=>exact .tup (s _ _ e)
theorem fN {xs:List PV}(R H:Hp)(v:V)(s:aj R H)(h:ak.R K R v (.lst xs)):cy K H v (.type "list"):=by cases h with | lst e _ _=>exact .lst (s _ _ e)
theorem ty_str (R H:Hp)(v:V)(_:aj R H)(h:bS.R K R v x):cy K H v (.type "str"):=by cases h;exact .str _
theorem qX {H:Hp}{vs:List V}{xs:List PV}(p:PySem.Paired (cQ H) vs xs)(l h:Option Int):PySem.Paired (cQ H) (jx vs l h) (cut xs l h):=by
 unfold jx cut
 rw [p.length]
 exact gC _ (jh _ p)
theorem jN {lo hi:Option Expr}{p2:Pos}{xs:List PV}{l h:Option Int}(ha:EV X a Γ ak (.tup xs) Γ)(hl:OV X lo Γ l)(hh:OV X hi Γ h)(hw:¬(HT.sIx xs.length 0 l=0/\HT.sIx xs.length xs.length h=xs.length)):EV X (.Subscript a (.Slice lo hi none p2) pos) Γ ak (.tup (cut xs l h)) Γ:=by
 intro σ H0 R0 H R E Q q
 obtain ⟨tl,pl,kl⟩:=hl
 obtain ⟨th,ph,kh⟩:=hh
 refine eS (lL ya aL pl ph) (ha σ H0 R0 H R E _ λv H1 R1 E1 s1 e1=>kl σ H0 R0 H1 R1 E1 _ λH2 R2 E2 s2=>kh σ H0 R0 H2 R2 E2 _ λH3 R3 E3 s3=>?_)
 cases ak.mono (K:=X.K) (s2.trans s3) e1 with
 | @tup a' vs' _ hp pp=>
   refine ⟨_,_,rfl,bH.of (E3.sub _ _ hp),by rw [pp.pair.length];exact hw,λd hd=>?_⟩
   have x:=Ext.fresh E3.sub hd (.tup (jx vs' l h))
   exact q _ _ _ (E3.grow x) (s1.trans (s2.trans (s3.trans x.r))) (.tup aA (.of (Paired.map (λ_ _=>ak.mono (K:=X.K) x.r) (qX pp.pair l h))))
theorem vJ {b:Expr}{xs ys:List PV}(ha:EV X a Γ ak (.tup xs) Γ1)(hb:EV X b Γ1 ak (.tup ys) Γ2)(hx:xs≠[]:=by simp)(hy:ys≠[]:=by simp)(hz:xs.length + ys.length<=sizeLine:=by show _<=sizeLine;decide):EV X (.BinOp a .Add b pos) Γ ak (.tup (xs++ys)) Γ2:=by
 intro σ H0 R0 H R E Q q
 refine eS (oh nC aL aL) (ha σ H0 R0 H R E _ λv H1 R1 E1 s1 e1=>hb σ H0 R0 H1 R1 E1 _ λu H2 R2 E2 s2 e2=>?_)
 cases ak.mono (K:=X.K) s2 e1 with
 | @tup a1 v1 _ hp pp=>
   cases e2 with
   | @tup a2 v2 _ hp2 pp2=>
     have l1:=pp.pair.length
     have l2:=pp2.pair.length
     refine ⟨_,_,_,_,rfl,rfl,bH.of (E2.sub _ _ hp),bH.of (E2.sub _ _ hp2),λz=>hx ?_,by rw [l1,l2];exact hz,λz=>absurd ?_ hy,λ_ d hd=>?_⟩
     ·rw [z] at l1;exact List.length_eq_zero_iff.mp l1.symm
     ·rw [z] at l2;exact List.length_eq_zero_iff.mp l2.symm
     ·have x:=Ext.fresh E2.sub hd (.tup (v1++v2))
      exact q _ _ _ (E2.grow x) (s1.trans (s2.trans x.r)) (.tup aA (.of (Paired.map (λ_ _=>ak.mono (K:=X.K) x.r) (cm pp.pair pp2.pair))))
mutual
def PV.deep:PV->Nat
 | .tup xs=>PV.fH xs + 1
 | .lst xs=>PV.fH xs + 1
 | _=>0
def PV.fH:List PV->Nat
 | []=>0
 | x::xs=>max (PV.deep x) (PV.fH xs)
end
theorem gh:∀{xs:List PV} {x:PV},x∈xs->x.deep<=PV.fH xs
 | y::ys,x,h=>by
   rw [PV.fH]
   rcases List.mem_cons.mp h with rfl | h
   ·omega
   ·have:=gh h;omega
theorem all_true {n:Nat}:((List.range n).all λ_=>true)=true:=by simp
section
variable {pins:List (Addr×Obj)}{σ:St}{H R:Hp}{s:Shared}
theorem jX (I:Inv X pins σ H s)(sub:aj R H){xs:List PV}{A:Around}(ih:∀x∈xs,∀{v u:V} {vv uu:Value},RelV v vv->RelV u uu->cQ R v x->cQ R u x->SeqAt.EqAt A s vv uu true){vs ws:List V}{us us':List Value}(hv:Vals vs us)(hw:Vals ws us')(p1:PySem.Paired (cQ R) vs xs)(p2:PySem.Paired (cQ R) ws xs):
 ∀(j:Nat) (h1:j < us.toArray.size) (h2:j < us'.toArray.size),SeqAt.EqAt A s us.toArray[j] us'.toArray[j] true:=by
 intro j h1 h2
 have h1':j < us.length:=by simpa using h1
 have h2':j < us'.length:=by simpa using h2
 have hx:j < xs.length:=by rw [← p1.length,hv.length];exact h1'
 obtain ⟨v,e1,r1⟩:=cV p1 (List.getElem?_eq_getElem hx)
 obtain ⟨u,e2,r2⟩:=cV p2 (List.getElem?_eq_getElem hx)
 obtain ⟨vv,e3,r3⟩:=hv.get e1
 obtain ⟨uu,e4,r4⟩:=hw.get e2
 rw [List.getElem?_eq_getElem h1'] at e3
 rw [List.getElem?_eq_getElem h2'] at e4
 simp only [List.getElem_toArray]
 rw [Option.some.inj e3,Option.some.inj e4]
 exact ih _ (List.getElem_mem hx) r3 r4 r1 r2
theorem tT (I:Inv X pins σ H s)(sub:aj R H):∀(n:Nat) {x:PV},x.deep<=n->∀{A:Around},A.units + n < cLine->∀{v u:V} {vv uu:Value},RelV v vv->RelV u uu->cQ R v x->cQ R u x->SeqAt.EqAt A s vv uu true:=by
 intro n
 induction n using Nat.strongRecOn with
 | _ n ih=>
   intro x hd A hu v u vv uu rv ru h1 h2
   cases h1 with
   | non=>cases h2;cases rv;cases ru;exact SeqAt.EqAt.same _
   | bl b=>cases h2;cases rv;cases ru;have:=SeqAt.EqAt.bool_bool (A:=A) (s:=s) b b;rwa [beq_self_eq_true] at this
   | int i=>cases h2;obtain ⟨t,rfl⟩:=rv;obtain ⟨t',rfl⟩:=ru;exact λprog w E Q q=>wpAny_eqBool_int (by simpa using q)
   | str z=>cases h2;obtain ⟨t,rfl⟩:=rv;obtain ⟨t',rfl⟩:=ru;have:=SeqAt.EqAt.str_str (A:=A) (s:=s) z t z t';rwa [beq_self_eq_true] at this
   | @tup a1 v1 xs e1 p1=>
     cases h2 with
     | @tup a2 v2 _ e2 p2=>
       cases rv;cases ru
       rw [PV.deep] at hd
       by_cases hab:a1=a2
       ·subst hab;exact SeqAt.EqAt.same _
       ·have l12:v1.length=v2.length:=p1.pair.length.trans p2.pair.length.symm
        have key:=(pO (A:=A) (k:=λ_=>true) I sub e1 e2 l12 (by omega) λus us' hv hw=>jX I sub (λx hx v u vv uu rv ru q1 q2=>ih (n - 1) (by omega) (x:=x) (by have:=gh hx;omega) (A:=A.in1) (by rw [in1_units];omega) rv ru q1 q2) hv hw p1.pair p2.pair).1
        rw [all_true] at key
        exact SeqAt.EqAt.of_refs hab key
   | @lst a1 v1 xs e1 p1 z1=>
     cases h2 with
     | @lst a2 v2 _ e2 p2 z2=>
       cases rv;cases ru
       rw [PV.deep] at hd
       by_cases hab:a1=a2
       ·subst hab;exact SeqAt.EqAt.same _
       ·obtain ⟨us,hv,pl,_⟩:=I.list (bI.of (sub _ _ e1))
        obtain ⟨us',hw,pl',_⟩:=I.list (bI.of (sub _ _ e2))
        have lx:us.toArray.size=us'.toArray.size:=by rw [List.size_toArray,List.size_toArray,← hv.length,← hw.length,p1.pair.length,p2.pair.length]
        have key:=SeqAt.RcAt.lists (A:=A) (e:=λ_=>true) pl.isList pl'.isList lx (by omega) (jX I sub (λx hx v u vv uu rv ru q1 q2=>ih (n - 1) (by omega) (x:=x) (by have:=gh hx;omega) (A:=A.in1) (by rw [in1_units];omega) rv ru q1 q2) hv hw p1.pair p2.pair)
        rw [all_true] at key
        exact SeqAt.EqAt.of_refs hab key
theorem y6 (I:Inv X pins σ H s)(sub:aj R H){x:PV}(hr:(∃xs,x= .tup xs)∨∃xs,x= .lst xs){A:Around}(hu:A.units + x.deep < cLine){v u:V}{vv uu:Value}(rv:RelV v vv)(ru:RelV u uu)(h1:cQ R v x)(h2:cQ R u x):SeqAt.RcAt A s vv uu true/\SeqAt.RcNeAt A s vv uu false:=by
 rcases hr with ⟨xs,rfl⟩ | ⟨xs,rfl⟩
 ·cases h1 with
  | @tup a1 v1 _ e1 p1=>
    cases h2 with
    | @tup a2 v2 _ e2 p2=>
      cases rv;cases ru
      rw [PV.deep] at hu
      have l12:v1.length=v2.length:=p1.pair.length.trans p2.pair.length.symm
      have key:=pO (A:=A) (k:=λ_=>true) I sub e1 e2 l12 (by omega) λus us' hv hw=>jX I sub (λx hx v u vv uu rv ru q1 q2=>tT I sub (PV.fH xs) (x:=x) (gh hx) (A:=A.in1) (by rw [in1_units];omega) rv ru q1 q2) hv hw p1.pair p2.pair
      rw [all_true] at key
      exact key
 ·cases h1 with
  | @lst a1 v1 _ e1 p1 z1=>
    cases h2 with
    | @lst a2 v2 _ e2 p2 z2=>
      cases rv;cases ru
      rw [PV.deep] at hu
      obtain ⟨us,hv,pl,_⟩:=I.list (bI.of (sub _ _ e1))
      obtain ⟨us',hw,pl',_⟩:=I.list (bI.of (sub _ _ e2))
      have lx:us.toArray.size=us'.toArray.size:=by rw [List.size_toArray,List.size_toArray,← hv.length,← hw.length,p1.pair.length,p2.pair.length]
      have he:=jX (A:=A.in1) I sub (λx hx v u vv uu rv ru q1 q2=>tT I sub (PV.fH xs) (x:=x) (gh hx) (A:=A.in1) (by rw [in1_units];omega) rv ru q1 q2) hv hw p1.pair p2.pair
      have k1:=SeqAt.RcAt.lists (A:=A) (e:=λ_=>true) pl.isList pl'.isList lx (by omega) he
      have k2:=SeqAt.RcNeAt.lists (A:=A) (e:=λ_=>true) pl.isList pl'.isList lx (by omega) he
      rw [all_true] at k1 k2
      exact ⟨k1,k2⟩
end
theorem yX {x:PV}(hr:(∃xs,x= .tup xs)∨∃xs,x= .lst xs)(hu:X.A.units + x.deep < cLine):eB X .NotEq ak ak x x false:=
 ⟨λv u H Q=>∃R,aj R H/\cQ R v x/\cQ R u x/\Q (.bl false) H,λpins s σ H a b v u Q I rx ry ⟨R,sub,h1,h2,q⟩=>(y6 I sub hr hu rx ry h1 h2).2 _ _ _ _ ⟨.bl _,H,I,rfl,q⟩,λR H v u Q s h1 h2 q=>⟨R,s,h1,h2,q⟩⟩
end
section
variable {X:Cx}{Γ Γ1 Γ2 Γ3:Ga}{α β γ δ:Type}{N:Ga->Prop}{T:RT}
end
section
variable {X:Cx}{Γ Γ1 Γ2 Γ3:Ga}{α β γ δ:Type}{N:Ga->Prop}{T:RT}
end
end Fc
namespace K1
open PySem L2 Fc
open PySem.Spec hiding Row
open PyProof.Rows hiding St
open PySem.Builtin.Int (intBits)
theorem iK {x y:Int}(h0:0<=x)(h1:x < 4294967296):IntMulOk x y:=.of_left (intBits_le_64 (by omega) (by omega))
theorem xS {n:Nat}{i:Int}(h0:0<=i)(h1:i < n):gb n i=some i.toNat:=by unfold gb;rw [if_pos h0,if_pos h1]
theorem gO {n:Nat}{k:Int}:k∈ups 0 n↔0<=k/\k < n:=by
 unfold ups
 rw [List.mem_map]
 constructor
 ·rintro ⟨j,hj,rfl⟩
  have:=List.mem_range.mp hj
  omega
 ·rintro ⟨h0,h1⟩
  exact ⟨k.toNat,List.mem_range.mpr (by omega),by omega⟩
theorem dg {α:Type}{xs:List α}{i:Int}(d:α)(h0:0<=i)(h1:i < xs.length):da xs i=some (xs.getD i.toNat d):=by
 rw [jF h0 h1,List.getElem?_eq_getElem (by omega),List.getD_eq_getElem?_getD,List.getElem?_eq_getElem (by omega)];rfl
theorem r9 {α:Type}{xs:List α}{y:α}(h:xs[xs.length - 1]?=some y):da xs (-1)=some y:=by
 have hl:0 < xs.length:=by
  have:=(List.getElem?_eq_some_iff.mp h).1
  omega
 unfold da gb
 rw [if_neg (by omega),if_pos (by omega)]
 show xs[((-1:Int) + (xs.length:Int)).toNat]?=_
 rw [show ((-1:Int) + (xs.length:Int)).toNat=xs.length - 1 by omega];exact h
end K1
namespace Fc
open PySem PySem.Spec L2
open PyProof.Rows hiding St
section
variable {X:Cx}{Γ Γ1 Γ2 Γ3:Ga}{α β γ δ:Type}{N:Ga->Prop}{T:RT}
def dm:Rep Unit:=⟨λ_ _ v _=>v= .non,λ_ h=>h⟩
theorem i7 {S:cE}{x:Str}{k:Nat}{e:Expr}{es:List Expr}{p p2 pos:Pos}{ps:List Pk}{Pd:Unit->Prop}(C:aU X.prog X.w X.K X.mg X.base x k (aZ S X.K))(hr:bg k X.A)(ha:HA X (e::es) Γ ps Γ1)(hS:S X.K ps (cB X.K dm Pd))(h:N Γ1)
 (hg:Gl X x:=by rfl) (hdb:(x==("__debug__":Str))=false:=by decide) (he:starEach (e::es) X.env=(false,eval e X.env)::starEach es X.env:=by rfl) (hpl:(backTo p2 (starEach es X.env)).any (·.1)=false:=by rfl)
 (hsw:swapsWith (.Call (.Name x p) (e::es) [] p2) none pos.line X.env=pure false:=by rfl):W1 X (.Expr (.Call (.Name x p) (e::es) [] p2) pos) Γ N T:=λσ H0 R0 H R E D dn dr=>
 sS (fP aL hsw) (eT C hr ha hS E (λH1 R1 v H' R' E1 s1 xx t=>dn σ H' R' _ (E1.grow xx) (s1.trans xx.r) h) hg hdb he hpl)
end
section
variable {P:Program}{w:World}{K:PySem.W.Frag}{mg:Str->Option Value}{base:Heap}{α:Type}
theorem qV {S:cE}{x qual:Str}{st:Stmt}{f:Addr}{fd:FuncData}{N ps:List Str}{k:Nat}(F:bL K x qual st f fd)(Sc:aR N ps (aq st))(hm:mg x=some (.ref f))(hb:Binds K fd ps [])(len:∀qs T,S K qs T->qs.length=ps.length)
 (hbody:∀(cdv:Value) (A:Around) (outer:List Env) (s:Shared) (H:Hp) (E:XK) (qs:List Pk) (T:RT),bg k (A.deeper (envOfC qual (aq st) s.heap.objs.size f cdv))->S K qs T->(∀H0 H' R',T H0 .non H' R')/\
  WS (bA cL P w K mg base N qual (aq st) f cdv A outer s H E).cD (bz st) (eG qs N.length) (λ_=>True) T):aU P w K mg base x (k + 1) (aZ S K):=by
 refine ⟨f,fd,ps,?_,hm,F.kp,hb⟩
 refine F.ok Sc (λvs H Q E h=>?_) (λcdv A outer s H vs Q E hr h=>?_)
 ·obtain ⟨R,qs,T,_,p,hS,_⟩:=h
  rw [p.length];exact len qs T hS
 ·obtain ⟨R,qs,T,sR,p,hS,q⟩:=h
  have hl:qs.length<=N.length:=by
   rw [len qs T hS]
   have:=congrArg List.length Sc.pre
   rw [List.length_take] at this
   omega
  obtain ⟨h1,h2⟩:=hbody cdv A outer s H E qs T hr hS
  exact ⟨_,eh,h2 (L2.start N vs) H R H R (fj sR p hl) {nx:=λ_ H'=>Q .non H',rt:=Q} (λσ' H' R' Γ' E' _ _=>q .non H' R' E'.ext (h1 _ _ _)) λv H' R' xx t=>q v H' R' xx t⟩
end
section
variable {X:Cx}{Γ Γ1 Γ2 Γ3:Ga}{α β γ δ:Type}{N:Ga->Prop}{T:RT}
variable {pos:Pos}
theorem ot (i:Nat){x:Str}{r:Rep α}{xs:List α}(hΓ:Γ[i]?=some (.im (ai r) xs))(hN:X.N[i]?=some x:=by rfl)(hv:cT X.env.scope x:=by first | exact Or.inl rfl | exact Or.inr (Or.inl rfl) | exact Or.inr (Or.inr rfl))
 (hd:(x==("__debug__":Str))=false:=by decide) (hcd:(x==("__classdict__":Str))=false:=by decide)
 (he:∀whole,isTrue (.Name x pos) X.env whole=(do let v ← whole;standAt (Expr.Name x pos).pos;holding [v] (truthy v)):=by intro _;rfl):TV X (.Name x pos) Γ (!xs.isEmpty) Γ:=by
 intro σ H0 R0 H R E Q q
 obtain ⟨v,ea,a,vs,rfl,ha,pp,_⟩:=E.ent i _ hΓ
 refine tS (sX (bB hN hv hd hcd) he) ⟨.ref a,at_of ea, !xs.isEmpty,.inl ⟨vs,bI.of (E.sub _ _ ha),?_⟩,q H R E (aj.refl _)⟩
 cases pp<;>rfl
theorem vS (i:Nat){x:Str}{p1:Pos}{r:Rep α}{xs:List α}{P:List α->Prop}(hΓ:Γ[i]?=some (.mu r xs))(hz:xs.length<=sizeLine)(h:P xs)(hN:X.N[i]?=some x:=by rfl)(hv:cT X.env.scope x:=by first | exact Or.inl rfl | exact Or.inr (Or.inl rfl) | exact Or.inr (Or.inr rfl))
 (hd:(x==("__debug__":Str))=false:=by decide) (hcd:(x==("__classdict__":Str))=false:=by decide):W1 X (.Return (some (.Name x p1)) pos) Γ N (wc X.K r P):=λσ H0 R0 H R E D dn dr=>by
 obtain ⟨a,vs,ea,ha,hR,pp⟩:=E.ent i _ hΓ
 exact sS (eF (bB hN hv hd hcd)) ⟨.ref a,at_of ea,dr _ H R E.ext ⟨a,vs,xs,rfl,E.new i _ a hΓ rfl ea,ha,hR,pp,hz,h⟩⟩
theorem dN {j:Nat}:EV X (.Constant .none j pos) Γ dm () Γ:=λ_ _ _ _ _ E _ q=>eS yq (q _ _ _ E (aj.refl _) rfl)
end
section
variable {X:Cx}{Γ Γ1 Γ2 Γ3:Ga}{α β γ δ:Type}{N:Ga->Prop}{T:RT}
end
section
variable {X:Cx}{Γ Γ1 Γ2 Γ3:Ga}{α β γ δ:Type}{N:Ga->Prop}{T:RT}
end
section
variable {X:Cx}{Γ Γ1 Γ2 Γ3:Ga}{α β γ δ:Type}{N:Ga->Prop}{T:RT}
def dU (H:Hp)(l:List Addr):Hp:=λb=>if b∈l then none else H b
theorem iZ {H:Hp}{l:List Addr}{b:Addr}(h:b∈l):dU H l b=none:=if_pos h
theorem dE {H:Hp}{l:List Addr}{b:Addr}(h:b∉l):dU H l b=H b:=if_neg h
theorem rV {H:Hp}{l:List Addr}:aj (dU H l) H:=λb o q=>by
 by_cases h:b∈l
 ·rw [iZ h] at q;cases q
 ·rwa [dE h] at q
theorem aw.tM {K:PySem.W.Frag}{σ:St}{H0 R0 H R H' R':Hp}{i:Nat}{B B':nE}(E:aw K σ H0 R0 H R Γ)(hΓ:Γ[i]?=some (.ob B))(x:Ext (dU H B.fp) R H' R')(ho:(Ent.ob B').ok K H' R' (σ[i]?).join)(hfp:∀b∈B'.fp,b∈B.fp):aw K σ H0 R0 H' R' (Γ.set i (.ob B')):=by
 have h0:∀b∈B.fp,H0 b=none:=λb hb=>E.nw i _ b hΓ hb
 have out:∀{b:Addr},H0 b≠none->b∉B.fp:=λh e=>h (h0 _ e)
 have apart:∀(j:Nat) (e:Ent),j≠i->Γ[j]?=some e->∀b∈e.fp (σ[j]?).join,b∉B.fp:=λj e hj qj b hb w=>hj (E.ds j i e _ b qj hΓ hb w)
 refine ⟨⟨λb o q=>?_,E.ext.r.trans x.r,x.s,λb hb=>?_⟩,λj e q=>?_,λj e b q w=>?_,λj k e e' b q q' w w'=>?_,by rw [List.length_set];exact E.len⟩
 ·exact x.h b o (by rw [dE (out (by rw [q];exact Option.some_ne_none _))];exact E.ext.h b o q)
 ·refine (x.old b ?_).trans (E.ext.old b hb)
  rw [dE (out hb)];exact aj.some E.ext.h hb
 ·rcases set_at q with ⟨rfl,rfl,_⟩ | ⟨hj,q1⟩
  ·exact ho
  ·have h1:=E.ent j e q1
   refine h1.loc (λb hb=>?_) x.r λb hb=>?_
   ·cases e2:H b with
    | none=>exact absurd e2 (Ent.eE h1 hb).1
    | some u=>exact x.h b u (by rw [dE (apart j e hj q1 b hb)];exact e2)
   ·exact (x.old b (by rw [dE (apart j e hj q1 b hb)];exact (Ent.eE h1 hb).1)).trans (Ent.eE h1 hb).2
 ·rcases set_at q with ⟨rfl,rfl,_⟩ | ⟨hj,q1⟩
  ·exact h0 b (hfp b w)
  ·exact E.nw j e b q1 w
 ·rcases set_at q with ⟨rfl,rfl,_⟩ | ⟨hj,q1⟩
  ·rcases set_at q' with ⟨rfl,rfl,_⟩ | ⟨hk,q1'⟩
   ·rfl
   ·exact absurd (hfp b w) (apart k e' hk q1' b w')
  ·rcases set_at q' with ⟨rfl,rfl,_⟩ | ⟨hk,q1'⟩
   ·exact absurd (hfp b w') (apart j e hj q1 b w)
   ·exact E.ds _ _ _ _ b q1 q1' w w'
variable {P:Program}{w:World}{K:PySem.W.Frag}{mg:Str->Option Value}{base:Heap}
end
section
variable {X:Cx}{Γ Γ1 Γ2 Γ3:Ga}{α β γ δ:Type}{N:Ga->Prop}{T:RT}
structure LK (P:Type):Type 1 where
 bx:List Addr->P->nE
 fp:∀l s,(bx l s).fp=l
 at_:∀{K H R v l s},(bx l s).R K H R v->∃a t,l=a::t/\v= .ref a
abbrev gx (R:Hp)(l:List Addr):Prop:=∀b∈l,R b=none
abbrev iU (P:Type):=PySem.W.Frag->P->List Pk->(P->RT)->Prop
def dR {P:Type}(B:LK P)(S:iU P)(K:PySem.W.Frag):Sp:=λvs H Q _=>∃R a l s vs' ps T,vs= .ref a::vs'/\aj R H/\gx R (a::l)/\(B.bx (a::l) s).R K H R (.ref a)/\fu K R vs' ps/\S K s ps T/\
 ∀v H' R' s',Ext (dU H (a::l)) R H' R'->(B.bx (a::l) s').R K H' R' (.ref a)->gx R' (a::l)->T s' (dU H (a::l)) v H' R'->Q v H'
theorem gp {P:Type}{B:LK P}{K:PySem.W.Frag}{H R:Hp}{a:Addr}{l:List Addr}{s:P}{o:Option V}(h:(Ent.ob (B.bx (a::l) s)).ok K H R o):o=some (.ref a)/\(B.bx (a::l) s).R K H R (.ref a)/\gx R (a::l):=by
 obtain ⟨⟨v,e,hv⟩,hR⟩:=h
 obtain ⟨a',t,el,ev⟩:=B.at_ hv
 cases el
 subst ev
 exact ⟨e,hv,λb hb=>hR b (by rw [B.fp];exact hb)⟩
theorem fY {P:Type}{B:LK P}{K:PySem.W.Frag}{H R:Hp}{a:Addr}{l:List Addr}{s:P}(h:(B.bx (a::l) s).R K H R (.ref a))(hR:gx R (a::l)):(Ent.ob (B.bx (a::l) s)).ok K H R (some (.ref a)):=
 ⟨⟨_,rfl,h⟩,λc hc=>hR c (by rw [B.fp] at hc;exact hc)⟩
theorem iR {P:Type}{B:LK P}{S:iU P}{x y:Str}{k:Nat}{es:List Expr}{p p1 pos:Pos}{ps:List Pk}{a:Addr}{l:List Addr}{s0 s:P}{TM:P->RT}{Q:VK}{σ:St}{H0 R0 H R:Hp}(i:Nat)(C:aU X.prog X.w X.K X.mg X.base x k (dR B S X.K))(hr:bg k X.A)(ha:HA X es Γ ps Γ1)(hΓ:Γ[i]?=some (.ob (B.bx (a::l) s0)))(hΓ1:Γ1[i]?=some (.ob (B.bx (a::l) s)))(hS:S X.K s ps TM)(E:aw X.K σ H0 R0 H R Γ)
 (q:∀H1 R1 v H' R' s',aw X.K σ H0 R0 H1 R1 Γ1->aj R R1->Ext (dU H1 (a::l)) R1 H' R'->aw X.K σ H0 R0 H' R' (Γ1.set i (.ob (B.bx (a::l) s')))->TM s' (dU H1 (a::l)) v H' R'->Q v H')
 (hg:Gl X x) (hdb:(x==("__debug__":Str))=false) (he:starEach (.Name y p1::es) X.env=(false,eval (.Name y p1) X.env)::starEach es X.env) (hpl:(backTo pos (starEach es X.env)).any (·.1)=false)
 (hN:X.N[i]?=some y) (hv:cT X.env.scope y) (hd:(y==("__debug__":Str))=false) (hcd:(y==("__classdict__":Str))=false):dj X (.Call (.Name x p) (.Name y p1::es) [] pos) σ H Q:=by
 obtain ⟨f,fd,pn,F,hm,hk,hb⟩:=C.ex
 obtain ⟨ea,_,_⟩:=gp (E.ent i _ hΓ)
 refine eS (ki F hr hg hm hk hb .nil jP (aE (bB hN hv hd hcd) gN he) hdb he hpl) ⟨.ref a,at_of ea,ha σ H0 R0 H R E _ λus H1 R1 E1 s1 p1=>?_⟩
 obtain ⟨ea1,hB,hR1⟩:=gp (E1.ent i _ hΓ1)
 refine ⟨R1,a,l,s,us,ps,TM,by rw [List.append_nil],E1.sub,hR1,hB,p1,hS,λv H' R' s' xx hB' hR' t=>q H1 R1 v H' R' s' E1 s1 xx ?_ t⟩
 refine E1.tM hΓ1 (by rw [B.fp];exact xx) (by rw [ea1];exact fY hB' hR') λc hc=>?_
 rw [B.fp] at hc ⊢;exact hc
theorem cX {P:Type}{B:LK P}{S:iU P}{x y:Str}{k:Nat}{es:List Expr}{p p1 pos:Pos}{ps:List Pk}{a:Addr}{l:List Addr}{s0 s st:P}{rr:Rep β}{z:β}(i:Nat)(C:aU X.prog X.w X.K X.mg X.base x k (dR B S X.K))(hr:bg k X.A)(ha:HA X es Γ ps Γ1)(hΓ:Γ[i]?=some (.ob (B.bx (a::l) s0)))(hΓ1:Γ1[i]?=some (.ob (B.bx (a::l) s)))(hS:S X.K s ps (λs'=>cB X.K rr λw=>s'=st/\w=z))
 (hg:Gl X x:=by rfl) (hdb:(x==("__debug__":Str))=false:=by decide) (he:starEach (.Name y p1::es) X.env=(false,eval (.Name y p1) X.env)::starEach es X.env:=by rfl) (hpl:(backTo pos (starEach es X.env)).any (·.1)=false:=by rfl)
 (hN:X.N[i]?=some y:=by rfl) (hv:cT X.env.scope y:=by first | exact Or.inl rfl | exact Or.inr (Or.inl rfl) | exact Or.inr (Or.inr rfl)) (hd:(y==("__debug__":Str))=false:=by decide) (hcd:(y==("__classdict__":Str))=false:=by decide):
 EV X (.Call (.Name x p) (.Name y p1::es) [] pos) Γ rr z (Γ1.set i (.ob (B.bx (a::l) st))):=λσ H0 R0 H R E Q q=>
 iR i C hr ha hΓ hΓ1 hS E (λH1 R1 v H' R' s' _ s1 xx E' t=>by
  obtain ⟨w,e1,rfl,rfl⟩:=t
  exact q v H' R' E' (s1.trans xx.r) e1) hg hdb he hpl hN hv hd hcd
def AZ (K:PySem.W.Frag){P:Type}(B:LK P)(l:List Addr)(T:P->RT):RT:=λH0 v H' R'=>∃s' a t,l=a::t/\(B.bx l s').R K H' R' (.ref a)/\gx R' l/\T s' H0 v H' R'
theorem ir (i:Nat){P:Type}{B:LK P}{e:Expr}{pos:Pos}{a:Addr}{l:List Addr}{s:P}{rr:Rep β}{y:β}{Pd:P->β->Prop}(he:EV X e Γ rr y Γ1)(hΓ1:Γ1[i]?=some (.ob (B.bx (a::l) s)))(h:Pd s y):W1 X (.Return (some e) pos) Γ N (AZ X.K B (a::l) λs'=>cB X.K rr (Pd s')):=λσ H0 R0 H R E D dn dr=>
 sS (eF aL) (he σ H0 R0 H R E _ λv H1 R1 E1 s1 e1=>by
  obtain ⟨ea,hB,hR⟩:=gp (E1.ent i _ hΓ1)
  exact dr v H1 R1 E1.ext ⟨s,a,l,rfl,hB,hR,y,e1,h⟩)
theorem jy {P:Type}{B:LK P}{K:PySem.W.Frag}{R H:Hp}{a:Addr}{l:List Addr}{st:P}{vs:List V}{ps:List Pk}{N:List Str}(s:aj R H)(hR:gx R (a::l))(hB:(B.bx (a::l) st).R K H R (.ref a))(p:fu K R vs ps)(hl:ps.length + 1<=N.length):
 aw K (L2.start N (.ref a::vs)) (dU H (a::l)) R H R (.ob (B.bx (a::l) st)::eG ps (N.length - 1)):=by
 obtain ⟨n0,N',rfl⟩:∃n0 N',N=n0::N':=by cases N with
  | nil=>exact absurd hl (by simp)
  | cons n N'=>exact ⟨n,N',rfl⟩
 have hl':ps.length<=N'.length:=by simpa using hl
 have E0:=fj (N:=N') s p hl'
 have es:L2.start (n0::N') (.ref a::vs)=some (.ref a)::L2.start N' vs:=by unfold L2.start;simp
 rw [es]
 have noown:∀(i:Nat) (e:Ent) (o:Option V),(eG ps N'.length)[i]?=some e->e.fp o=[]:=λi e o q=>by
  unfold eG at q
  rcases List.mem_append.mp (List.mem_of_getElem? q) with z | z
  ·obtain ⟨p,_,rfl⟩:=List.mem_map.mp z;rfl
  ·obtain ⟨_,rfl⟩:=List.mem_replicate.mp z;rfl
 refine ⟨⟨rV,aj.refl _,s,λ_ _=>rfl⟩,λi e q=>?_,λi e c q w=>?_,λi j e e' c q q' w w'=>?_,?_⟩
 ·cases i with
  | zero=>simp at q;subst q;exact fY hB hR
  | succ i=>simp at q;simpa using E0.ent i e q
 ·cases i with
  | zero=>
    simp at q;subst q
    have w:c∈(B.bx (a::l) st).fp:=w
    rw [B.fp] at w
    exact iZ w
  | succ i=>simp at q;rw [noown i e _ q] at w;cases w
 ·cases i with
  | succ i=>simp at q;rw [noown i e _ q] at w;cases w
  | zero=>
    cases j with
    | zero=>rfl
    | succ j=>simp at q';rw [noown j e' _ q'] at w';cases w'
 ·have:=E0.len
  simp [this]
variable {P:Program}{w:World}{K:PySem.W.Frag}{mg:Str->Option Value}{base:Heap}
theorem fU {Q0:Type}{B:LK Q0}{S:iU Q0}{x qual:Str}{st:Stmt}{f:Addr}{fd:FuncData}{N ps:List Str}{k:Nat}(F:bL K x qual st f fd)(Sc:aR N ps (aq st))(hm:mg x=some (.ref f))(hb:Binds K fd ps [])(len:∀s qs T,S K s qs T->qs.length + 1=ps.length)
 (hbody:∀(cdv:Value) (A:Around) (outer:List Env) (s:Shared) (H:Hp) (E:XK) (a:Addr) (l:List Addr) (u:Q0) (qs:List Pk) (T:Q0->RT),bg k (A.deeper (envOfC qual (aq st) s.heap.objs.size f cdv))->S K u qs T->
  WS (bA cL P w K mg base N qual (aq st) f cdv A outer s H E).cD (bz st) (.ob (B.bx (a::l) u)::eG qs (N.length - 1)) (λΓ=>∃u',Γ[0]?=some (.ob (B.bx (a::l) u'))/\∀H0 H' R',T u' H0 .non H' R') (AZ K B (a::l) T)):aU P w K mg base x (k + 1) (dR B S K):=by
 refine ⟨f,fd,ps,?_,hm,F.kp,hb⟩
 refine F.ok Sc (λvs H Q E h=>?_) (λcdv A outer s H vs Q E hr h=>?_)
 ·obtain ⟨R,a,l,u,vs',qs,T,rfl,_,_,_,p,hS,_⟩:=h
  rw [List.length_cons,p.length];exact len u qs T hS
 ·obtain ⟨R,a,l,u,vs',qs,T,rfl,sR,hR,hB,p,hS,q⟩:=h
  have hl:qs.length + 1<=N.length:=by
   rw [len u qs T hS]
   have:=congrArg List.length Sc.pre
   rw [List.length_take] at this
   omega
  refine ⟨_,eh,hbody cdv A outer s H E a l u qs T hr hS (L2.start N (.ref a::vs')) (dU H (a::l)) R H R (jy sR hR hB p hl) {nx:=λ_ H'=>Q .non H',rt:=Q} (λσ' H' R' Γ' E' _ ⟨u',hΓ,t⟩=>?_) λv H' R' xx t=>?_⟩
  ·obtain ⟨ea,hB',hR'⟩:=gp (E'.ent 0 _ hΓ)
   exact q .non H' R' u' E'.ext hB' hR' (t _ _ _)
  ·obtain ⟨s',a',t',el,h1,h2,h3⟩:=t
   cases el
   exact q v H' R' s' xx h1 h2 h3
end
section
variable {H R H' R':Hp}
inductive Fl
 | i (n:Int)
 | l (a:Addr) (xs:List PV)
 | d (a:Addr) (D:List (Int×Int))
abbrev Fs:=List (Str×Fl)
def Fl.v:Fl->V
 | .i n=>.int n
 | .l a _=>.ref a
 | .d a _=>.ref a
def Fl.ad:Fl->List Addr
 | .i _=>[]
 | .l a _=>[a]
 | .d a _=>[a]
def df (D:List (Int×Int)):List (Key×V):=D.map λp=>(Sum.inl p.1,V.int p.2)
def Fl.ok (H R:Hp):Fl->Prop
 | .i _=>True
 | .l a xs=>∃vs,H a=some (.lst vs)/\cN R vs xs/\xs.length<=sizeLine
 | .d a D=>H a=some (.dK (df D))
def cS:Fs->List (Str×V)
 | []=>[]
 | (f,x)::r=>(f,x.v)::cS r
def cn:Fs->List Addr
 | []=>[]
 | (_,x)::r=>x.ad++cn r
def bh:Fs->Str->Option Fl
 | [],_=>none
 | (g,x)::r,f=>if g=f then some x else bh r f
def bE (f:Str)(y:Fl):Fs->Fs
 | []=>[(f,y)]
 | (g,x)::r=>if g=f then (g,y)::r else (g,x)::bE f y r
theorem bN {f:Str}:∀{fs:Fs} {x:Fl},bh fs f=some x->(cS fs).lookup f=some x.v
 | [],x,h=>by cases h
 | (g,y)::r,x,h=>by
   rw [cS,List.lookup]
   rw [bh] at h
   by_cases e:g=f
   ·rw [if_pos e] at h;cases h;subst e;simp
   ·rw [if_neg e] at h
    rw [show (f==g)=false from beq_eq_false_iff_ne.mpr λz=>e z.symm]
    exact bN h
theorem jj {f:Str}{y:Fl}:∀{fs:Fs},de f y.v (cS fs)=cS (bE f y fs)
 | []=>rfl
 | (g,x)::r=>by
   rw [cS,de,bE]
   by_cases e:g=f
   ·rw [if_pos e,if_pos e,cS]
   ·rw [if_neg e,if_neg e,cS,jj]
theorem fG:∀(fs:Fs),(cS fs).length=fs.length
 | []=>rfl
 | (g,x)::r=>by rw [cS,List.length_cons,List.length_cons,fG r]
theorem iY {f:Str}{x y:Fl}(ha:y.ad=x.ad):∀{fs:Fs},bh fs f=some x->cn (bE f y fs)=cn fs
 | [],h=>by cases h
 | (g,z)::r,h=>by
   rw [bh] at h
   rw [bE]
   by_cases e:g=f
   ·rw [if_pos e] at h ⊢;cases h;rw [cn,cn,ha]
   ·rw [if_neg e] at h ⊢;rw [cn,cn,iY ha h]
theorem gE {f:Str}{x:Fl}:∀{fs:Fs},bh fs f=some x->∀a∈x.ad,a∈cn fs
 | [],h,a,ha=>by cases h
 | (g,z)::r,h,a,ha=>by
   rw [bh] at h
   rw [cn]
   by_cases e:g=f
   ·rw [if_pos e] at h;cases h;exact List.mem_append_left _ ha
   ·rw [if_neg e] at h;exact List.mem_append_right _ (gE h a ha)
def bF (H R:Hp):Fs->Prop
 | []=>True
 | (_,x)::r=>x.ok H R/\bF H R r
theorem bF.get {f:Str}{x:Fl}:∀{fs:Fs},bF H R fs->bh fs f=some x->x.ok H R
 | [],_,h=>by cases h
 | (g,z)::r,⟨h1,h2⟩,h=>by
   rw [bh] at h
   by_cases e:g=f
   ·rw [if_pos e] at h;cases h;exact h1
   ·rw [if_neg e] at h;exact bF.get h2 h
theorem Fl.ok.loc {x:Fl}(h:x.ok H R)(e:∀a∈x.ad,H' a=H a)(s:aj R R'):x.ok H' R':=by
 cases x with
 | i n=>trivial
 | l a xs=>obtain ⟨vs,h1,h2,h3⟩:=h;exact ⟨vs,(e a (by simp [Fl.ad])).trans h1,h2.mono s,h3⟩
 | d a D=>exact (e a (by simp [Fl.ad])).trans h
theorem bF.loc:∀{fs:Fs},bF H R fs->(∀a∈cn fs,H' a=H a)->aj R R'->bF H' R' fs
 | [],_,_,_=>trivial
 | (g,z)::r,⟨h1,h2⟩,e,s=>⟨h1.loc (λa ha=>e a (by rw [cn];exact List.mem_append_left _ ha)) s,bF.loc h2 (λa ha=>e a (by rw [cn];exact List.mem_append_right _ ha)) s⟩
theorem bF.set {f:Str}{x y:Fl}(hy:y.ok H' R')(s:aj R R'):∀{fs:Fs},bF H R fs->bh fs f=some x->(cn fs).Nodup->(∀a∈cn fs,a∉x.ad->H' a=H a)->bF H' R' (bE f y fs)
 | [],_,h,_,_=>by cases h
 | (g,z)::r,⟨h1,h2⟩,h,nd,e=>by
   rw [bh] at h
   rw [bE]
   rw [cn] at nd e
   obtain ⟨n1,n2,n3⟩:=List.nodup_append.mp nd
   by_cases q:g=f
   ·rw [if_pos q] at h ⊢
    cases h
    exact ⟨hy,bF.loc h2 (λa ha=>e a (List.mem_append_right _ ha) λw=>n3 a w a ha rfl) s⟩
   ·rw [if_neg q] at h ⊢
    refine ⟨h1.loc (λa ha=>e a (List.mem_append_left _ ha) λw=>n3 a ha a (gE h a w) rfl) s,bF.set hy s h2 h n2 λa ha hn=>e a (List.mem_append_right _ ha) hn⟩
theorem bF.has:∀{fs:Fs},bF H R fs->∀a∈cn fs,H a≠none
 | (g,z)::r,⟨h1,h2⟩,a,ha=>by
   rw [cn] at ha
   rcases List.mem_append.mp ha with q | q
   ·cases z with
    | i n=>cases q
    | l b xs=>
      obtain ⟨vs,e,_⟩:=h1
      rw [List.mem_singleton.mp q,e];exact Option.some_ne_none _
    | d b D=>
      have h1:H b=some (.dK (df D)):=h1
      rw [List.mem_singleton.mp q,h1];exact Option.some_ne_none _
   ·exact bF.has h2 a q
def BB (C:Addr)(l:List Addr)(fs:Fs)(H R:Hp)(v:V):Prop:=∃x dx,l=x::dx::cn fs/\v= .ref x/\H x=some (.ins C dx (cS fs))/\H dx=some (.own x)/\bF H R fs/\l.Nodup
def aB (C:Addr):LK Fs where
 bx l fs:=⟨l,λ_ H R v=>BB C l fs H R v,λ{K H R0 H' R' v} e s ⟨x,dx,el,ev,h1,h2,h3,nd⟩=>by
  subst el
  exact ⟨x,dx,rfl,ev,(e x (by simp)).trans h1,(e dx (by simp)).trans h2,h3.loc (λa ha=>e a (by simp [ha])) s,nd⟩,λ{K H R0 v} ⟨x,dx,el,ev,h1,h2,h3,nd⟩ a ha=>by
  subst el
  rcases List.mem_cons.mp ha with rfl | ha
  ·rw [h1];exact Option.some_ne_none _
  ·rcases List.mem_cons.mp ha with rfl | ha
   ·rw [h2];exact Option.some_ne_none _
   ·exact h3.has a ha⟩
 fp _ _:=rfl
 at_:=λ⟨x,dx,el,ev,_⟩=>⟨x,_,el,ev⟩
end
section
variable {X:Cx}{Γ Γ1 Γ2 Γ3:Ga}{α β γ δ:Type}{N:Ga->Prop}{T:RT}
variable {C x:Addr}{l:List Addr}{f m:Str}{p1 pos:Pos}{K:PySem.W.Frag}{H R:Hp}{a:Addr}{n:Int}{ap:Pos}{xs:List PV}{n':Int}{e:Expr}
theorem aw.j9 {σ:St}{H0 R0:Hp}{i:Nat}{B B':nE}{o:HO}(E:aw K σ H0 R0 H R Γ)(hΓ:Γ[i]?=some (.ob B))(ha:a∈B.fp)(ho:(Ent.ob B').ok K (L2.upd H a o) R (σ[i]?).join)(hfp:∀b∈B'.fp,b∈B.fp):aw K σ H0 R0 (L2.upd H a o) R (Γ.set i (.ob B')):=by
 have hR:∀b∈B.fp,R b=none:=(E.ent i _ hΓ).2
 refine E.tM hΓ ⟨λb u q=>?_,aj.refl _,λb u q=>?_,λ_ _=>rfl⟩ ho hfp
 ·have hb:b∉B.fp:=λw=>by rw [iZ w] at q;cases q
  rw [dE hb] at q
  rw [az λe=>hb (by rw [e];exact ha)];exact q
 ·have hb:b≠a:=λe=>by rw [e,hR a ha] at q;cases q
  rw [az hb];exact E.sub b u q
structure cf (K:PySem.W.Frag) (C:Addr) (ns:List Str):Prop where
 cl:jT K C
 no:∀f∈ns,fg K C f
theorem gm {fs:Fs}{o:Option V}(h:(Ent.ob ((aB C).bx (x::l) fs)).ok K H R o):o=some (.ref x)/\gx R (x::l)/\∃dx,l=dx::cn fs/\H x=some (.ins C dx (cS fs))/\H dx=some (.own x)/\bF H R fs/\(x::l).Nodup:=by
 obtain ⟨e,hB,hR⟩:=gp (B:=aB C) h
 obtain ⟨x',dx,el,ev,h1,h2,h3,nd⟩:=hB
 cases el
 exact ⟨e,hR,dx,rfl,h1,h2,h3,nd⟩
theorem dy (i:Nat){fs:Fs}{ns:List Str}(hC:cf X.K C ns)(hf:f∈ns)(hΓ:Γ[i]?=some (.ob ((aB C).bx (x::l) fs)))(h:bh fs f=some (.i n))(hN:X.N[i]?=some m:=by rfl)(hv:cT X.env.scope m:=by first | exact Or.inl rfl | exact Or.inr (Or.inl rfl) | exact Or.inr (Or.inr rfl))
 (hd:(m==("__debug__":Str))=false:=by decide) (hcd:(m==("__classdict__":Str))=false:=by decide) (hbase:attributeBase (.Name m p1) f X.env (eval (.Name m p1) X.env)=eval (.Name m p1) X.env:=by rfl):EV X (.Attribute (.Name m p1) f pos) Γ ae n Γ:=λσ H0 R0 H R E Q q=>by
 obtain ⟨ea,hR,dx,el,h1,h2,h3,nd⟩:=gm (E.ent i _ hΓ)
 exact eS (du (bB hN hv hd hcd) hbase) ⟨.ref x,at_of ea,x,C,dx,_,_,rfl,h1,hC.cl,hC.no f hf,bN h,q _ H R E (aj.refl _) rfl⟩
theorem nq {fs:Fs}{dx:Addr}(el:l=dx::cn fs)(h2:H dx=some (.own x))(h3:bF H R fs)(nd:(x::l).Nodup)(hR:gx R (x::l))(h:bh fs f=some (.i n')):(Ent.ob ((aB C).bx (x::l) (bE f (.i n) fs))).ok K (upd H x (.ins C dx (de f (.int n) (cS fs)))) R (some (.ref x)):=by
 subst el
 have hx:∀b∈dx::cn fs,b≠x:=λb hb e=>(List.nodup_cons.mp nd).1 (e▸hb)
 refine fY (B:=aB C) ⟨x,dx,by rw [iY (y:=.i n) (x:=.i n') rfl h],rfl,?_,?_,?_,nd⟩ hR
 ·rw [aA];exact congrArg (λz=>some (HO.ins C dx z)) (jj (y:=.i n))
 ·rw [az (hx dx (by simp))];exact h2
 ·exact bF.set (y:=.i n) trivial (aj.refl _) h3 h (List.nodup_cons.mp (List.nodup_cons.mp nd).2).2 λa ha _=>az (hx a (by simp [ha]))
theorem kB (i:Nat){fs:Fs}{ns:List Str}(hC:cf X.K C ns)(hf:f∈ns)(he:EV X e Γ ae n Γ1)(hΓ1:Γ1[i]?=some (.ob ((aB C).bx (x::l) fs)))(h:bh fs f=some (.i n'))(hz:fs.length < 1000)(hn:N (Γ1.set i (.ob ((aB C).bx (x::l) (bE f (.i n) fs)))))
 (hN:X.N[i]?=some m:=by rfl) (hv:cT X.env.scope m:=by first | exact Or.inl rfl | exact Or.inr (Or.inl rfl) | exact Or.inr (Or.inr rfl)) (hd:(m==("__debug__":Str))=false:=by decide) (hcd:(m==("__classdict__":Str))=false:=by decide)
 (hsw:swapsWith e (some (.Attribute (.Name m p1) f ap)) pos.line X.env=pure false:=by rfl):W1 X (.Assign [.Attribute (.Name m p1) f ap] e pos) Γ N T:=λσ H0 R0 H R E D dn dr=>
 sS (pE (bB hN hv hd hcd) aL hsw) (he σ H0 R0 H R E _ λv H1 R1 E1 s1 e1=>by
  obtain ⟨ea,hR,dx,el,h1,h2,h3,nd⟩:=gm (E1.ent i _ hΓ1)
  cases e1
  refine ⟨.ref x,at_of ea,x,C,dx,_,rfl,h1,hC.cl,hC.no f hf,by rw [fG];exact hz,?_⟩
  exact dn σ _ R1 _ (E1.j9 (B':=(aB C).bx (x::l) (bE f (.i n) fs)) hΓ1 (a:=x) (by show x∈x::l;simp) (by rw [ea];exact nq el h2 h3 nd hR h) λb hb=>hb) s1 hn)
theorem mG (i:Nat){fs:Fs}{ns:List Str}(hC:cf X.K C ns)(hf:f∈ns)(hΓ:Γ[i]?=some (.ob ((aB C).bx (x::l) fs)))(he:EV X e Γ ae n Γ)(h:bh fs f=some (.i n'))(hz:fs.length < 1000)(hn:N (Γ.set i (.ob ((aB C).bx (x::l) (bE f (.i (n' + n)) fs)))))
 (hN:X.N[i]?=some m:=by rfl) (hv:cT X.env.scope m:=by first | exact Or.inl rfl | exact Or.inr (Or.inl rfl) | exact Or.inr (Or.inr rfl)) (hd:(m==("__debug__":Str))=false:=by decide) (hcd:(m==("__classdict__":Str))=false:=by decide):W1 X (.AugAssign (.Attribute (.Name m p1) f ap) .Add e pos) Γ N T:=λσ H0 R0 H R E D dn dr=>by
 obtain ⟨ea,hR,dx,el,h1,h2,h3,nd⟩:=gm (E.ent i _ hΓ)
 refine sS (qZ (bB hN hv hd hcd) aL xn) ⟨.ref x,at_of ea,x,C,dx,_,_,rfl,h1,hC.cl,hC.no f hf,bN h,he σ H0 R0 H R E _ λv H1 R1 E1 s1 e1=>?_⟩
 obtain ⟨ea1,hR1,dx1,el1,g1,g2,g3,nd1⟩:=gm (E1.ent i _ hΓ)
 cases e1
 refine ⟨n',n,rfl,rfl,dx1,_,g1,by rw [fG];exact hz,?_⟩
 exact dn σ _ R1 _ (E1.j9 (B':=(aB C).bx (x::l) (bE f (.i (n' + n)) fs)) hΓ (a:=x) (by show x∈x::l;simp) (by rw [ea1];exact nq el1 g2 g3 nd1 hR1 h) λb hb=>hb) s1 hn
theorem rK {fs:Fs}{ys:List PV}{ws:List V}{dx:Addr}(el:l=dx::cn fs)(h1:H x=some (.ins C dx (cS fs)))(h2:H dx=some (.own x))(h3:bF H R fs)(nd:(x::l).Nodup)(hR:gx R (x::l))(h:bh fs f=some (.l a xs))(hp:cN R ws ys)(hz:ys.length<=sizeLine):(Ent.ob ((aB C).bx (x::l) (bE f (.l a ys) fs))).ok K (upd H a (.lst ws)) R (some (.ref x)):=by
 subst el
 have ha:a∈cn fs:=gE h a (by simp [Fl.ad])
 have n2:=List.nodup_cons.mp nd
 have n3:=List.nodup_cons.mp n2.2
 have ax:x≠a:=λe=>n2.1 (by rw [e];simp [ha])
 have ad:dx≠a:=λe=>n3.1 (e▸ha)
 have ev:cS (bE f (.l a ys) fs)=cS fs:=by
  have:∀fs:Fs,bh fs f=some (.l a xs)->cS (bE f (.l a ys) fs)=cS fs:=by
   intro fs
   induction fs with
   | nil=>intro h;cases h
   | cons z r ih=>
     obtain ⟨g,z⟩:=z
     intro h
     rw [bh] at h
     rw [bE]
     by_cases e:g=f
     ·rw [if_pos e] at h ⊢;cases h;rfl
     ·rw [if_neg e] at h ⊢;rw [cS,cS,ih h]
  exact this fs h
 refine fY (B:=aB C) ⟨x,dx,by rw [iY (y:=.l a ys) (x:=.l a xs) rfl h],rfl,?_,?_,?_,nd⟩ hR
 ·rw [az ax,ev];exact h1
 ·rw [az ad];exact h2
 ·exact bF.set (y:=.l a ys) ⟨ws,aA,hp,hz⟩ (aj.refl _) h3 h n3.2 λb hb hn=>az λe=>hn (by rw [e];simp [Fl.ad])
theorem cM {fs:Fs}{y:Fl}{o:Option V}(h:(Ent.ob ((aB C).bx (x::l) fs)).ok K H R o)(hf:bh fs f=some y):∃dx,o=some (.ref x)/\gx R (x::l)/\l=dx::cn fs/\H x=some (.ins C dx (cS fs))/\H dx=some (.own x)/\bF H R fs/\(x::l).Nodup/\y.ok H R/\∀a∈y.ad,a∈x::l:=by
 obtain ⟨ea,hR,dx,el,h1,h2,h3,nd⟩:=gm h
 exact ⟨dx,ea,hR,el,h1,h2,h3,nd,h3.get hf,λa ha=>by rw [el];simp [gE hf a ha]⟩
theorem nu (i:Nat){p:Pos}{fs:Fs}{ns:List Str}(hC:cf X.K C ns)(hf:f∈ns)(hm:X.mg "len"=none)(hΓ:Γ[i]?=some (.ob ((aB C).bx (x::l) fs)))(h:bh fs f=some (.l a xs))(hN:X.N[i]?=some m:=by rfl)(hv:cT X.env.scope m:=by first | exact Or.inl rfl | exact Or.inr (Or.inl rfl) | exact Or.inr (Or.inr rfl))
 (hd:(m==("__debug__":Str))=false:=by decide) (hcd:(m==("__classdict__":Str))=false:=by decide) (hbase:attributeBase (.Name m p1) f X.env (eval (.Name m p1) X.env)=eval (.Name m p1) X.env:=by rfl) (hs:starEach [.Attribute (.Name m p1) f ap] X.env=[(false,eval (.Attribute (.Name m p1) f ap) X.env)]:=by rfl) (hg:Gl X "len":=by rfl):
 EV X (.Call (.Name "len" p) [.Attribute (.Name m p1) f ap] [] pos) Γ ae (xs.length:Int) Γ:=λσ H0 R0 H R E Q q=>by
 obtain ⟨dx,ea,hR,el,h1,h2,h3,nd,⟨vs,ha,pp,z⟩,_⟩:=cM (E.ent i _ hΓ) h
 refine eS (cj dC hg hm PySem.boot_len (aE (du (bB hN hv hd hcd) hbase) bt hs) (by decide) (by decide) hs) ⟨.ref x,at_of ea,x,C,dx,_,_,rfl,h1,hC.cl,hC.no f hf,bN h,a,vs,rfl,.inl (bI.of ha),?_⟩
 rw [pp.pair.length]
 exact q _ H R E (aj.refl _) rfl
theorem mE (i:Nat){b:Expr}{fs:Fs}{y:PV}{ns:List Str}(hC:cf X.K C ns)(hf:f∈ns)(hb:EV X b Γ ae n Γ)(hΓ:Γ[i]?=some (.ob ((aB C).bx (x::l) fs)))(h:bh fs f=some (.l a xs))(hy:da xs n=some y)(hN:X.N[i]?=some m:=by rfl)(hv:cT X.env.scope m:=by first | exact Or.inl rfl | exact Or.inr (Or.inl rfl) | exact Or.inr (Or.inr rfl))
 (hd:(m==("__debug__":Str))=false:=by decide) (hcd:(m==("__classdict__":Str))=false:=by decide) (hbase:attributeBase (.Name m p1) f X.env (eval (.Name m p1) X.env)=eval (.Name m p1) X.env:=by rfl) (hs:gQ b:=by exact λ_ _=>rfl):
 EV X (.Subscript (.Attribute (.Name m p1) f ap) b pos) Γ ak y Γ:=λσ H0 R0 H R E Q q=>by
 obtain ⟨dx,ea,hR,el,h1,h2,h3,nd,_,_⟩:=cM (E.ent i _ hΓ) h
 refine eS (lr ku (du (bB hN hv hd hcd) hbase) aL hs) ⟨.ref x,at_of ea,x,C,dx,_,_,rfl,h1,hC.cl,hC.no f hf,bN h,hb σ H0 R0 H R E _ λu H1 R1 E1 s1 e1=>?_⟩
 obtain ⟨dx1,ea1,hR1,el1,g1,g2,g3,nd1,⟨vs,ha,pp,z⟩,_⟩:=cM (E1.ent i _ hΓ) h
 obtain ⟨w,e3,e4⟩:=g8 pp.pair hy
 exact ⟨a,vs,n,w,rfl,e1,bI.of ha,e3,q w H1 R1 E1 s1 e4⟩
theorem gW (i:Nat){bp cp:Pos}{fs:Fs}{y:PV}{ns:List Str}(hC:cf X.K C ns)(hf:f∈ns)(he:EV X e Γ ak y Γ)(hΓ:Γ[i]?=some (.ob ((aB C).bx (x::l) fs)))(h:bh fs f=some (.l a xs))(hz:xs.length < sizeLine)(hn:N (Γ.set i (.ob ((aB C).bx (x::l) (bE f (.l a (xs++[y])) fs)))))
 (hN:X.N[i]?=some m:=by rfl) (hv:cT X.env.scope m:=by first | exact Or.inl rfl | exact Or.inr (Or.inl rfl) | exact Or.inr (Or.inr rfl)) (hd:(m==("__debug__":Str))=false:=by decide) (hcd:(m==("__classdict__":Str))=false:=by decide)
 (hbase:attributeBase (.Name m p1) f X.env (eval (.Name m p1) X.env)=eval (.Name m p1) X.env:=by rfl)
 (hsw:swapsWith (.Call (.Attribute (.Attribute (.Name m p1) f ap) "append" bp) [e] [] cp) none pos.line X.env=pure false:=by rfl)
 (hbase2:attributeBase (.Attribute (.Name m p1) f ap) "append" X.env (eval (.Attribute (.Name m p1) f ap) X.env)=eval (.Attribute (.Name m p1) f ap) X.env:=by rfl)
 (hfew:((backTo cp (starEach [e] X.env)).all (λx=> !x.1)&&(backToKw cp (keywordEach [] X.env)).all (λx=>x.1.isSome)
  &&decide ([e].length + ([]:List Keyword).length + (if ([]:List Keyword).isEmpty then 0 else 1) < 30))=true:=by rfl)
 (hline:(bp.endLine==cp.line)=true:=by rfl) (hs:starEach [e] X.env=(false,eval e X.env)::starEach [] X.env:=by rfl):W1 X (.Expr (.Call (.Attribute (.Attribute (.Name m p1) f ap) "append" bp) [e] [] cp) pos) Γ N T:=λσ H0 R0 H R E D dn dr=>by
 obtain ⟨dx,ea,hR,el,h1,h2,h3,nd,⟨vs,ha,pp,_⟩,_⟩:=cM (E.ent i _ hΓ) h
 refine sS (fP (ug PySem.F.plainAttrs_list PySem.F.slot_list_append PySem.F.type_list_append kQ (du (bB hN hv hd hcd) hbase) (aE aL bt hs) hbase2 hfew hline hs rfl) hsw) ?_
 refine ⟨.ref x,at_of ea,x,C,dx,_,_,rfl,h1,hC.cl,hC.no f hf,bN h,.inl ⟨rfl,vs,bI.of ha⟩,he σ H0 R0 H R E _ λv H1 R1 E1 s1 e1=>?_⟩
 obtain ⟨dx1,ea1,hR1,el1,g1,g2,g3,nd1,⟨vs1,ha1,pp1,_⟩,hin⟩:=cM (E1.ent i _ hΓ) h
 refine ⟨a,vs1,v,rfl,rfl,ha1,by rw [pp1.pair.length];exact hz,?_⟩
 exact dn σ _ R1 _ (E1.j9 (B':=(aB C).bx (x::l) (bE f (.l a (xs++[y])) fs)) hΓ (a:=a) (hin a (by simp [Fl.ad])) (by rw [ea1];exact rK el1 g1 g2 g3 nd1 hR1 h (.of (cm pp1.pair (.cons e1 .nil))) (by rw [List.length_append];exact hz)) λb hb=>hb) s1 hn
end
section
variable {X:Cx}{Γ Γ1 Γ2 Γ3:Ga}{α β γ δ:Type}{N:Ga->Prop}{T:RT}
variable {C x:Addr}{l:List Addr}{f:Str}{a:Addr}{m:Str}{p1 ap:Pos}{D:List (Int×Int)}{e:Expr}{pos:Pos}
theorem m7 {f:Str}{x y:Fl}(hv:y.v=x.v):∀{fs:Fs},bh fs f=some x->cS (bE f y fs)=cS fs
 | [],h=>by cases h
 | (g,z)::r,h=>by
   rw [bh] at h
   rw [bE]
   by_cases e:g=f
   ·rw [if_pos e] at h ⊢;cases h;rw [cS,cS,hv]
   ·rw [if_neg e] at h ⊢;rw [cS,cS,m7 hv h]
theorem kF {fs:Fs}{K:PySem.W.Frag}{H R:Hp}{y z:Fl}{o:HO}{dx:Addr}(el:l=dx::cn fs)(h1:H x=some (.ins C dx (cS fs)))(h2:H dx=some (.own x))(h3:bF H R fs)(nd:(x::l).Nodup)(hR:gx R (x::l))(h:bh fs f=some y)(hy:y.ad=[a])(hzv:z.v=y.v)(hza:z.ad=y.ad)(hz:z.ok (upd H a o) R):(Ent.ob ((aB C).bx (x::l) (bE f z fs))).ok K (upd H a o) R (some (.ref x)):=by
 subst el
 have ha:a∈cn fs:=gE h a (by simp [hy])
 have n2:=List.nodup_cons.mp nd
 have n3:=List.nodup_cons.mp n2.2
 have ax:x≠a:=λe=>n2.1 (by rw [e];simp [ha])
 have ad:dx≠a:=λe=>n3.1 (e▸ha)
 refine fY (B:=aB C) ⟨x,dx,by rw [iY (y:=z) (x:=y) hza h],rfl,?_,?_,?_,nd⟩ hR
 ·rw [az ax,m7 hzv h];exact h1
 ·rw [az ad];exact h2
 ·exact bF.set (y:=z) hz (aj.refl _) h3 h n3.2 λb hb hn=>az λe=>hn (by rw [e,hy];simp)
theorem uS (i:Nat){bp cp:Pos}{fs:Fs}{xs:List PV}{y:PV}{ns:List Str}(hC:cf X.K C ns)(hf:f∈ns)(hΓ:Γ[i]?=some (.ob ((aB C).bx (x::l) fs)))(h:bh fs f=some (.l a (xs++[y])))
 (hN:X.N[i]?=some m:=by rfl) (hv:cT X.env.scope m:=by first | exact Or.inl rfl | exact Or.inr (Or.inl rfl) | exact Or.inr (Or.inr rfl)) (hd:(m==("__debug__":Str))=false:=by decide) (hcd:(m==("__classdict__":Str))=false:=by decide)
 (hbase:attributeBase (.Name m p1) f X.env (eval (.Name m p1) X.env)=eval (.Name m p1) X.env:=by rfl)
 (hbase2:attributeBase (.Attribute (.Name m p1) f ap) "pop" X.env (eval (.Attribute (.Name m p1) f ap) X.env)=eval (.Attribute (.Name m p1) f ap) X.env:=by rfl)
 (hline:(bp.endLine==cp.line)=true:=by rfl):EV X (.Call (.Attribute (.Attribute (.Name m p1) f ap) "pop" bp) [] [] cp) Γ ak y (Γ.set i (.ob ((aB C).bx (x::l) (bE f (.l a xs) fs)))):=λσ H0 R0 H R E Q q=>by
 obtain ⟨dx,ea,hR,el,h1,h2,h3,nd,⟨vs,ha,pp,hz⟩,hin⟩:=cM (E.ent i _ hΓ) h
 refine eS (rq PySem.F.plainAttrs_list PySem.F.slot_list_pop PySem.F.type_list_pop yK (du (bB hN hv hd hcd) hbase) hbase2 hline) ?_
 obtain ⟨v,e3,e4⟩:=cV pp.pair (show (xs++[y])[xs.length]?=some y by simp)
 have hl:vs.length=xs.length + 1:=by rw [pp.pair.length];simp
 refine ⟨.ref x,at_of ea,x,C,dx,_,_,rfl,h1,hC.cl,hC.no f hf,bN h,.inl ⟨rfl,vs,bI.of ha⟩,a,vs,v,rfl,rfl,ha,by rw [hl];exact e3,?_⟩
 refine q v _ R (E.j9 (B':=(aB C).bx (x::l) (bE f (.l a xs) fs)) hΓ (a:=a) (hin a (by simp [Fl.ad])) (by
  rw [ea]
  refine kF (y:=.l a (xs++[y])) (z:=.l a xs) el h1 h2 h3 nd hR h rfl rfl rfl ⟨_,aA,.of ?_,by rw [List.length_append] at hz;simp at hz;omega⟩
  have:=gC xs.length pp.pair
  rw [List.take_left' rfl] at this
  rw [List.dropLast_eq_take,hl];exact this) λb hb=>hb) (aj.refl _) e4
theorem r8 (i:Nat){b:Expr}{p2:Pos}{fs:Fs}{xs:List PV}{y:PV}{k:Int}{j:Nat}{ns:List Str}(hC:cf X.K C ns)(hf:f∈ns)(he:EV X e Γ ak y Γ)(hb:EV X b Γ ae k Γ)(hΓ:Γ[i]?=some (.ob ((aB C).bx (x::l) fs)))(h:bh fs f=some (.l a xs))(hj:gb xs.length k=some j)(hn:N (Γ.set i (.ob ((aB C).bx (x::l) (bE f (.l a (xs.set j y)) fs)))))
 (hN:X.N[i]?=some m:=by rfl) (hv:cT X.env.scope m:=by first | exact Or.inl rfl | exact Or.inr (Or.inl rfl) | exact Or.inr (Or.inr rfl)) (hd:(m==("__debug__":Str))=false:=by decide) (hcd:(m==("__classdict__":Str))=false:=by decide)
 (hbase:attributeBase (.Name m p1) f X.env (eval (.Name m p1) X.env)=eval (.Name m p1) X.env:=by rfl)
 (ha:∀v,assign (.Subscript (.Attribute (.Name m p1) f ap) b p2) X.env v=(do
  let ov ← holding [v] (eval (.Attribute (.Name m p1) f ap) X.env)
  let iv ← holding [v,ov] (eval b X.env)
  standAt p2
  holding [v,ov,iv] (setItem ov iv v)
  release [v,ov,iv] []):=by intro _;rfl)
 (hs:swapsWithSole [.Subscript (.Attribute (.Name m p1) f ap) b p2] e pos.line X.env=pure false:=by rfl) (hw:swappedStores [.Subscript (.Attribute (.Name m p1) f ap) b p2] e X.env=pure none:=by rfl) (h1:(assignEach [.Subscript (.Attribute (.Name m p1) f ap) b p2] X.env).map (·.2)=[assign (.Subscript (.Attribute (.Name m p1) f ap) b p2) X.env]:=by rfl):
 W1 X (.Assign [.Subscript (.Attribute (.Name m p1) f ap) b p2] e pos) Γ N T:=λσ H0 R0 H R E D dn dr=>by
 refine sS (pK aL (qI (du (bB hN hv hd hcd) hbase) aL set_list ha) hs hw h1) (he σ H0 R0 H R E _ λv H1 R1 E1 s1 e1=>?_)
 obtain ⟨dx,ea,hR,el,g1,g2,g3,nd,_,_⟩:=cM (E1.ent i _ hΓ) h
 refine ⟨.ref x,at_of ea,x,C,dx,_,_,rfl,g1,hC.cl,hC.no f hf,bN h,hb σ H0 R0 H1 R1 E1 _ λu H2 R2 E2 s2 e2=>?_⟩
 obtain ⟨dx2,ea2,hR2,el2,k1,k2,k3,nd2,⟨vs,ha2,pp,hz⟩,hin⟩:=cM (E2.ent i _ hΓ) h
 refine ⟨a,vs,k,j,rfl,e2,ha2,by rw [pp.pair.length];exact hj,?_⟩
 exact dn σ _ R2 _ (E2.j9 (B':=(aB C).bx (x::l) (bE f (.l a (xs.set j y)) fs)) hΓ (a:=a) (hin a (by simp [Fl.ad])) (by
  rw [ea2]
  exact kF (y:=.l a xs) (z:=.l a (xs.set j y)) el2 k1 k2 k3 nd2 hR2 h rfl rfl rfl ⟨_,aA,.of (hV (ak.mono (K:=X.K) s2 e1) j pp.pair),by rw [List.length_set];exact hz⟩) λb hb=>hb) (s1.trans s2) hn
def dG:List (Int×Int)->Int->Option Int
 | [],_=>none
 | (k,n)::r,q=>if k=q then some n else dG r q
def dP (q v:Int)(D:List (Int×Int)):List (Int×Int):=if (D.any λp=>decide (p.1=q))=true then D.map (λp=>if p.1=q then (p.1,v) else p) else D++[(q,v)]
theorem j4:∀{D:List (Int×Int)} {q:Int},ej (df D) (Sum.inl q:Key)=(dG D q).map V.int
 | [],q=>rfl
 | (k,n)::r,q=>by
   have ih:=j4 (D:=r) (q:=q)
   unfold df at ih ⊢
   rw [List.map_cons,dG]
   unfold ej at ih ⊢
   rw [List.find?_cons]
   by_cases e:k=q
   ·subst e;simp
   ·rw [if_neg e,← ih]
    simp [e]
theorem vp {q v:Int}:putK (df D) (Sum.inl q:Key) (.int v)=df (dP q v D):=by
 have e:((df D).any λkv=>decide (kv.1=(Sum.inl q:Key)))=D.any λp=>decide (p.1=q):=by
  unfold df
  rw [List.any_map]
  congr 1
  funext p
  show decide ((Sum.inl p.1:Key)=Sum.inl q)=decide (p.1=q)
  by_cases h:p.1=q
  ·rw [h];simp
  ·rw [decide_eq_false h,decide_eq_false λz=>h (Sum.inl.inj z)]
 unfold putK dP
 rw [e]
 by_cases h:(D.any λp=>decide (p.1=q))=true
 ·rw [if_pos h,if_pos h]
  unfold df
  rw [List.map_map,List.map_map]
  refine List.map_congr_left λp _=>?_
  show (if (Sum.inl p.1:Key)=Sum.inl q then ((Sum.inl p.1:Key),V.int v) else (Sum.inl p.1,V.int p.2))=(Sum.inl (if p.1=q then (p.1,v) else p).1,V.int (if p.1=q then (p.1,v) else p).2)
  by_cases h:p.1=q
  ·rw [if_pos (by rw [h]),if_pos h]
  ·rw [if_neg λz=>h (Sum.inl.inj z),if_neg h]
 ·rw [if_neg h,if_neg h]
  unfold df
  rw [List.map_append];rfl
theorem rN (i:Nat){e':Expr}{bp cp:Pos}{fs:Fs}{k n:Int}{ns:List Str}(hu:X.A.units + 1 < cLine)(hC:cf X.K C ns)(hf:f∈ns)(he:EV X e Γ ae k Γ)(he':EV X e' Γ ae n Γ)(hΓ:Γ[i]?=some (.ob ((aB C).bx (x::l) fs)))(h:bh fs f=some (.d a D))
 (hN:X.N[i]?=some m:=by rfl) (hv:cT X.env.scope m:=by first | exact Or.inl rfl | exact Or.inr (Or.inl rfl) | exact Or.inr (Or.inr rfl)) (hd:(m==("__debug__":Str))=false:=by decide) (hcd:(m==("__classdict__":Str))=false:=by decide)
 (hbase:attributeBase (.Name m p1) f X.env (eval (.Name m p1) X.env)=eval (.Name m p1) X.env:=by rfl) (hm:M2 X (.Attribute (.Name m p1) f ap) "get" bp e e' cp:=by exact ⟨rfl,rfl,rfl,rfl⟩):EV X (.Call (.Attribute (.Attribute (.Name m p1) f ap) "get" bp) [e,e'] [] cp) Γ ae ((dG D k).getD n) Γ:=λσ H0 R0 H R E Q q=>by
 obtain ⟨dx,ea,hR,el,h1,h2,h3,nd,ha,hin⟩:=cM (E.ent i _ hΓ) h
 have ha:H a=some (.dK (df D)):=ha
 refine eS (rX hu (du (bB hN hv hd hcd) hbase) aL aL hm) ⟨.ref x,at_of ea,x,C,dx,_,_,rfl,h1,hC.cl,hC.no f hf,bN h,a,rfl,.inl ⟨_,.inl ha⟩,he σ H0 R0 H R E _ λv H1 R1 E1 s1 e1=>he' σ H0 R0 H1 R1 E1 _ λv2 H2 R2 E2 s2 e2=>?_⟩
 obtain ⟨dx2,_,_,_,_,_,_,_,ha2,_⟩:=cM (E2.ent i _ hΓ) h
 have ha2:H2 a=some (.dK (df D)):=ha2
 cases e1;cases e2
 refine ⟨_,eX.k (k:=Sum.inl k) ha2,?_⟩
 rw [j4]
 have:((dG D k).map V.int).getD (V.int n)=V.int ((dG D k).getD n):=by cases dG D k<;>rfl
 rw [this]
 exact q _ H2 R2 E2 (s1.trans s2) rfl
theorem vj (i:Nat){e':Expr}{p2:Pos}{fs:Fs}{k n:Int}{ns:List Str}(hu:X.A.units + 1 < cLine)(hC:cf X.K C ns)(hf:f∈ns)(he:EV X e Γ ae k Γ)(he':EV X e' Γ ae n Γ)(hΓ:Γ[i]?=some (.ob ((aB C).bx (x::l) fs)))(h:bh fs f=some (.d a D))(hz:D.length < sizeLine)(hn:N (Γ.set i (.ob ((aB C).bx (x::l) (bE f (.d a (dP k n D)) fs)))))
 (hN:X.N[i]?=some m:=by rfl) (hv:cT X.env.scope m:=by first | exact Or.inl rfl | exact Or.inr (Or.inl rfl) | exact Or.inr (Or.inr rfl)) (hd:(m==("__debug__":Str))=false:=by decide) (hcd:(m==("__classdict__":Str))=false:=by decide)
 (hbase:attributeBase (.Name m p1) f X.env (eval (.Name m p1) X.env)=eval (.Name m p1) X.env:=by rfl)
 (hs:swapsWith e' (some (.Subscript (.Attribute (.Name m p1) f ap) e p2)) pos.line X.env=pure false:=by rfl):W1 X (.Assign [.Subscript (.Attribute (.Name m p1) f ap) e p2] e' pos) Γ N T:=λσ H0 R0 H R E Dd dn dr=>by
 refine sS (uR hu (du (bB hN hv hd hcd) hbase) aL aL hs) (he' σ H0 R0 H R E _ λv H1 R1 E1 s1 e1=>?_)
 obtain ⟨dx,ea,hR,el,h1,h2,h3,nd,ha,hin⟩:=cM (E1.ent i _ hΓ) h
 refine ⟨.ref x,at_of ea,x,C,dx,_,_,rfl,h1,hC.cl,hC.no f hf,bN h,he σ H0 R0 H1 R1 E1 _ λv2 H2 R2 E2 s2 e2=>?_⟩
 obtain ⟨dx2,ea2,hR2,el2,k1,k2,k3,nd2,ha2,hin2⟩:=cM (E2.ent i _ hΓ) h
 have ha2:H2 a=some (.dK (df D)):=ha2
 cases e1;cases e2
 refine ⟨a,_,rfl,me.k (k:=Sum.inl k) ha2 (by unfold df;rw [List.length_map];exact hz),?_⟩
 rw [vp]
 exact dn σ _ R2 _ (E2.j9 (B':=(aB C).bx (x::l) (bE f (.d a (dP k n D)) fs)) hΓ (a:=a) (hin2 a (by simp [Fl.ad])) (by
  rw [ea2]
  exact kF (y:=.d a D) (z:=.d a (dP k n D)) el2 k1 k2 k3 nd2 hR2 h rfl rfl rfl (show upd H2 a _ a=_ from aA)) λb hb=>hb) (s1.trans s2) hn
theorem qk {kvs:List (Key×Value)}:∀{D:List (Int×Int)} {vs:List Value},kvs.map (·.1)=(D.map λp=>(Sum.inl p.1:Key))->vs.length=D.length->(∀(j:Nat) (v:Value),vs[j]?=some v->∃k x,kvs[j]?=some (k,x)/\h8 k v=true)->IntsAre vs (D.map (·.1)):=by
 intro D
 induction D generalizing kvs with
 | nil=>intro vs e l h;cases vs with
   | nil=>exact .nil
   | cons a b=>simp at l
 | cons p D ih=>
   intro vs e l h
   cases vs with
   | nil=>simp at l
   | cons a b=>
     cases kvs with
     | nil=>simp at e
     | cons q kvs=>
       simp only [List.map_cons,List.cons.injEq] at e
       obtain ⟨k,x,hx,hk⟩:=h 0 a rfl
       simp at hx
       subst hx
       have e1:k=Sum.inl p.1:=e.1
       rw [e1] at hk
       rcases cg hk with ⟨j,t,e2,e3⟩ | ⟨y,t,e2,e3⟩
       ·cases e2
        subst e3
        exact .cons _ t (ih (kvs:=kvs) e.2 (by simpa using l) λj v hv=>by simpa using h (j + 1) v (by simpa using hv))
       ·cases e2
theorem ma (hc:X.calm=true):dz X (.builtin "sorted") (λxs H Q=>∃(p:Addr) (D:List (Int×Int)),xs=[.ref p]/\H p=some (.dK (df D))/\D.length < 64/\∀ms:List Int,ms.Perm (D.map (·.1))->ms.Pairwise (· <=·)->∀d,H d=none->Q (.ref d) (upd H d (.lst (ms.map V.int)))):=by
 intro pins s σ H xs us Q I r h
 obtain ⟨p,D,rfl,hq,h64,q⟩:=h
 obtain ⟨u,rfl,rx⟩:=vals1 r
 cases rx
 obtain ⟨z,lo,kvs,rel,dd⟩:=oK I.hok hq
 obtain ⟨ep,hat⟩:=dd.dictAt
 have hkl:kvs.length=D.length:=by rw [← rel.length];unfold df;rw [List.length_map]
 have hks:kvs.map (·.1)=(D.map λp=>(Sum.inl p.1:Key)):=by
  have:∀{A:List (Key×V)} {B:List (Key×Value)},KV A B->B.map (·.1)=A.map (·.1):=by
   intro A B h
   unfold KV at h
   induction h with
   | nil=>rfl
   | cons h t ih=>rw [List.map_cons,List.map_cons,ih,h.1]
  rw [this rel]
  unfold df
  rw [List.map_map];rfl
 refine Calls.call_function_entry PyProof.Rows.kind_sorted PyProof.Rows.plain_sorted PyProof.Rows.entry_sorted (PyProof.Rows.args_sorted1 _) ?_
 unfold Builtin.«sorted»;refine wpAny_bind (m:=checkCount "sorted" 1 1 _) (wpAny_pure ?_)
 refine wpAny_bind (PySem.W.kdu_collect (A:=X.A.in1) (PySem.W.kdl_dict (knd:=bw X.prog X.w) (kvs:=kvs) (ep:=ep) lo) (I.ok.hd hc) hat (by rw [hkl,sizeLine_eq];omega) λh1 tk acc hk hacc=>?_)
 have hal:acc.toList.length=D.length:=by rw [Array.length_toList,hacc.1,hkl]
 have hI:IntsAre acc.toList (D.map (·.1)):=qk hks hal λj v e=>hacc.2 j v (by rw [← Array.getElem?_toList];exact e)
 refine wpAny_bind (wpAny_newList ?_ (by rw [hal,sizeLine_eq];omega))
 have hoL:(h1.push (seqObj "list" acc.toList.toArray 0)).get? h1.objs.size=some (seqObj "list" acc.toList.toArray 0):=Heap.get?_push_size _ rfl
 refine wpAny_bind (wpAny_holding (wpAny_call_entry slot_list_sort ⟨_,hoL,rfl⟩ entry_list_sort (list_sort_tree (s:={s with heap:=_,toks:=tk}) hoL hI (by rw [hal];exact h64) λout ms a1 a2 a3=>⟨_,rfl,?_⟩) (args_list_sort _)))
 obtain ⟨e,he⟩:=sortedHeap_at (out:=out) hoL
 have hold:∀b u,h1.get? b=some u->(sortedHeap (h1.push (seqObj "list" acc.toList.toArray 0)) h1.objs.size acc.toList out).get? b=some u:=by
  intro b u q
  have hb:b < h1.objs.size:=Heap.lt_size q
  rw [sortedHeap_old (Nat.ne_of_lt hb) (by rw [size_push'];exact Nat.lt_succ_of_lt hb),Heap.get?_push_ne _ _ _ (Nat.ne_of_lt hb)]
  exact q
 have I1:Inv X pins σ H {s with heap:=h1,toks:=tk}:=I.kept hk
 have hn:H h1.objs.size=none:=I1.hok.fresh (Nat.le_refl _)
 have hml:ms.length=D.length:=by rw [a2.length_eq,List.length_map]
 have hle:ms.length<=sizeLine:=by rw [hml];exact Nat.le_trans (Nat.le_of_lt h64) (by decide)
 exact wpAny_pure ⟨_,rfl,⟨.ref h1.objs.size,upd H h1.objs.size (.lst (ms.map V.int)),I1.laid (a:=h1.objs.size) (o:=.lst (ms.map V.int)) (t':=tk) hold (Nat.le_refl _) ⟨by rw [List.length_map];exact hle,out.toList,e,iI a1,by rw [he]⟩,rfl,q ms a2 a3 _ hn⟩⟩
theorem qO (i:Nat){p:Pos}{fs:Fs}{ns:List Str}(hC:cf X.K C ns)(hf:f∈ns)(hm:X.mg "sorted"=none)(hΓ:Γ[i]?=some (.ob ((aB C).bx (x::l) fs)))(h:bh fs f=some (.d a D))(h64:D.length < 64)(hc:X.calm=true:=by rfl)
 (hN:X.N[i]?=some m:=by rfl) (hv:cT X.env.scope m:=by first | exact Or.inl rfl | exact Or.inr (Or.inl rfl) | exact Or.inr (Or.inr rfl)) (hd:(m==("__debug__":Str))=false:=by decide) (hcd:(m==("__classdict__":Str))=false:=by decide)
 (hbase:attributeBase (.Name m p1) f X.env (eval (.Name m p1) X.env)=eval (.Name m p1) X.env:=by rfl) (hs:starEach [.Attribute (.Name m p1) f ap] X.env=[(false,eval (.Attribute (.Name m p1) f ap) X.env)]:=by rfl) (hg:Gl X "sorted":=by rfl):bW X (.Call (.Name "sorted" p) [.Attribute (.Name m p1) f ap] [] pos) Γ ae (sortI (D.map (·.1))) Γ:=λσ H0 R0 H R E Q q=>by
 obtain ⟨dx,ea,hR,el,h1,h2,h3,nd,ha,hin⟩:=cM (E.ent i _ hΓ) h
 refine eS (cj (ma hc) hg hm PyProof.Rows.boot_sorted (aE (du (bB hN hv hd hcd) hbase) bt hs) (by decide) (by decide) hs) ⟨.ref x,at_of ea,x,C,dx,_,_,rfl,h1,hC.cl,hC.no f hf,bN h,a,D,rfl,ha,h64,λms hpm hs d hd=>?_⟩
 have aints:∀ys:List Int,PySem.Paired (ae.R X.K R) (ys.map V.int) ys:=λys=>by
  induction ys with
  | nil=>exact .nil
  | cons y r ih=>exact .cons rfl ih
 rw [rJ hpm hs]
 exact q d _ _ R (E.grow (Ext.dX E.sub hd _)) (aj.refl _) aA (E.sub.free hd) (E.ext.h.free hd) (E.off hd) (aints _) (by
  have:(sortI (D.map (·.1))).length=D.length:=by unfold sortI;rw [List.length_mergeSort,List.length_map]
  rw [this];exact Nat.le_trans (Nat.le_of_lt h64) (by decide))
end
section
variable {R:Hp}
abbrev bT (H0 R:Hp):List Addr->List (List Int)->Prop:=PySem.Paired λt ns=>H0 t=none/\R t=some (.tup (ns.map V.int))
theorem bT.mono {H0 R':Hp}(s:aj R R'){ts:List Addr}{fs:List (List Int)}(h:bT H0 R ts fs):bT H0 R' ts fs:=Paired.map (λ_ _ ⟨a,b⟩=>⟨a,s _ _ b⟩) h
abbrev tupI (ns:List Int):PV:=.tup (ns.map PV.int)
theorem ky {R:Hp}:∀ns:List Int,cN R (ns.map V.int) (ns.map PV.int)
 | []=>.nil
 | n::r=>.cons (.int n) (ky r)
theorem bT.pv {H0:Hp}:∀{ts:List Addr} {fs:List (List Int)},bT H0 R ts fs->PySem.Paired (cQ R) (ts.map V.ref) (fs.map tupI)
 | _,_,.nil=>.nil
 | _,_,.cons ⟨_,b⟩ t=>.cons (.tup b (ky _)) (bT.pv t)
theorem lX {H H' R':Hp}(s:aj R H)(sh:aj H H')(sr:aj R' H'){ts:List Addr}{fs:List (List Int)}(h:bT H R' ts fs):∃R2,Ext H R H' R2/\bT H R2 ts fs/\∀b,b∉ts->R2 b=R b:=by
 refine ⟨λb=>if H b=none/\b∈ts then R' b else R b,⟨sh,λb o q=>?_,λb o q=>?_,λb hb=>if_neg λz=>hb z.1⟩,?_,λb hb=>if_neg λz=>hb z.2⟩
 ·show (if H b=none/\b∈ts then R' b else R b)=some o
  rw [if_neg λz=>by rw [s b o q] at z;cases z.1];exact q
 ·have q:(if H b=none/\b∈ts then R' b else R b)=some o:=q
  by_cases hz:H b=none/\b∈ts
  ·rw [if_pos hz] at q;exact sr b o q
  ·rw [if_neg hz] at q;exact sh b o (s b o q)
 ·have key:∀{us:List Addr} {gs:List (List Int)},bT H R' us gs->(∀u∈us,u∈ts)->bT H (λb=>if H b=none/\b∈ts then R' b else R b) us gs:=by
   intro us gs h
   induction h with
   | nil=>intro _;exact .nil
   | @cons u g us gs h t ih=>intro hu;exact .cons ⟨h.1,(if_pos ⟨h.1,hu u List.mem_cons_self⟩).trans h.2⟩ (ih λv hv=>hu v (List.mem_cons_of_mem _ hv))
  exact key h λ_ q=>q
end
section
variable {X:Cx}{Γ Γ1 Γ2 Γ3:Ga}{α β γ δ:Type}{N:Ga->Prop}{T:RT}
variable {pos:Pos}{R:Hp}{xs:List α}{es:List Expr}{H:Hp}{C:Addr}
theorem Src.sub {K:PySem.W.Frag}{J:It}{R1:Hp}{r:Rep α}(h:Src K J R r xs)(s:aj R R1):Src K J R1 r xs:=λH' R' s1 s2 i=>h H' R' (s.trans s1) s2 i
theorem ql {Γf:Ga}(hF:∀(σ:St) (H0 R0 H R:Hp),aw X.K σ H0 R0 H R Γ1->aw X.K σ H H H H Γf){tg iter:Expr}{k:Nat}{tp:Pos}{scope:Scope}{cl:List (Str×Addr)}{own fr:List Str}{ix:List Nat}{ra:Rep α}{f:α->List Int}{bf:α->Ga->Ga}
 (S:cJ X scope cl own fr ix) (hit:IV X tg iter Γ ra xs Γ1)
 (hb:∀(C:Addr) (s:Shared) (H:Hp) (ex:List Addr),BG (aO X scope cl C (own++fr) s H ex) tg ra bf) (hw:∀x,Wk (bf x (cb own ix Γf)) (cb own ix Γf))
 (he:∀(C:Addr) (s:Shared) (H:Hp) (ex:List Addr) x,x∈xs->EA (aO X scope cl C (own++fr) s H ex) es (bf x (cb own ix Γf)) ae (f x) (bf x (cb own ix Γf))) (hl:∀x∈xs,(f x).length<=sizeLine)
 {σ:St} {H0 R0:Hp} {Q:VK} (E:aw X.K σ H0 R0 H R Γ) (q:∀H1 R1 H' R' a ts,aw X.K σ H0 R0 H1 R1 Γ1->aj R R1->aj H1 H'->aj R' H'->bT H1 R' ts (xs.map f)->H' a=none->Q (.ref a) (upd H' a (.lst (ts.map V.ref))))
 (hc:X.calm=true) (hs:∀x,foldedSetIterable iter X.env x=pure x):dj X (.ListComp (.Tuple es k tp) [⟨tg,iter,[],0⟩] scope pos) σ H Q:=by
 obtain ⟨wi,hi,hit⟩:=hit
 refine eS (mW (g:=λv σ H Q=>∀C s Hh ex,hG (aO X scope cl C (own++fr) s Hh ex) tg v σ H Q) (tc:=λσ H Q=>∀C s Hh ex,iW (aO X scope cl C (own++fr) s Hh ex) [] σ H Q) (te:=λσ H Q=>∀C s Hh ex,dj (aO X scope cl C (own++fr) s Hh ex) (.Tuple es k tp) σ H Q) hc S hi
  (λC s H ex=>⟨λpins s1 σ H v u Q I r h=>h C s _ ex pins s1 u I r,λpins s1 σ H Q I h=>h C s _ ex pins s1 I,λpins s1 σ H Q I h=>h C s _ ex pins s1 I⟩) hs) ?_
 refine hit σ H0 R0 H R E _ λJ H1 R1 E1 s1 hz src=>?_
 have srcF:=src.sub E1.sub
 have E1f:=jq (hF σ H0 R0 H1 R1 E1) own ix
 refine ⟨λi m ys σ' H'=>m=xs.length - i/\i<=xs.length/\∃R' ts,aw X.K σ' H1 H1 H' R' (cb own ix Γf)/\ys=ts.map V.ref/\bT H1 R' ts ((xs.take i).map f),⟨_,rfl,Nat.zero_le _,H1,[],E1f,rfl,.nil⟩,?_⟩
 rintro i m ys σ' H' ⟨rfl,hle,R',ts,E',rfl,pp⟩
 have hys:(ts.map V.ref).length<=sizeLine:=by
  rw [List.length_map,pp.length,List.length_map,List.length_take]
  exact Nat.le_trans (Nat.min_le_right _ _) hz
 obtain ⟨sgo,sstop⟩:=srcF H' R' E'.ext.r E'.sub i
 refine ⟨hys,?_⟩
 by_cases hlt:i < xs.length
 ·obtain ⟨go,yl⟩:=sgo _ (List.getElem?_eq_getElem hlt)
  have hmem:xs[i]∈xs:=List.getElem_mem hlt
  have tk:(xs.take (i + 1))=xs.take i++[xs[i]]:=by rw [List.take_succ,List.getElem?_eq_getElem hlt];rfl
  refine .inr ⟨go,λv H2 hy C s Hh ex=>?_⟩
  obtain ⟨R2,x2,hr⟩:=yl v H2 hy
  refine hb C s Hh ex σ' H1 H1 H2 R2 _ v _ (E'.grow x2) hr _ λσ2 E2=>?_
  intro C s Hh ex
  refine (gc (X:=aO X scope cl C (own++fr) s Hh ex)) σ2 H1 H1 H2 R2 E2 _ λH4 R4 E4 s4=>?_
  rw [if_pos rfl]
  intro C s Hh ex
  refine eS (gu gN) (he C s Hh ex _ hmem σ2 H1 H1 H4 R4 E4 _ λvs H5 R5 E5 s5 p5=>⟨by rw [p5.length];exact hl _ hmem,λp hp=>?_⟩)
  have ev:=eA p5
  subst ev
  have x6:=Ext.fresh E5.sub hp (.tup ((f xs[i]).map V.int))
  have E6:=E5.grow x6
  refine ⟨xs.length - (i + 1),by omega,rfl,hlt,_,ts++[p],E6.weak (hw _),by rw [List.map_append];rfl,?_⟩
  rw [tk,List.map_append]
  exact cm (pp.mono (x2.r.trans (s4.trans (s5.trans x6.r)))) (.cons ⟨E5.ext.h.free hp,aA⟩ .nil)
 ·have e:i=xs.length:=by omega
  subst e
  rw [List.take_length] at pp
  exact .inl ⟨sstop (Nat.le_refl _),λa ha=>q H1 R1 H' R' a ts E1 s1 E'.ext.h E'.sub pp ha⟩
def rj (fs:List (List Int)):RT:=λH0 v H' R'=>∃a ts,v= .ref a/\H0 a=none/\H' a=some (.lst (ts.map V.ref))/\R' a=none/\bT H0 R' ts fs
theorem yd {tg iter:Expr}{k:Nat}{tp:Pos}{scope:Scope}{p2:Pos}{cl:List (Str×Addr)}{own fr:List Str}{ix:List Nat}{ra:Rep α}{f:α->List Int}{bf:α->Ga->Ga}(hF:∀(σ:St) (H0 R0 H R:Hp),aw X.K σ H0 R0 H R Γ1->aw X.K σ H H H H (Γ1.map gy))
 (S:cJ X scope cl own fr ix) (hit:IV X tg iter Γ ra xs Γ1)
 (hb:∀(C:Addr) (s:Shared) (H:Hp) (ex:List Addr),BG (aO X scope cl C (own++fr) s H ex) tg ra bf) (hw:∀x,Wk (bf x (cb own ix (Γ1.map gy))) (cb own ix (Γ1.map gy)))
 (he:∀(C:Addr) (s:Shared) (H:Hp) (ex:List Addr) x,x∈xs->EA (aO X scope cl C (own++fr) s H ex) es (bf x (cb own ix (Γ1.map gy))) ae (f x) (bf x (cb own ix (Γ1.map gy)))) (hl:∀x∈xs,(f x).length<=sizeLine)
 (hc:X.calm=true:=by rfl) (hs:∀x,foldedSetIterable iter X.env x=pure x:=by intro _;rfl):W1 X (.Return (some (.ListComp (.Tuple es k tp) [⟨tg,iter,[],0⟩] scope pos)) p2) Γ N (rj (xs.map f)):=λσ H0 R0 H R E D dn dr=>
 sS (eF aL) (ql hF S hit hb hw he hl E (λH1 R1 H' R' a ts E1 s1 sh sr nt ha=>by
  obtain ⟨R2,xx,nt2,_⟩:=lX E1.sub sh sr nt
  have E2:=E1.grow xx
  have xm:=Ext.dX E2.sub ha (.lst (ts.map V.ref))
  refine dr _ _ R2 (E2.ext.trans xm) ⟨a,ts,rfl,E2.ext.h.free ha,aA,E2.sub.free ha,Paired.map (λt ns ⟨h1,h2⟩=>⟨E1.ext.h.free h1,h2⟩) nt2⟩) hc hs)
theorem kI {S:cE}{x:Str}{k:Nat}{e:Expr}{p:Pos}{ps:List Pk}{fs:List (List Int)}(C:aU X.prog X.w X.K X.mg X.base x k (aZ S X.K))(hr:bg k X.A)(ha:HA X (e::es) Γ ps Γ1)(hS:S X.K ps (rj fs))(hz:fs.length<=sizeLine)
 (hg:Gl X x:=by rfl) (hdb:(x==("__debug__":Str))=false:=by decide) (he:starEach (e::es) X.env=(false,eval e X.env)::starEach es X.env:=by rfl) (hpl:(backTo pos (starEach es X.env)).any (·.1)=false:=by rfl):
 bW X (.Call (.Name x p) (e::es) [] pos) Γ ak (fs.map tupI) Γ1:=λσ H0 R0 H R E Q q=>
 eT C hr ha hS E (λH1 R1 v H' R' E1 s1 xx t=>by
  obtain ⟨a,ts,rfl,h0,h1,h2,nt⟩:=t
  have E2:=E1.grow xx
  exact q a _ H' R' E2 (s1.trans xx.r) h1 h2 (E1.ext.h.free h0) (E1.off h0) nt.pv (by simpa using hz)) hg hdb he hpl
theorem bF.fr (s:aj R H):∀{fs:Fs},bF H R fs->bF H H fs
 | [],_=>trivial
 | (_,x)::r,⟨h1,h2⟩=>⟨by
   cases x with
   | i n=>trivial
   | l a xs=>obtain ⟨vs,e1,e2,e3⟩:=h1;exact ⟨vs,e1,e2.mono s,e3⟩
   | d a D=>exact h1,bF.fr s h2⟩
theorem bF.up {H':Hp}(s:aj H H'):∀{fs:Fs},bF H H fs->bF H' H' fs
 | [],_=>trivial
 | (_,x)::r,⟨h1,h2⟩=>⟨by
   cases x with
   | i n=>trivial
   | l a xs=>obtain ⟨vs,e1,e2,e3⟩:=h1;exact ⟨vs,s _ _ e1,e2.mono s,e3⟩
   | d a D=>exact s _ _ h1,bF.up s h2⟩
def rObj (C:Addr):Rep Fs:=⟨λ_ R v fs=>∃x dx,v= .ref x/\R x=some (.ins C dx (cS fs))/\bF R R fs,λs ⟨x,dx,e,q,h⟩=>⟨x,dx,e,s _ _ q,h.up s⟩⟩
theorem w9 {i:Nat}{x:Addr}{l:List Addr}{fs:Fs}(hΓ:Γ[i]?=some (.ob ((aB C).bx (x::l) fs)))(σ:St)(H0 R0 H R:Hp)(E:aw X.K σ H0 R0 H R Γ):aw X.K σ H H H H ((Γ.map gy).set i (.im (rObj C) fs)):=by
 obtain ⟨ea,hR,dx,el,h1,h2,h3,nd⟩:=gm (E.ent i _ hΓ)
 exact E.frz.zT (i:=i) (e0:=.no) (by rw [List.getElem?_map,hΓ];rfl) ⟨.ref x,ea,x,dx,rfl,h1,h3.fr E.sub⟩ λb w=>by cases w
theorem uN (i:Nat){m f:Str}{e:Expr}{p1 ap:Pos}{a:Addr}{fs:Fs}{D:List (Int×Int)}{k n:Int}{ns:List Str}(hu:X.A.units + 1 < cLine)(hC:cf X.K C ns)(hf:f∈ns)(he:EV X e Γ ae k Γ)(hΓ:Γ[i]?=some (.im (rObj C) fs))(h:bh fs f=some (.d a D))(hk:dG D k=some n)
 (hN:X.N[i]?=some m:=by rfl) (hv:cT X.env.scope m:=by first | exact Or.inl rfl | exact Or.inr (Or.inl rfl) | exact Or.inr (Or.inr rfl)) (hd:(m==("__debug__":Str))=false:=by decide) (hcd:(m==("__classdict__":Str))=false:=by decide)
 (hbase:attributeBase (.Name m p1) f X.env (eval (.Name m p1) X.env)=eval (.Name m p1) X.env:=by rfl) (hs:lz e:=by exact λ_ _=>rfl):EV X (.Subscript (.Attribute (.Name m p1) f ap) e pos) Γ ae n Γ:=λσ H0 R0 H R E Q q=>by
 obtain ⟨v,ea,x,dx,rfl,h1,h3⟩:=E.ent i _ hΓ
 refine eS (nr hu (du (bB hN hv hd hcd) hbase) aL hs) ⟨.ref x,at_of ea,x,C,dx,_,_,rfl,E.sub _ _ h1,hC.cl,hC.no f hf,bN h,he σ H0 R0 H R E _ λv H1 R1 E1 s1 e1=>?_⟩
 have ha:R a=some (.dK (df D)):=h3.get h
 cases e1
 have g:=eX.k (k:=Sum.inl k) (E1.sub _ _ (s1 _ _ ha))
 rw [j4,hk] at g
 exact ⟨a,_,rfl,g,q _ H1 R1 E1 s1 rfl⟩
theorem qv (i:Nat){m f:Str}{p p1 ap:Pos}{x a:Addr}{l:List Addr}{fs:Fs}{xs:List PV}{ns:List Str}(hC:cf X.K C ns)(hf:f∈ns)(hm:X.mg "list"=none)(hΓ:Γ[i]?=some (.ob ((aB C).bx (x::l) fs)))(h:bh fs f=some (.l a xs))
 (hN:X.N[i]?=some m:=by rfl) (hv:cT X.env.scope m:=by first | exact Or.inl rfl | exact Or.inr (Or.inl rfl) | exact Or.inr (Or.inr rfl)) (hd:(m==("__debug__":Str))=false:=by decide) (hcd:(m==("__classdict__":Str))=false:=by decide)
 (hbase:attributeBase (.Name m p1) f X.env (eval (.Name m p1) X.env)=eval (.Name m p1) X.env:=by rfl) (hs:starEach [.Attribute (.Name m p1) f ap] X.env=[(false,eval (.Attribute (.Name m p1) f ap) X.env)]:=by rfl) (hg:Gl X "list":=by rfl):bW X (.Call (.Name "list" p) [.Attribute (.Name m p1) f ap] [] pos) Γ ak xs Γ:=λσ H0 R0 H R E Q q=>by
 obtain ⟨dx,ea,hR,el,h1,h2,h3,nd,⟨vs,ha,pp,hz0⟩,hin⟩:=cM (E.ent i _ hΓ) h
 refine eS (gz fR hg hm PyProof.Rows.boot_list (aE (du (bB hN hv hd hcd) hbase) bt hs) (by decide) (by decide) hs) ⟨.ref x,at_of ea,x,C,dx,_,_,rfl,h1,hC.cl,hC.no f hf,bN h,a,vs,rfl,.inl (bI.of ha),λd hd=>?_⟩
 exact q d _ _ R (E.grow (Ext.dX E.sub hd _)) (aj.refl _) aA (E.sub.free hd) (E.ext.h.free hd) (E.off hd) pp.pair hz0
end
theorem nc {f:Str}{y:Fl}:∀{fs:Fs},bh fs f=none->cn (bE f y fs)=cn fs++y.ad
 | [],_=>by simp [bE,cn]
 | (g,z)::r,h=>by
   rw [bh] at h
   rw [bE]
   by_cases e:g=f
   ·rw [if_pos e] at h;cases h
   ·rw [if_neg e] at h ⊢;rw [cn,cn,nc h,List.append_assoc]
theorem bF.new {H R:Hp}{f:Str}{y:Fl}(hy:y.ok H R):∀{fs:Fs},bh fs f=none->bF H R fs->bF H R (bE f y fs)
 | [],_,_=>⟨hy,trivial⟩
 | (g,z)::r,h,⟨h1,h2⟩=>by
   rw [bh] at h
   rw [bE]
   by_cases e:g=f
   ·rw [if_pos e] at h;cases h
   ·rw [if_neg e] at h ⊢;exact ⟨h1,bF.new hy h h2⟩
section
variable {X:Cx}{Γ Γ1 Γ2 Γ3:Ga}{α β γ δ:Type}{N:Ga->Prop}{T:RT}
def oa (X:Cx)(e:Expr)(Γ:Ga)(P:Fl->Prop)(Γ1:Ga):Prop:=∀(σ:St) (H0 R0 H R:Hp),aw X.K σ H0 R0 H R Γ->∀Q:VK,(∀y H' R',P y->aw X.K σ H0 R0 H' R' Γ1->aj R R'->y.ok H' R'->(∀a∈y.ad,R' a=none/\H0 a=none/\Off a σ Γ1)->Q y.v H')->dj X e σ H Q
theorem jK {e:Expr}{n:Int}(h:EV X e Γ ae n Γ1):oa X e Γ (· = .i n) Γ1:=λσ H0 R0 H R E Q q=>
 h σ H0 R0 H R E _ λv H1 R1 E1 s1 e1=>by
   cases e1
   exact q (.i n) H1 R1 rfl E1 s1 trivial λa ha=>by cases ha
theorem kg {e:Expr}{xs:List PV}(h:bW X e Γ ak xs Γ1):oa X e Γ (λy=>∃a,y= .l a xs) Γ1:=λσ H0 R0 H R E Q q=>
 h σ H0 R0 H R E _ λa vs H1 R1 E1 s1 ha hR h0 off pp z=>q (.l a xs) H1 R1 ⟨a,rfl⟩ E1 s1 ⟨vs,ha,.of pp,z⟩ λb hb=>by
   cases List.mem_singleton.mp hb
   exact ⟨hR,h0,off⟩
theorem fh (i:Nat){m f:Str}{e:Expr}{p1 ap pos:Pos}{C x:Addr}{l:List Addr}{fs:Fs}{ns:List Str}{P:Fl->Prop}(hC:cf X.K C ns)(hf:f∈ns)(he:oa X e Γ P Γ1)(hΓ1:Γ1[i]?=some (.ob ((aB C).bx (x::l) fs)))(h:bh fs f=none)(hz:fs.length < 1000)(hn:∀y,P y->N (Γ1.set i (.ob ((aB C).bx (x::(l++y.ad)) (bE f y fs)))))
 (hN:X.N[i]?=some m:=by rfl) (hv:cT X.env.scope m:=by first | exact Or.inl rfl | exact Or.inr (Or.inl rfl) | exact Or.inr (Or.inr rfl)) (hd:(m==("__debug__":Str))=false:=by decide) (hcd:(m==("__classdict__":Str))=false:=by decide)
 (hsw:swapsWith e (some (.Attribute (.Name m p1) f ap)) pos.line X.env=pure false:=by rfl):W1 X (.Assign [.Attribute (.Name m p1) f ap] e pos) Γ N T:=λσ H0 R0 H R E D dn dr=>
 sS (pE (bB hN hv hd hcd) aL hsw) (he σ H0 R0 H R E _ λy H1 R1 hP E1 s1 hy hnew=>by
  obtain ⟨ea,hR,dx,el,h1,h2,h3,nd⟩:=gm (E1.ent i _ hΓ1)
  subst el
  have hx:∀b∈dx::cn fs,b≠x:=λb hb e=>(List.nodup_cons.mp nd).1 (e▸hb)
  have hoff:∀a∈y.ad,a∉x::dx::cn fs:=λa ha w=>(hnew a ha).2.2 i _ hΓ1 w
  have hyx:∀a∈y.ad,a≠x:=λa ha e=>hoff a ha (by rw [e];simp)
  have hyn:y.ad.Nodup:=by cases y<;>simp [Fl.ad]
  refine ⟨.ref x,at_of ea,x,C,dx,_,rfl,h1,hC.cl,hC.no f hf,by rw [fG];exact hz,?_⟩
  refine dn σ _ R1 _ (E1.xU (en:=.ob ((aB C).bx (x::((dx::cn fs)++y.ad)) (bE f y fs))) hΓ1 (a:=x) (by show x∈x::dx::cn fs;simp) ?_ λb hb=>?_) s1 (hn y hP)
  ·rw [ea]
   refine fY (B:=aB C) ⟨x,dx,by rw [nc h];rfl,rfl,?_,?_,?_,?_⟩ λb hb=>?_
   ·rw [aA];exact congrArg (λz=>some (HO.ins C dx z)) (jj (y:=y))
   ·rw [az (hx dx (by simp))];exact h2
   ·exact bF.new (hy.loc (λa ha=>az (hyx a ha)) (aj.refl _)) h (h3.loc (λa ha=>az (hx a (by simp [ha]))) (aj.refl _))
   ·show ((x::dx::cn fs)++y.ad).Nodup
    exact List.nodup_append.mpr ⟨nd,hyn,λa ha b hb e=>hoff b hb (e▸ha)⟩
   ·have hb:b∈(x::dx::cn fs)++y.ad:=hb
    rcases List.mem_append.mp hb with w | w
    ·exact hR b w
    ·exact (hnew b w).1
  ·have hb:b∈(x::dx::cn fs)++y.ad:=hb
   rcases List.mem_append.mp hb with w | w
   ·exact .inl w
   ·exact .inr ⟨(hnew b w).2.1,(hnew b w).2.2⟩)
abbrev tY:=PySem.W.Frag->Addr->List Pk->(Fs->Prop)->Prop
def qH (S:tY)(K:PySem.W.Frag):Sp:=λvs H Q _=>∃R x dx C vs' ps Pd,vs= .ref x::vs'/\aj R H/\gx R [x,dx]/\((aB C).bx [x,dx] []).R K H R (.ref x)/\fu K R vs' ps/\S K C ps Pd/\
 ∀H' R' l fs,Ext (dU H [x,dx]) R H' R'->((aB C).bx (x::l) fs).R K H' R' (.ref x)->gx R' (x::l)->(∀b∈x::l,dU H [x,dx] b=none)->Pd fs->Q .non H'
variable {P:Program}{w:World}{K:PySem.W.Frag}{mg:Str->Option Value}{base:Heap}
theorem yN {S:tY}{x qual:Str}{st:Stmt}{f:Addr}{fd:FuncData}{N ps:List Str}{k:Nat}(F:bL K x qual st f fd)(Sc:aR N ps (aq st))(len:∀C qs Pd,S K C qs Pd->qs.length + 1=ps.length)
 (hbody:∀(cdv:Value) (A:Around) (outer:List Env) (s:Shared) (H:Hp) (E:XK) (C a dx:Addr) (qs:List Pk) (Pd:Fs->Prop),bg k (A.deeper (envOfC qual (aq st) s.heap.objs.size f cdv))->S K C qs Pd->
  WS (bA cL P w K mg base N qual (aq st) f cdv A outer s H E).cD (bz st) (.ob ((aB C).bx [a,dx] [])::eG qs (N.length - 1)) (λΓ=>∃l fs,Γ[0]?=some (.ob ((aB C).bx (a::l) fs))/\Pd fs) (λ_ _ _ _=>False)):cq P w K mg base cL (k + 1) f fd ps (qH S K):=by
 refine F.ok Sc (λvs H Q E h=>?_) (λcdv A outer s H vs Q E hr h=>?_)
 ·obtain ⟨R,a,dx,C,vs',qs,Pd,rfl,_,_,_,p,hS,_⟩:=h
  rw [List.length_cons,p.length];exact len C qs Pd hS
 ·obtain ⟨R,a,dx,C,vs',qs,Pd,rfl,sR,hR,hB,p,hS,q⟩:=h
  have hl:qs.length + 1<=N.length:=by
   rw [len C qs Pd hS]
   have:=congrArg List.length Sc.pre
   rw [List.length_take] at this
   omega
  refine ⟨_,eh,hbody cdv A outer s H E C a dx qs Pd hr hS (L2.start N (.ref a::vs')) (dU H [a,dx]) R H R (jy (B:=aB C) sR hR hB p hl) {nx:=λ_ H'=>Q .non H',rt:=Q} (λσ' H' R' Γ' E' _ ⟨l,fs,hΓ,t⟩=>?_) λv H' R' xx t=>t.elim⟩
  obtain ⟨ea,hB',hR'⟩:=gp (B:=aB C) (E'.ent 0 _ hΓ)
  exact q H' R' l fs E'.ext hB' hR' (λb hb=>E'.nw 0 _ b hΓ hb) t
theorem p9 (i:Nat){S:tY}{c y:Str}{k:Nat}{e:Expr}{es:List Expr}{p p1 p2 pos:Pos}{ps:List Pk}{Pd:Fs->Prop}{C f:Addr}{fd:FuncData}{pn:List Str}(M:Mk X.K C f)(F:cq X.prog X.w X.K X.mg X.base cL k f fd pn (qH S X.K))(hr:bg (k + 1) X.A)(hm:X.mg c=some (.ref C))(hb:Binds X.K fd pn [])(ha:HA X (e::es) Γ ps Γ1)(hS:S X.K C ps Pd)(h:∀x l fs,Pd fs->N (Γ1.set i (.ob ((aB C).bx (x::l) fs))))
 (hg:Gl X c:=by rfl) (hdb:(c==("__debug__":Str))=false:=by decide) (he:starEach (e::es) X.env=(false,eval e X.env)::starEach es X.env:=by rfl) (hpl:(backTo p2 (starEach es X.env)).any (·.1)=false:=by rfl)
 (hN:X.N.Nodup:=by first | assumption | decide) (hi:X.N[i]?=some y:=by rfl) (hx:Loc X.env.scope y:=by first | exact Or.inl rfl | exact Or.inr rfl)
 (hs:swapsWith (.Call (.Name c p) (e::es) [] p2) (some (.Name y p1)) pos.line X.env=pure false:=by rfl) (hf:X.fn y=true∨X.env.scope.names.lookup y=some .local:=by first | exact .inl rfl | exact .inr rfl):
 W1 X (.Assign [.Name y p1] (.Call (.Name c p) (e::es) [] p2) pos) Γ N T:=λσ H0 R0 H R E D dn dr=>
 sS (iy hN hi hx (vC M F hr hg hm hb .nil jP gN hdb he hpl) hs hf) (ha σ H0 R0 H R E _ λvs H1 R1 E1 s1 p1 x dx hx hdx hne=>by
  have hd1:∀b,dU (upd (upd H1 dx (.own x)) x (.ins C dx [])) [x,dx] b=H1 b:=λb=>by
   by_cases hb:b∈[x,dx]
   ·rw [iZ hb]
    rcases List.mem_cons.mp hb with rfl | hb
    ·exact hx.symm
    ·rw [List.mem_singleton.mp hb];exact hdx.symm
   ·rw [dE hb]
    simp at hb
    rw [az hb.1,az hb.2]
  have hR:gx R1 [x,dx]:=λb hb=>by
   rcases List.mem_cons.mp hb with rfl | hb
   ·exact E1.sub.free hx
   ·rw [List.mem_singleton.mp hb];exact E1.sub.free hdx
  refine ⟨R1,x,dx,C,vs,ps,Pd,by rw [List.append_nil],λb o q=>?_,hR,⟨x,dx,rfl,rfl,aA,by rw [az hne,aA],trivial,by simp [Ne.symm hne]⟩,p1,hS,λH' R' l fs xx hB hR' hl hP=>⟨rfl,?_⟩⟩
  ·have b1:b≠x:=λe=>by rw [e,hR x (by simp)] at q;cases q
   have b2:b≠dx:=λe=>by rw [e,hR dx (by simp)] at q;cases q
   rw [az b1,az b2];exact E1.sub b o q
  ·rw [show dU (upd (upd H1 dx (.own x)) x (.ins C dx [])) [x,dx]=H1 from funext hd1] at xx hl
   refine dn _ H' R' _ ((E1.grow xx).setG (en:=.ob ((aB C).bx (x::l) fs)) i (fY (B:=aB C) hB hR') (λb hb=>E1.ext.h.free (hl b hb)) λb hb j e _ qj w=>?_) (s1.trans xx.r) (h x l fs hP)
   exact (Ent.eE (E1.ent j e qj) w).1 (hl b hb))
end
end Fc
namespace Fc.DP
open PySem PySem.Spec
theorem vi:typeLookup (.type "list") "keys"=pure none:=by rw [typeLookup_type,builtinLookup_eq_fast];kernel_rfl
theorem zo:typeLookup (.type "list") "__getattr__"=pure none:=by rw [typeLookup_type,builtinLookup_eq_fast];kernel_rfl
section
variable {prog:Program}{w:World}{A:Around}{E:Value->Shared->Prop}{h:Heap}{g:Array GenState}{d:Drawn}{t:Nat}{os:OsState}{a:Addr}{o:Obj}
variable {its:Array Value}{n:Nat}{u:Tok}
theorem vR {Q:Fin->Shared->Prop}(hx:h.get? a=some {cls:=.type "list",data:=.seq its n})(hh:A.handled=none)
 (hq:∀h' tk e,Heap.NewAttrErr h h' e (.ref a) "keys"->E (.ref e) ⟨h',g,d,tk,os⟩):wpAny (model prog w) A (Builtin.«object.__getattribute__» ⟨[.ref a,.str "keys" u],[]⟩) Q E ⟨h,g,d,t,os⟩:=by
 have hT:(⟨h,g,d,t,os⟩:Shared).TypeIs (.ref a) "list":=⟨_,hx,rfl⟩
 have f4:=vi
 unfold Builtin.«object.__getattribute__»
 repeat (any_goals (first | assumption | wp_step))
 exact wpAny_raiseAttrError hh hq (attrMsg_fits (by decide +kernel) (by size_fits))
theorem pM {R:Result->Shared->Prop}(hx:h.get? a=some {cls:=.type "list",data:=.seq its n})(hh:A.handled=none)
 (hq:∀h' tk e,Heap.NewAttrErr h h' e (.ref a) "keys"->R (.error (.ref e)) ⟨h',g,d,tk,os⟩):codeAny (model prog w) A (.call (.builtin "list.__getattribute__") ⟨[.ref a,.str "keys" u],[]⟩) R ⟨h,g,d,t,os⟩:=
 codeAny_call_builtin F.slot_list_getattribute.plain F.entry_list_ga (F.slot_list_getattribute.check _ _ _ _ _ _ _ _ (show (⟨h,g,d,t,os⟩:Shared).TypeIs (.ref a) "list" from ⟨_,hx,rfl⟩) (F.args_list_getattribute_2 _ _) (vR hx (by simpa using hh) hq))
theorem u0 {Q:Value->Shared->Prop}(hx:h.get? a=some {cls:=.type "list",data:=.seq its n})(hh:A.handled=none)
 (hq:∀h' tk e,Heap.NewAttrErr h h' e (.ref a) "keys"->E (.ref e) ⟨h',g,d,tk,os⟩):wpAny (model prog w) A (getAttrBy (.ref a) (.str "keys" u) false) Q E ⟨h,g,d,t,os⟩:=by
 have hT:(⟨h,g,d,t,os⟩:Shared).TypeIs (.ref a) "list":=⟨_,hx,rfl⟩
 have f1:=sub_AttributeError
 have f2:=F.slot_list_getattribute.lookup
 have f3:=F.slot_list_getattribute.bind (.ref a)
 have f5:=zo
 unfold getAttrBy
 repeat (any_goals (first | assumption | wp_step))
 refine pM hx hh λh' tk e hx'=>?_
 obtain ⟨t',u',he⟩:=hx'.there
 show wpAny _ _ (getattributeRaised _ _ _ _ _ _ _) _ _ _
 unfold getattributeRaised
 repeat (any_goals (first | assumption | wp_step))
 exact hq _ _ _ hx'
theorem vd {Q:Option Value->Shared->Prop}(hx:h.get? a=some {cls:=.type "list",data:=.seq its n})(hh:A.handled=none)
 (hq:∀h' tk,(∀b ob,h.get? b=some ob->h'.get? b=some ob)->Q none ⟨h',g,d,tk,os⟩):wpAny (model prog w) A (getAttr? (.ref a) "keys") Q E ⟨h,g,d,t,os⟩:=by
 have f1:=sub_AttributeError
 unfold getAttr? getAttrBy?
 refine wpAny_bind (wpAny_mkText ?_)
 refine wpAny_bind (wpAny_attempt (u0 hx hh λh' tk e hx'=>?_))
 obtain ⟨t',u',he⟩:=hx'.there
 dsimp only
 repeat (any_goals (first | assumption | wp_step))
 exact hq _ _ hx'.keeps
end
theorem jM:entryFor table "dict.update.loop"=some Builtin.«dict.update.loop»:=entryFor_of_tree (by kernel_rfl)
theorem fz:plainId "dict.update.loop"=true:=by decide +kernel
section
variable {prog:Program}{w:World}{K:Type} [DecidableEq K]{knd:KeyKind prog w K}{A:Around}{R:Result->Shared->Prop}{I:Addr}{fp wr:List Addr}{G:Array GenState->Array GenState->Prop}{n:Nat}{P:Nat->Value->Prop}{St:Nat->Shared->Prop}
def lE (knd:KeyKind prog w K)(h:Heap)(v:Value)(p:K×Value):Prop:=∃a k,v= .ref a/\knd.is p.1 k=true/\∃o,h.get? a=some o/\o.cls= .type "tuple"/\∃c,o.data= .seq #[k,p.2] c
theorem pk (kvs:List (K×Value))(k:K)(v:Value):(stored kvs k v).length<=kvs.length + 1:=by
 unfold stored
 split<;>simp
theorem loop (W:WalksS prog w A.in1 I fp wr G n P St)(S:Addr)(hSf:S∉fp)(ps:List (K×Value))(hn:ps.length=n)(base:Heap)
 (hval:∀i v,P i v->∃p,ps[i]?=some p/\lE knd base v p) (hbw:∀b∈S::wr,base.get? b=none) (hb:n < sizeLine):
 ∀(k i:Nat) (j:Int) (tj:Tok) (s:Shared) (kvs:List (K×Value)),n - i=k->i<=n->St i s->kvs.length<=i->s.heap.DictOf knd S kvs->(∀b o,base.get? b=some o->s.heap.get? b=some o)->
  (∀s',Moved (S::wr) G s s'->s'.heap.DictOf knd S (merged kvs (ps.drop i))->R (.ok (.ret .none)) s')->
  codeAny (model prog w) A (.builtin "dict.update.loop" ⟨[.ref S,.ref I,.int j tj,.none],[]⟩) R s:=by
 have hSw:S∉wr:=λh=>hSf (W.sub _ h)
 have hsub:∀b∈wr,b∈S::wr:=λb hb=>List.mem_cons_of_mem _ hb
 intro k
 induction k with
 | zero=>
   intro i j tj s kvs hk hi hst hl hS hbase hR
   have hin:i=n:=by omega
   subst hin
   refine codeAny_builtin jM ?_
   rw [Around.under_plainId fz _]
   show wpAny _ A.in1 (pyNext (.ref I) >>=_) _ _ s
   refine wpAny_bind (W.done s _ _ hst λs' hm=>?_)
   show wpAny _ A.in1 (Builtin.Dict.addKeywords S [] >>=_) _ _ s'
   refine wpAny_bind (wpAny_pure (wpAny_pure (hR s' (hm.mono hsub) ?_)))
   rw [List.drop_of_length_le (by omega)]
   obtain ⟨o,es,ep,ho,rest⟩:=hS
   exact ⟨o,es,ep,hm.heap S _ hSw ho,rest⟩
 | succ k ih=>
   intro i j tj s kvs hk hi hst hl hS hbase hR
   have hlt:i < n:=by omega
   refine codeAny_builtin jM ?_
   rw [Around.under_plainId fz _]
   show wpAny _ A.in1 (pyNext (.ref I) >>=_) _ _ s
   refine wpAny_bind (W.item i s _ _ hlt hst λv s' hP hst' hm=>?_)
   obtain ⟨p,hp,a,key,rfl,hkey,o,ho,hc,c,hd⟩:=hval i v hP
   have hS':s'.heap.DictOf knd S kvs:=by
    obtain ⟨o,es,ep,ho,rest⟩:=hS
    exact ⟨o,es,ep,hm.heap S _ hSw ho,rest⟩
   have hbase':∀b u,base.get? b=some u->s'.heap.get? b=some u:=λb u e=>hm.heap b u (λw=>by rw [hbw b (hsub b w)] at e;cases e) (hbase b u e)
   have ho':=hbase' _ _ ho
   have hT:s'.TypeIs (.ref a) "tuple":=⟨_,ho',hc⟩
   refine wpAny_bind (wpAny_holding ?_)
   refine wpAny_bind (wpAny_tryCatch ?_)
   unfold Builtin.Dict.pairItems
   refine wpAny_bind (wpAny_typeOf hT ?_)
   rw [if_pos (by decide)]
   refine wpAny_bind (wpAny_seqItems ho' hd (wpAny_pure ?_))
   show wpAny _ _ (holding [key,p.2] (dictSet S key p.2)) _ _ _
   refine wpAny_holding (wpAny_dictSet_pairs (hsz:=by omega) hkey hS' λh' hD hs=>?_)
   refine wpAny_pure ⟨plainId_quiet fz _,ih (i + 1) _ _ _ (stored kvs p.1 p.2) (by omega) hlt (W.frame _ s' _ _ hst' (Nat.le_succ _) λb hb o e=>?_) (Nat.le_trans (pk _ _ _) (by omega)) hD (λb u e=>?_) λs'' hm'' hD''=>?_⟩
   ·rw [hs.2 b (λh:b=S=>hSf (by rw [← h];exact hb))];exact e
   ·rw [hs.2 b (λh:b=S=>by rw [h,hbw S List.mem_cons_self] at e;cases e)];exact hbase' b u e
   ·refine hR s'' (Moved.trans W.gtrans ((hm.mono hsub).then_heap (Nat.le_succ _) λb o hb e=>?_) hm'') ?_
    ·rw [hs.2 b (λh:b=S=>hb (by rw [h];exact List.mem_cons_self))];exact e
    ·have ed:ps.drop i=p::ps.drop (i + 1):=by
      rw [List.drop_eq_getElem_cons (by omega:i < ps.length)]
      rw [List.getElem?_eq_getElem (by omega:i < ps.length)] at hp
      rw [Option.some.inj hp]
     rw [ed]
     exact hD''
end
section
variable {prog:Program}{w:World}{K:Type} [DecidableEq K]{knd:KeyKind prog w K}{A:Around}{E:Value->Shared->Prop}{s:Shared}
theorem qc {l:Addr}{its:Array Value}{c:Nat}{ps:List (K×Value)}{Q:Value->Shared->Prop}(hh:A.handled=none)(hl:s.heap.get? l=some {cls:=.type "list",data:=.seq its c})(hn:ps.length=its.size)(hval:∀(i:Nat) (v:Value),its[i]?=some v->∃p,ps[i]?=some p/\lE knd s.heap v p)(hnd:(ps.map (·.1)).Nodup)(hb:ps.length < sizeLine)
 (h:∀h' tk,h'.DictOf knd s.heap.objs.size ps->(∀b o,s.heap.get? b=some o->h'.get? b=some o)->Q (.ref s.heap.objs.size) {s with heap:=h',toks:=tk}):
 wpAny (model prog w) A (call (.type "dict") [.ref l]) Q E s:=by
 obtain ⟨hp,g,d,tk,os⟩:=s
 have hlt:l < hp.objs.size:=Heap.lt_size hl
 refine callType_codes (Q₁:=λobj s₁=>obj= .ref hp.objs.size/\s₁=⟨hp.push {cls:=.type "dict",data:=.dict #[]},g,d,tk,os⟩) F.kt_called_dict (F.kt_typeCall_dict_1 _) F.entry_dict_init (kt_code_dict_new _ ⟨rfl,rfl⟩) ?_
 rintro obj s₁ ⟨rfl,rfl⟩
 have hnew:(hp.push {cls:=.type "dict",data:=.dict #[]}).DictOf knd hp.objs.size []:=Heap.DictOf.new hp
 have hl':(hp.push {cls:=.type "dict",data:=.dict #[]}).get? l=some {cls:=.type "list",data:=.seq its c}:=Heap.get?_push_of_some _ hl
 refine ⟨hnew.typeIs,F.args_dict_init_2 _ _,?_⟩
 unfold Builtin.«dict.__init__»
 refine wpAny_bind ?_
 unfold Builtin.Dict.selfAndRest
 refine wpAny_bind (wpAny_notOrdered_dict hnew.typeIs ?_)
 show wpAny _ _ (pure (hp.objs.size,[Value.ref l])) _ _ _
 refine wpAny_pure ?_
 show wpAny _ _ (Builtin.Dict.updateFrom "dict.__init__" hp.objs.size (.ref l) [] .none) _ _ _
 unfold Builtin.Dict.updateFrom
 refine wpAny_bind (wpAny_typeOf (T:="list") ⟨_,hl',rfl⟩ ?_)
 rw [if_pos (by decide)]
 refine wpAny_bind (vd hl' (by simpa using hh) λh1 tk1 hk1=>?_)
 rw [if_pos (show (none:Option Value).isNone=true from rfl)]
 have hl1:h1.IsList l its:=⟨_,hk1 _ _ hl',rfl,c,rfl⟩
 refine wpAny_bind (wpAny_rule ?_)
 refine wpAny_bind (wpAny_pyIter_list hl1 ?_)
 have hS1:hp.objs.size < h1.objs.size:=by
  obtain ⟨o,_,_,ho,_⟩:=hnew
  exact Heap.lt_size (hk1 _ _ ho)
 have hsz:hp.objs.size∉[h1.objs.size,l]:=by
  simp only [List.mem_cons,List.mem_singleton,List.not_mem_nil,or_false,not_or]
  exact ⟨Nat.ne_of_lt hS1,Nat.ne_of_gt hlt⟩
 refine wpAny_pure ⟨plainId_quiet fz _,?_⟩
 refine loop (knd:=knd) ((Walks.list (A:=A.in1.in1) (by simpa using hh) _ l (Nat.ne_of_lt (Nat.lt_trans hlt hS1)) its).toS) hp.objs.size hsz ps hn hp (λi v hv=>hval i v hv) ?_ (by omega) (its.size - 0) 0 _ _ _ [] rfl (Nat.zero_le _) ⟨⟨_,Heap.get?_push_size _ rfl,rfl,rfl⟩,hl1.push _⟩ (Nat.zero_le _) ?_ ?_ ?_
 ·intro b hb
  rcases List.mem_cons.mp hb with rfl | hb
  ·exact Heap.get?_none_of_le (Nat.le_refl _)
  ·simp at hb
   subst hb
   exact Heap.get?_none_of_le (Nat.le_of_lt hS1)
 ·obtain ⟨o,es,ep,ho,r⟩:=hnew
  exact ⟨o,es,ep,Heap.get?_push_of_some _ (hk1 _ _ ho),r⟩
 ·intro b o e
  exact Heap.get?_push_of_some _ (hk1 _ _ (Heap.get?_push_of_some _ e))
 ·intro s' hm hD
  obtain ⟨h',g',d',tk',os'⟩:=s'
  have eg:g'=g:=hm.gens
  have ed:d'=d:=hm.drawn
  have eo:os'=os:=hm.os
  subst eg;subst ed;subst eo
  rw [List.drop_zero,merged_nil_of_nodup ps hnd] at hD
  refine ⟨rfl,h h' tk' hD λb o e=>?_⟩
  have hb:=Heap.lt_size e
  refine hm.heap b o (λw=>?_) (Heap.get?_push_of_some _ (hk1 _ _ (Heap.get?_push_of_some _ e)))
  rcases List.mem_cons.mp w with rfl | w
  ·exact Nat.lt_irrefl _ hb
  ·simp at w
   subst w
   exact Nat.lt_irrefl _ (Nat.lt_trans hb hS1)
end
end Fc.DP
namespace Fc
open PySem PySem.Spec L2
open PyProof.Rows hiding St
section
variable {X:Cx}{Γ Γ1 Γ2 Γ3:Ga}{α β γ δ:Type}{N:Ga->Prop}{T:RT}
abbrev iA (D:List (Int×Int)):List PV:=D.map λp=>tupI [p.1,p.2]
theorem pairs_at {R:Hp}:∀{vs:List V} {D:List (Int×Int)},cN R vs (iA D)->∀(i:Nat) (v:V),vs[i]?=some v->∃a p,v= .ref a/\D[i]?=some p/\R a=some (.tup [.int p.1,.int p.2])
 | _,[],.nil,i,v,h=>by simp at h
 | _,(p::D),.cons h t,i,v,e=>by
   cases i with
   | zero=>
     simp at e
     subst e
     cases h with
     | @tup a us _ ha hu=>
       cases hu with
       | cons h1 t1=>cases t1 with
         | cons h2 t2=>cases t2;cases h1;cases h2;exact ⟨a,p,rfl,rfl,ha⟩
   | succ i=>simpa using pairs_at t i v (by simpa using e)
theorem oH (hc:X.calm=true):dz X (.type "dict") (λxs H Q=>∃(p:Addr) (vs:List V) (D:List (Int×Int)) (R:Hp),xs=[.ref p]/\H p=some (.lst vs)/\aj R H/\cN R vs (iA D)/\(D.map (·.1)).Nodup/\D.length < sizeLine/\∀d,H d=none->Q (.ref d) (upd H d (.dK (df D)))):=by
 intro pins s σ H xs us Q I r h
 obtain ⟨p,vs,D,R,rfl,hq,sR,pp,nd,hz,q⟩:=h
 obtain ⟨u,rfl,rx⟩:=vals1 r
 cases rx
 obtain ⟨z,its,n,rv,ho⟩:=(show br X.prog X.w H s.heap p (.lst vs) from I.hok p _ hq)
 have hl:vs.length=D.length:=by rw [pp.pair.length,List.length_map]
 have hli:its.length=D.length:=by rw [← rv.length];exact hl
 have key:∀(m:Nat),m<=D.length->∃ps:List (Key×Value),KV (df (D.take m)) ps/\∀(i:Nat) (v:Value),i < m->its[i]?=some v->∃p,ps[i]?=some p/\DP.lE (bw X.prog X.w) s.heap v p:=by
  intro m
  induction m with
  | zero=>intro _;exact ⟨[],.nil,λi v h=>absurd h (Nat.not_lt_zero _)⟩
  | succ m ih=>
    intro hm
    obtain ⟨ps,kv,hps⟩:=ih (by omega)
    have hml:m < vs.length:=by omega
    obtain ⟨a,pr,ea,ed,hR⟩:=pairs_at pp m vs[m] (List.getElem?_eq_getElem hml)
    obtain ⟨uv,e1,r1⟩:=rv.get (List.getElem?_eq_getElem hml)
    rw [ea] at r1
    obtain rfl:uv=Value.ref a:=r1
    obtain ⟨_,ts,rt,o,h1,h2,c,h3⟩:=(show br X.prog X.w H s.heap a (.tup [.int pr.1,.int pr.2]) from I.hok a _ (sR _ _ hR))
    have hpl:ps.length=m:=by
     have:=kv.length
     unfold df at this
     rw [List.length_map,List.length_take] at this
     omega
    cases rt with
    | @cons _ k1 _ _ g1 t1=>cases t1 with
      | @cons _ k2 _ _ g2 t2=>
        cases t2
        refine ⟨ps++[(Sum.inl pr.1,k2)],?_,λi v hi e=>?_⟩
        ·rw [List.take_succ,ed]
         unfold df
         rw [List.map_append]
         exact cm kv (.cons ⟨rfl,g2⟩ .nil)
        ·by_cases hi2:i < m
         ·obtain ⟨p2,e2,e3⟩:=hps i v hi2 e
          exact ⟨p2,by rw [List.getElem?_append_left (by omega)];exact e2,e3⟩
         ·have:i=m:=by omega
          subst this
          rw [e1] at e
          cases e
          refine ⟨(Sum.inl pr.1,k2),by rw [List.getElem?_append_right (by omega),hpl];simp,a,k1,rfl,fF (k:=Sum.inl pr.1) g1,o,h1,h2,c,h3⟩
 obtain ⟨ps,kv,hps⟩:=key D.length (Nat.le_refl _)
 rw [List.take_length] at kv
 have hpl:ps.length=D.length:=by
  have:=kv.length
  unfold df at this
  rw [List.length_map] at this
  exact this.symm
 have hks:ps.map (·.1)=D.map λp=>(Sum.inl p.1:Key):=by
  have:∀{A:List (Key×V)} {B:List (Key×Value)},KV A B->B.map (·.1)=A.map (·.1):=by
   intro A B h
   unfold KV at h
   induction h with
   | nil=>rfl
   | cons h t ih=>rw [List.map_cons,List.map_cons,ih,h.1]
  rw [this kv]
  unfold df
  rw [List.map_map];rfl
 have hkn:(ps.map (·.1)).Nodup:=by
  rw [hks]
  have e:(D.map λp=>(Sum.inl p.1:Key))=(D.map (·.1)).map Sum.inl:=by rw [List.map_map];rfl
  rw [e]
  exact List.Pairwise.map _ (λa b h z=>h (Sum.inl.inj z)) nd
 refine DP.qc (knd:=bw X.prog X.w) (ps:=ps) (I.ok.hd hc) ho (by rw [hpl,List.size_toArray,hli]) (λi v hv=>?_) hkn (by rw [hpl];exact hz) λh' tk dd hk=>?_
 ·have hv:its[i]?=some v:=by simpa using hv
  have hi:i < D.length:=by rw [← hli];exact (List.getElem?_eq_some_iff.mp hv).1
  exact hps i v hi hv
 ·have hn:H s.heap.objs.size=none:=I.hok.fresh (Nat.le_refl _)
  exact ⟨.ref s.heap.objs.size,_,I.laid (a:=s.heap.objs.size) (o:=.dK (df D)) (t':=tk) hk (Nat.le_refl _) (mm (by unfold df;rw [List.length_map];exact Nat.le_of_lt hz) (beq_eq_false_iff_ne.mpr (Ne.symm (Nat.ne_of_lt I.big))) kv dd),rfl,q _ hn⟩
theorem uD {a:Expr}{p pos:Pos}{D:List (Int×Int)}(hm:X.mg "dict"=none)(ha:EV X a Γ ak (.lst (iA D)) Γ1)(nd:(D.map (·.1)).Nodup)(hz:D.length < sizeLine)(hc:X.calm=true:=by rfl)(hs:starEach [a] X.env=[(false,eval a X.env)]:=by rfl)(hg:Gl X "dict":=by rfl):oa X (.Call (.Name "dict" p) [a] [] pos) Γ (λy=>∃b,y= .d b D) Γ1:=λσ H0 R0 H R E Q q=>by
 refine eS (gz (oH hc) hg hm PyProof.Rows.boot_dict (aE aL bt hs) (by decide) (by decide) hs) (ha σ H0 R0 H R E _ λv H1 R1 E1 s1 e1=>?_)
 cases e1 with
 | @lst b vs _ hb pp _=>
   refine ⟨b,vs,D,R1,rfl,E1.sub _ _ hb,E1.sub,pp,nd,hz,λd hd=>?_⟩
   exact q (.d d D) _ R1 ⟨d,rfl⟩ (E1.grow (Ext.dX E1.sub hd _)) s1 aA λc hc=>by
    cases List.mem_singleton.mp hc
    exact ⟨E1.sub.free hd,E1.ext.h.free hd,E1.off hd⟩
end
section
variable {X:Cx}{Γ Γ1 Γ2 Γ3:Ga}{α β γ δ:Type}{N:Ga->Prop}{T:RT}
variable {x y:Str}
theorem gG:decide (V.str x=V.str y)=decide (x=y):=by
 by_cases h:x=y
 ·subst h;simp
 ·rw [decide_eq_false h,decide_eq_false λz=>h (by injection z)]
theorem aY:eB X .Eq bS bS x y (decide (x=y)):=⟨_,uw,λR H v u Q _ e1 e2 q=>by
 cases e1;cases e2
 exact ⟨rfl,by rw [gG];exact q⟩⟩
theorem oQ:eB X .NotEq bS bS x y (!decide (x=y)):=⟨_,ud,λR H v u Q _ e1 e2 q=>by
 cases e1;cases e2
 exact ⟨rfl,by rw [gG];exact q⟩⟩
theorem aH {pos:Pos}{n:Str}{t:Tok}(hm:X.mg x=some (.str n t))(hg:Gl X x:=by rfl)(hd:(x==("__debug__":Str))=false:=by decide):EV X (.Name x pos) Γ bS n Γ:=
 λ_ _ _ _ _ E _ q=>eS (eO (v:=.str n) hg hm ⟨t,rfl⟩ hd) (q (.str n) _ _ E (aj.refl _) rfl)
def lN:Rep (List Str):=⟨λK R v xs=>∃a,v= .ref a/\bH K R a (xs.map V.str),λs ⟨a,e,h⟩=>⟨a,e,by
 rcases h with h | h
 ·exact .inl (h.imp (λq=>s _ _ q) λ⟨o,q⟩=>⟨o,s _ _ q⟩)
 ·exact .inr h⟩⟩
theorem lI (x:Str):∀xs:List Str,uk (.str x) (xs.map V.str)=decide (x∈xs)
 | []=>rfl
 | y::r=>by
   have h:=lI x r
   unfold uk at h ⊢
   rw [List.map_cons,List.any_cons,h]
   have e:jV (V.str y) (V.str x)=decide (x=y):=by
    show (y==x)=_
    by_cases h:x=y
    ·subst h;simp
    ·rw [decide_eq_false h];exact beq_eq_false_iff_ne.mpr (Ne.symm h)
   rw [e]
   by_cases h1:x=y<;>simp [h1]
theorem kR:∀xs:List Str,(xs.map V.str).all fD=true
 | []=>rfl
 | _::r=>by rw [List.map_cons,List.all_cons,kR r];rfl
theorem tP {xs:List Str}:eB X .In bS lN x xs (decide (x∈xs)):=⟨_,rl,λR H v u Q s e1 e2 q=>by
 cases e1
 obtain ⟨a,rfl,h⟩:=e2
 exact ⟨a,_,rfl,.inr (h.imp (λh=>h.imp (λq=>s _ _ q) λ⟨o,q⟩=>⟨o,s _ _ q⟩) id),rfl,kR xs,by rw [if_neg Bool.false_ne_true,lI];exact q⟩⟩
def wF (K:PySem.W.Frag)(mg:Str->Option Value)(x:Str)(xs:List Str):Prop:=∃a o its n,mg x=some (.ref a)/\K.lookup a=some o/\o.cls= .type "tuple"/\o.data= .seq its n/\its.size<=sizeLine/\Vals (xs.map V.str) its.toList
theorem mr {pos:Pos}{xs:List Str}(hm:wF X.K X.mg x xs)(hg:Gl X x:=by rfl)(hd:(x==("__debug__":Str))=false:=by decide):EV X (.Name x pos) Γ lN xs Γ:=by
 obtain ⟨a,o,its,n,h1,h2⟩:=hm
 exact λ_ _ _ _ _ E _ q=>eS (eO (v:=.ref a) hg h1 rfl hd) (q (.ref a) _ _ E (aj.refl _) ⟨a,rfl,.inr ⟨o,its,n,h2⟩⟩)
end
end Fc
namespace K1
open PySem L2 Fc
structure bP where
 at_:Int
 frames:List (Int×Int×Int)
 boxes:List (Int×Int)
 told:List (Int×Int×Int)
 chain:Int
 rows:List Int
 used:Int
 idle:Int
abbrev t3 (x:Int×Int×Int):List Int:=[x.1,x.2.1,x.2.2]
abbrev ie (x:Int×Int×Int):PV:=tupI (t3 x)
abbrev l3 (xs:List (Int×Int×Int)):List PV:=xs.map ie
abbrev jd (xs:List Int):List PV:=xs.map PV.int
structure ib where
 f:Addr
 b:Addr
 t:Addr
 r:Addr
def aQ (a:ib)(m:bP):Fs:=[("at",.i m.at_),("frames",.l a.f (l3 m.frames)),("boxes",.d a.b m.boxes),("told",.l a.t (l3 m.told)),("chain",.i m.chain),("rows",.l a.r (jd m.rows)),("used",.i m.used),("idle",.i m.idle)]
def eK (m:bP):List PV:=[.int m.at_,.lst (l3 m.frames),.lst (iA m.boxes),.lst (l3 m.told),.int m.chain,.lst (jd m.rows),.int m.used,.int m.idle]
abbrev fns:List Str:=["at","frames","boxes","told","chain","rows","used","idle"]
section
variable {a:ib}{m:bP}
theorem gD:bh (aQ a m) "at"=some (.i m.at_):=rfl
theorem iV:bh (aQ a m) "frames"=some (.l a.f (l3 m.frames)):=rfl
theorem px:bh (aQ a m) "boxes"=some (.d a.b m.boxes):=rfl
theorem xJ:bh (aQ a m) "told"=some (.l a.t (l3 m.told)):=rfl
theorem lH:bh (aQ a m) "chain"=some (.i m.chain):=rfl
theorem kf:bh (aQ a m) "rows"=some (.l a.r (jd m.rows)):=rfl
theorem oV:bh (aQ a m) "used"=some (.i m.used):=rfl
theorem oj:bh (aQ a m) "idle"=some (.i m.idle):=rfl
theorem Bb {n:Int}:bE "at" (.i n) (aQ a m)=aQ a {m with at_:=n}:=rfl
theorem rZ {xs:List (Int×Int×Int)}:bE "frames" (.l a.f (l3 xs)) (aQ a m)=aQ a {m with frames:=xs}:=rfl
theorem Bd {xs:List (Int×Int×Int)}:bE "told" (.l a.t (l3 xs)) (aQ a m)=aQ a {m with told:=xs}:=rfl
theorem nR {xs:List Int}:bE "rows" (.l a.r (jd xs)) (aQ a m)=aQ a {m with rows:=xs}:=rfl
theorem Bg {D:List (Int×Int)}:bE "boxes" (.d a.b D) (aQ a m)=aQ a {m with boxes:=D}:=rfl
end
end K1
namespace K1
open PySem
abbrev top (i:Nat):Stmt:=PySem.Challenge.pw_fewcounters_k76_codes_looked_at.main.body.getD i (.Pass ⟨0,0,0,0⟩)
abbrev qD:Nat:=13
abbrev mU:Nat:=20
abbrev mq:Nat:=21
abbrev jY:Nat:=27
abbrev pC:Nat:=42
abbrev nW:Nat:=43
abbrev mH:Nat:=44
abbrev ik:Nat:=45
abbrev j3:Nat:=46
abbrev sJ:Nat:=47
abbrev vN:Nat:=48
abbrev mK:Nat:=49
abbrev mP:Nat:=50
abbrev mL:Nat:=51
abbrev oF:Nat:=52
abbrev wU:Nat:=53
abbrev uC:Nat:=54
abbrev pz:Nat:=55
abbrev nY:Nat:=56
abbrev lg:Nat:=58
abbrev lj:Nat:=59
abbrev lY:Nat:=60
abbrev l0:Nat:=61
abbrev mi:Nat:=62
abbrev kb:Nat:=63
abbrev jA:Nat:=64
abbrev wz:Nat:=65
end K1
namespace K1
open PySem L2 Fc
open PySem.Spec hiding Row
open PyProof.Rows hiding St
structure bU (K:PySem.W.Frag) (mg:Str->Option Value):Prop where
 yes:∃t,mg "YES"=some (.int 1 t)
 nowhere:∃t,mg "NOWHERE"=some (.int (-1) t)
 most:∃t,mg "MOST_IDLE"=some (.int 1000 t)
 ended:∃t,mg "ENDED"=some (.str "ended" t)
 bound:∃t,mg "BOUND"=some (.str "bound" t)
 wanting:∃t,mg "WANTING"=some (.str "wanting" t)
 astray:∃t,mg "ASTRAY"=some (.str "astray" t)
 row:∃t,mg "ROW"=some (.str "row" t)
 ask:∃t,mg "ASK"=some (.str "ask" t)
 jump:∃t,mg "JUMP"=some (.str "jump" t)
 call:∃t,mg "CALL"=some (.str "call" t)
 back:∃t,mg "BACK"=some (.str "back" t)
 count:∃t,mg "COUNT"=some (.str "count" t)
 add:∃t,mg "ADD"=some (.str "add" t)
 tell:∃t,mg "TELL"=some (.str "tell" t)
 going:wF K mg "GOING" ["row","ask","call"]
 len:mg "len"=none
 all:mg "all"=none
 range:mg "range"=none
 enumerate:mg "enumerate"=none
 isinstance:mg "isinstance"=none
 int:mg "int"=none
 bool:mg "bool"=none
 str:mg "str"=none
 list:mg "list"=none
 dict:mg "dict"=none
 tuple:mg "tuple"=none
 min:mg "min"=none
 sorted:mg "sorted"=none
 sum:mg "sum"=none
 zip:mg "zip"=none
inductive Ln
 | row (p:Int)
 | ask (p q j:Int)
 | jump (j:Int)
 | call (p j n:Int)
 | back
 | count (b:Int)
 | add (n:Int)
 | tell (p n:Int)
def Ln.k:Ln->Str
 | .row _=>"row"
 | .ask _ _ _=>"ask"
 | .jump _=>"jump"
 | .call _ _ _=>"call"
 | .back=>"back"
 | .count _=>"count"
 | .add _=>"add"
 | .tell _ _=>"tell"
def Ln.ns:Ln->List Int
 | .row p=>[p]
 | .ask p q j=>[p,q,j]
 | .jump j=>[j]
 | .call p j n=>[p,j,n]
 | .back=>[]
 | .count b=>[b]
 | .add n=>[n]
 | .tell p n=>[p,n]
abbrev cZ (l:Ln):PV:=.tup (.str l.k::l.ns.map PV.int)
section
variable {P:Program}{w:World}{K:PySem.W.Frag}{mg:Str->Option Value}{base:Heap}{f:Addr}{fd:FuncData}{C:Addr}
theorem aK {x:Str}(h:decide (x∈fns)=true):x∈fns:=of_decide_eq_true h
abbrev ua:Stmt:=top wU
abbrev yJ:List Str:=["machine","told","answer"]
theorem wg:aR yJ yJ (aq ua):=⟨rfl,rfl,rfl,by decide +kernel,rfl,by decide +kernel,by decide +kernel⟩
def oz (m:bP)(p q j ans:Int):bP:=if ans=1 then {m with used:=m.used + 1,rows:=m.rows++[p]} else {m with used:=m.used + 1,rows:=m.rows++[q],at_:=j}
def A0:iU Fs:=λK s ps T=>∃(a:ib) (m:bP) (p q j ans:Int),s=aQ a m/\ps=[⟨ak,cZ (.ask p q j)⟩,⟨ae,ans⟩]/\m.rows.length < sizeLine/\T=λs'=>cB K dm λw=>s'=aQ a (oz m p q j ans)/\w=()
theorem j0 {xs:List Int}{p:Int}:jd xs++[PV.int p]=jd (xs++[p]):=(List.map_append (f:=PV.int) (l₁:=xs) (l₂:=[p])).symm
theorem gU {xs:List (Int×Int×Int)}{p:Int×Int×Int}:l3 xs++[ie p]=l3 (xs++[p]):=(List.map_append (f:=ie) (l₁:=xs) (l₂:=[p])).symm
theorem fB {a:ib}{m:bP}:(aQ a m).length < 1000:=by show 8 < 1000;decide
theorem dB:3<=sizeLine:=by decide
theorem zV (M:bU K mg)(HC:cf K C fns)(F:bL K "ask" "ask" ua f fd)(hm:mg "ask"=some (.ref f))(hb:Binds K fd yJ []):aU P w K mg base "ask" 1 (dR (aB C) A0 K):=by
 have nd:=wg.nd
 obtain ⟨t1,hY⟩:=M.yes
 refine fU F wg hm hb (λs qs T ⟨a,m,p,q,j,ans,_,e,_⟩=>by rw [e];rfl) (λcdv A outer s H E x l u qs T hr hS=>?_)
 obtain ⟨a,m,p,q,j,ans,rfl,rfl,hz,rfl⟩:=hS
 change WS _ _ [.ob ((aB C).bx (x::l) (aQ a m)),.im ak (cZ (.ask p q j)),.im ae ans] _ _
 refine ao (mG 0 HC (aK (by decide)) rfl ag oV fB ?_)
 change WS _ _ [.ob ((aB C).bx (x::l) (aQ a {m with used:=m.used + 1})),.im ak (cZ (.ask p q j)),.im ae ans] _ _
 refine ah (aD (av cu (aa 2 rfl) (j6 hY)) (λh=>?_) (λh=>?_))
 ·refine ah (gW 0 HC (aK (by decide)) (aP (aa 1 rfl) ag rfl) rfl kf (by simpa using hz) ?_)
  rw [j0,nR]
  refine ⟨_,rfl,λ_ _ _=>⟨(),rfl,?_,rfl⟩⟩
  rw [oz,if_pos (of_decide_eq_true h)]
 ·refine ao (gW 0 HC (aK (by decide)) (aP (aa 1 rfl) ag rfl) rfl kf (by simpa using hz) ?_)
  rw [j0,nR]
  change WS _ _ [.ob ((aB C).bx (x::l) (aQ a {m with used:=m.used + 1,rows:=m.rows++[q]})),.im ak (cZ (.ask p q j)),.im ae ans] _ _
  refine ah (kB 0 HC (aK (by decide)) (EV.iP (n:=j) (aP (aa 1 rfl) ag rfl)) rfl gD fB ?_)
  rw [Bb]
  refine ⟨_,rfl,λ_ _ _=>⟨(),rfl,?_,rfl⟩⟩
  rw [oz,if_neg (of_decide_eq_false h)]
abbrev tQ:Stmt:=top uC
abbrev wW:List Str:=["machine","told"]
theorem x4:aR wW wW (aq tQ):=⟨rfl,rfl,rfl,by decide +kernel,rfl,by decide +kernel,by decide +kernel⟩
def uq (m:bP)(p j n:Int):bP:={m with rows:=m.rows++[p],frames:=m.frames++[(m.at_,0,m.chain)],chain:=m.chain + n,at_:=j}
def SCL:iU Fs:=λK s ps T=>∃(a:ib) (m:bP) (p j n:Int),s=aQ a m/\ps=[⟨ak,cZ (.call p j n)⟩]/\m.rows.length < sizeLine/\m.frames.length < sizeLine/\T=λs'=>cB K dm λw=>s'=aQ a (uq m p j n)/\w=()
theorem zr (M:bU K mg)(HC:cf K C fns)(F:bL K "call" "call" tQ f fd)(hm:mg "call"=some (.ref f))(hb:Binds K fd wW []):aU P w K mg base "call" 1 (dR (aB C) SCL K):=by
 have nd:=x4.nd
 refine fU F x4 hm hb (λs qs T ⟨a,m,p,j,n,_,e,_⟩=>by rw [e];rfl) (λcdv A outer s H E x l u qs T hr hS=>?_)
 obtain ⟨a,m,p,j,n,rfl,rfl,hz,hz2,rfl⟩:=hS
 change WS _ _ [.ob ((aB C).bx (x::l) (aQ a m)),.im ak (cZ (.call p j n))] _ _
 refine ao (gW 0 HC (aK (by decide)) (aP (aa 1 rfl) ag rfl) rfl kf (by simpa using hz) ?_)
 rw [j0,nR]
 change WS _ _ [.ob ((aB C).bx (x::l) (aQ a {m with rows:=m.rows++[p]})),.im ak (cZ (.call p j n))] _ _
 refine ao (gW 0 HC (aK (by decide)) (y:=ie (m.at_,0,m.chain)) (bD (ay (EV.pI (dy 0 HC (aK (by decide)) rfl gD)) (ay (EV.pI ag) (ay (EV.pI (dy 0 HC (aK (by decide)) rfl lH)) aM))) dB) rfl iV (by simpa using hz2) ?_)
 rw [gU,rZ]
 change WS _ _ [.ob ((aB C).bx (x::l) (aQ a {m with rows:=m.rows++[p],frames:=m.frames++[(m.at_,0,m.chain)]})),.im ak (cZ (.call p j n))] _ _
 refine ao (mG 0 HC (aK (by decide)) rfl (EV.iP (n:=n) (aP (aa 1 rfl) ag rfl)) lH fB ?_)
 change WS _ _ [.ob ((aB C).bx (x::l) (aQ a {m with rows:=m.rows++[p],frames:=m.frames++[(m.at_,0,m.chain)],chain:=m.chain + n})),.im ak (cZ (.call p j n))] _ _
 refine ah (kB 0 HC (aK (by decide)) (EV.iP (n:=j) (aP (aa 1 rfl) ag rfl)) rfl gD fB ?_)
 exact ⟨_,rfl,λ_ _ _=>⟨(),rfl,rfl,rfl⟩⟩
abbrev uo:Stmt:=top pz
abbrev nSS:List Str:=["machine","number","frame"]
theorem xW:aR nSS ["machine","number"] (aq uo):=⟨rfl,rfl,rfl,by decide +kernel,rfl,by decide +kernel,by decide +kernel⟩
def AU:iU Fs:=λK s ps T=>∃(a:ib) (m:bP) (n:Int) (fr:List (Int×Int×Int)) (g:Int×Int×Int),s=aQ a m/\ps=[⟨ae,n⟩]/\m.frames=fr++[g]/\T=λs'=>cB K dm λw=>s'=aQ a {m with frames:=fr++[(g.1,n,g.2.2)]}/\w=()
theorem uV {α:Type}{xs:List α}{y:α}:da (xs++[y]) (-1)=some y:=r9 (by simp)
theorem kn {fr:List (Int×Int×Int)}{g:Int×Int×Int}:da (l3 (fr++[g])) (-1)=some (ie g):=by rw [← gU];exact uV
theorem zA (M:bU K mg)(HC:cf K C fns)(F:bL K "set_sum" "set_sum" uo f fd)(hm:mg "set_sum"=some (.ref f))(hb:Binds K fd ["machine","number"] []):aU P w K mg base "set_sum" 1 (dR (aB C) AU K):=by
 have nd:=xW.nd
 refine fU F xW hm hb (λs qs T ⟨a,m,n,fr,g,_,e,_⟩=>by rw [e];rfl) (λcdv A outer s H E x l u qs T hr hS=>?_)
 obtain ⟨a,m,n,fr,g,rfl,rfl,hf,rfl⟩:=hS
 change WS _ _ [.ob ((aB C).bx (x::l) (aQ a m)),.im ae n,.no] _ _
 refine ao (bQ 2 (mE 0 HC (aK (by decide)) (gL ag) rfl iV (by rw [hf];exact kn)) ?_)
 change WS _ _ [.ob ((aB C).bx (x::l) (aQ a m)),.im ae n,.im ak (ie g)] _ _
 refine ah (r8 0 HC (aK (by decide)) (y:=ie (g.1,n,g.2.2)) (j:=fr.length) (bD (ay (aP (aa 2 rfl) ag rfl) (ay (EV.pI (aa 1 rfl)) (ay (aP (aa 2 rfl) ag rfl) aM))) dB) (gL ag) rfl iV ?_ ?_)
 ·rw [hf,List.length_map]
  unfold gb
  rw [if_neg (by decide),if_pos (by simp;omega)]
  congr 1
  simp
  omega
 ·have e:(l3 m.frames).set fr.length (ie (g.1,n,g.2.2))=l3 (fr++[(g.1,n,g.2.2)]):=by
   rw [hf,← gU,← gU]
   rw [List.set_append_right _ _ (by simp)]
   simp
  rw [e,rZ]
  exact ⟨_,rfl,λ_ _ _=>⟨(),rfl,rfl,rfl⟩⟩
abbrev ub:Stmt:=top nY
abbrev nGB:List Str:=["machine","frame"]
theorem wA:aR nGB ["machine"] (aq ub):=⟨rfl,rfl,rfl,by decide +kernel,rfl,by decide +kernel,by decide +kernel⟩
def AA:iU Fs:=λK s ps T=>∃(a:ib) (m:bP) (fr:List (Int×Int×Int)) (g:Int×Int×Int),s=aQ a m/\ps=[]/\m.frames=fr++[g]/\T=λs'=>cB K dm λw=>s'=aQ a {m with frames:=fr,at_:=g.1,chain:=g.2.2}/\w=()
theorem zw (M:bU K mg)(HC:cf K C fns)(F:bL K "go_back" "go_back" ub f fd)(hm:mg "go_back"=some (.ref f))(hb:Binds K fd ["machine"] []):aU P w K mg base "go_back" 1 (dR (aB C) AA K):=by
 have nd:=wA.nd
 refine fU F wA hm hb (λs qs T ⟨a,m,fr,g,_,e,_⟩=>by rw [e];rfl) (λcdv A outer s H E x l u qs T hr hS=>?_)
 obtain ⟨a,m,fr,g,rfl,rfl,hf,rfl⟩:=hS
 change WS _ _ [.ob ((aB C).bx (x::l) (aQ a m)),.no] _ _
 refine ao (bQ 1 (uS 0 (xs:=l3 fr) (y:=ie g) HC (aK (by decide)) rfl (by rw [gU,← hf];exact iV)) ?_)
 rw [rZ]
 change WS _ _ [.ob ((aB C).bx (x::l) (aQ a {m with frames:=fr})),.im ak (ie g)] _ _
 refine ao (kB 0 HC (aK (by decide)) (EV.iP (n:=g.1) (aP (aa 1 rfl) ag rfl)) rfl gD fB ?_)
 change WS _ _ [.ob ((aB C).bx (x::l) (aQ a {m with frames:=fr,at_:=g.1})),.im ak (ie g)] _ _
 refine ah (kB 0 HC (aK (by decide)) (EV.iP (n:=g.2.2) (aP (aa 1 rfl) ag rfl)) rfl lH fB ?_)
 exact ⟨_,rfl,λ_ _ _=>⟨(),rfl,rfl,rfl⟩⟩
end
section
variable {P:Program}{w:World}{K:PySem.W.Frag}{mg:Str->Option Value}{base:Heap}{f:Addr}{fd:FuncData}{C:Addr}
def iF (l:Ln):Bool:=decide (l.k∈(["row","ask","call"]:List Str))
def gq (l:Ln)(ans:List Int)(bound:Int)(m:bP):Option Str:=
 if iF l=true/\(m.rows.length:Int)≥bound then some "bound" else
 if l.k="ask"/\m.used≥(ans.length:Int) then some "wanting" else
 if l.k="back"/\m.frames.length=1 then some "ended" else none
def bj (code:List Ln)(ans:List Int)(bound:Int)(m:bP):Option Str:=
 if m.at_=code.length∨m.idle≥1000 then some "astray" else gq (code.getD m.at_.toNat .back) ans bound m
def oP:Option Str->PV
 | none=>.non
 | some x=>.str x
theorem EV.pN {X:Cx}{Γ Γ1:Ga}{e:Expr}(h:EV X e Γ dm () Γ1):EV X e Γ ak .non Γ1:=h.re λK R v e=>by cases e;exact .non
abbrev aN (code:List Ln):List PV:=code.map cZ
abbrev uf:Stmt:=top mL
abbrev nST:List Str:=["machine","code","answers","bound","kind"]
theorem xF:aR nST ["machine","code","answers","bound"] (aq uf):=⟨rfl,rfl,rfl,by decide +kernel,rfl,by decide +kernel,by decide +kernel⟩
def nK:iU Fs:=λK s ps T=>∃(a:ib) (m:bP) (code:List Ln) (ans:List Int) (bound:Int),s=aQ a m/\ps=[⟨ai ak,aN code⟩,⟨ai ae,ans⟩,⟨ae,bound⟩]/\0<=m.at_/\m.at_<=code.length/\T=λs'=>cB K ak λy=>s'=aQ a m/\y=oP (bj code ans bound m)
theorem eJ {α:Type}{y:α}{ys:List α}:da (y::ys) 0=some y:=by rw [jF (by decide) (by simp)];rfl
theorem jv {X:Cx}{Γ Γ1:Ga}{α:Type}{N:Ga->Prop}{T:RT}{e:Expr}{pos:Pos}{r:Rep α}{y:α}(he:EV X e Γ r y Γ1)(h:N Γ1)(hsw:swapsWith e none pos.line X.env=pure false:=by rfl):W1 X (.Expr e pos) Γ N T:=λσ H0 R0 H R E D dn dr=>
 sS (fP aL hsw) (he σ H0 R0 H R E _ λv H1 R1 E1 s1 e1=>dn σ H1 R1 _ E1 s1 h)
theorem code_at {code:List Ln}{i:Int}(h0:0<=i)(h1:i < code.length):da (aN code) i=some (cZ (code.getD i.toNat .back)):=by
 rw [jF h0 (by rw [List.length_map];exact h1),List.getElem?_map,List.getD_eq_getElem?_getD,List.getElem?_eq_getElem (by omega)];rfl
theorem zU (M:bU K mg)(HC:cf K C fns)(F:bL K "still_at" "still_at" uf f fd)(hm:mg "still_at"=some (.ref f))(hb:Binds K fd ["machine","code","answers","bound"] []):aU P w K mg base "still_at" 1 (dR (aB C) nK K):=by
 have nd:=xF.nd
 obtain ⟨t1,h1⟩:=M.most
 obtain ⟨t2,h2⟩:=M.astray
 obtain ⟨t3,h3⟩:=M.bound
 obtain ⟨t4,h4⟩:=M.ask
 obtain ⟨t5,h5⟩:=M.wanting
 obtain ⟨t6,h6⟩:=M.back
 obtain ⟨t7,h7⟩:=M.ended
 refine fU F xF hm hb (λs qs T ⟨a,m,code,ans,bound,_,e,_⟩=>by rw [e];rfl) (λcdv A outer s H E x l u qs T hr hS=>?_)
 obtain ⟨a,m,code,ans,bound,rfl,rfl,p0,p1,rfl⟩:=hS
 change WS _ _ [.ob ((aB C).bx (x::l) (aQ a m)),.im (ai ak) (aN code),.im (ai ae) ans,.im ae bound,.no] _ _
 refine ao (aD (TW.tv (bG (av cu (dy 0 HC (aK (by decide)) rfl gD) (gi M.len (aa 1 rfl))) (λ_=>cc (av jm (dy 0 HC (aK (by decide)) rfl oj) (j6 h1))))) (λh=>?_) (λh=>aJ ?_))
 ·refine ah (ir 0 (EV.pS (aH h2)) rfl ⟨rfl,?_⟩)
  rw [List.length_map] at h
  simp only [Bool.or_eq_true,decide_eq_true_eq] at h
  rw [bj,if_pos h];rfl
 rw [List.length_map] at h
 simp only [Bool.or_eq_false_iff,decide_eq_false_iff_not] at h
 have hn:¬(m.at_=code.length∨m.idle≥1000):=λz=>z.elim h.1 h.2
 have hlt:m.at_ < code.length:=by omega
 rw [bj,if_neg hn]
 have hat:=code_at p0 hlt
 generalize (code.getD m.at_.toNat .back)=ln at hat ⊢
 refine ao (bQ 4 (EV.sP (x:=ln.k) (aP (cF (aa 1 rfl) (dy 0 HC (aK (by decide)) rfl gD) hat) ag eJ)) ?_)
 change WS _ _ [.ob ((aB C).bx (x::l) (aQ a m)),.im (ai ak) (aN code),.im (ai ae) ans,.im ae bound,.im bS ln.k] _ _
 refine ao (aD (TW.tv (cH (av tP (aa 4 rfl) (mr M.going)) (λ_=>ez (av jm (nu 0 HC (aK (by decide)) M.len rfl kf) (aa 3 rfl))))) (λh=>?_) (λh=>aJ ?_))
 ·refine ah (ir 0 (EV.pS (aH h3)) rfl ⟨rfl,?_⟩)
  rw [List.length_map] at h
  simp only [Bool.and_eq_true,decide_eq_true_eq] at h
  rw [gq,if_pos ⟨decide_eq_true h.1,h.2⟩];rfl
 rw [List.length_map] at h
 have hn1:¬(iF ln=true/\(m.rows.length:Int)≥bound):=λz=>by
  simp only [Bool.and_eq_false_iff,decide_eq_false_iff_not] at h
  exact h.elim (λq=>q (of_decide_eq_true z.1)) λq=>q z.2
 rw [gq,if_neg hn1]
 refine ao (aD (TW.tv (cH (av aY (aa 4 rfl) (aH h4)) (λ_=>ez (av jm (dy 0 HC (aK (by decide)) rfl oV) (gi M.len (aa 2 rfl)))))) (λh=>?_) (λh=>aJ ?_))
 ·refine ah (ir 0 (EV.pS (aH h5)) rfl ⟨rfl,?_⟩)
  simp only [Bool.and_eq_true,decide_eq_true_eq] at h
  rw [if_pos h];rfl
 have hn2:¬(ln.k="ask"/\m.used≥(ans.length:Int)):=λz=>by
  simp only [Bool.and_eq_false_iff,decide_eq_false_iff_not] at h
  exact h.elim (λq=>q z.1) λq=>q z.2
 rw [if_neg hn2]
 refine ao (aD (TW.tv (cH (av aY (aa 4 rfl) (aH h6)) (λ_=>ez (av cu (nu 0 HC (aK (by decide)) M.len rfl iV) ag)))) (λh=>?_) (λh=>aJ ?_))
 ·refine ah (ir 0 (EV.pS (aH h7)) rfl ⟨rfl,?_⟩)
  rw [List.length_map] at h
  simp only [Bool.and_eq_true,decide_eq_true_eq] at h
  rw [if_pos ⟨h.1,by omega⟩];rfl
 rw [List.length_map] at h
 have hn3:¬(ln.k="back"/\m.frames.length=1):=λz=>by
  simp only [Bool.and_eq_false_iff,decide_eq_false_iff_not] at h
  exact h.elim (λq=>q z.1) λq=>q (by omega)
 rw [if_neg hn3]
 exact ah (ir 0 (EV.pN dN) rfl ⟨rfl,rfl⟩)
def qP (m0:bP)(l:Ln)(a:Int):bP:=
 let m:bP:={m0 with idle:=if iF l then 0 else m0.idle + 1,at_:=m0.at_ + 1}
 let g:=m0.frames.getLastD (0,0,0)
 match l with
 | .row p=>{m with rows:=m.rows++[p]}
 | .ask p q j=>oz m p q j a
 | .jump j=>{m with at_:=j}
 | .call p j n=>uq m p j n
 | .back=>{m with frames:=m.frames.dropLast,at_:=g.1,chain:=g.2.2}
 | .count b=>{m with boxes:=dP b ((dG m.boxes b).getD 0 + 1) m.boxes}
 | .add n=>{m with frames:=m.frames.dropLast++[(g.1,g.2.1 + n,g.2.2)]}
 | .tell p n=>{m with told:=m.told++[(p,m.chain,g.2.1)],frames:=m.frames.dropLast++[(g.1,n,g.2.2)]}
abbrev pF:Stmt:=top oF
abbrev AR:List Str:=["machine","code","answers","told","kind"]
theorem yt:aR AR ["machine","code","answers"] (aq pF):=⟨rfl,rfl,rfl,by decide +kernel,rfl,by decide +kernel,by decide +kernel⟩
structure y3 (m:bP):Prop where
 r:m.rows.length < 100000
 f:m.frames.length < 100000
 t:m.told.length < 100000
 b:m.boxes.length < 100000
 ne:m.frames≠[]
def qR:iU Fs:=λK s ps T=>∃(a:ib) (m:bP) (code:List Ln) (ans:List Int),s=aQ a m/\ps=[⟨ai ak,aN code⟩,⟨ai ae,ans⟩]/\0<=m.at_/\m.at_ < code.length/\y3 m/\((code.getD m.at_.toNat .back).k="ask"->0<=m.used/\m.used < ans.length)/\T=λs'=>cB K dm λw=>s'=aQ a (qP m (code.getD m.at_.toNat .back) (ans.getD m.used.toNat 0))/\w=()
theorem zZ (M:bU K mg)(HC:cf K C fns)(CA:aU P w K mg base "ask" 1 (dR (aB C) A0 K))(CC:aU P w K mg base "call" 1 (dR (aB C) SCL K))(CS:aU P w K mg base "set_sum" 1 (dR (aB C) AU K))(CG:aU P w K mg base "go_back" 1 (dR (aB C) AA K))
 (F:bL K "do_next" "do_next" pF f fd) (hm:mg "do_next"=some (.ref f)) (hb:Binds K fd ["machine","code","answers"] []):aU P w K mg base "do_next" 2 (dR (aB C) qR K):=by
 have nd:=yt.nd
 obtain ⟨t1,h1⟩:=M.row
 obtain ⟨t2,h2⟩:=M.ask
 obtain ⟨t3,h3⟩:=M.jump
 obtain ⟨t4,h4⟩:=M.call
 obtain ⟨t5,h5⟩:=M.count
 obtain ⟨t6,h6⟩:=M.add
 obtain ⟨t7,h7⟩:=M.tell
 refine fU F yt hm hb (λs qs T ⟨a,m,code,ans,_,e,_⟩=>by rw [e];rfl) (λcdv A outer s H E x l u qs T hr hS=>?_)
 obtain ⟨a,m,code,ans,rfl,rfl,p0,p1,ok,hu,rfl⟩:=hS
 have hu0:(bA cL P w K mg base AR "do_next" (aq pF) f cdv A outer s H E).cD.A.units + 1 < cLine:=Nat.lt_of_le_of_lt (Nat.add_le_add_left (by decide:1<=64) _) hr.units
 change WS _ _ [.ob ((aB C).bx (x::l) (aQ a m)),.im (ai ak) (aN code),.im (ai ae) ans,.no,.no] _ _
 have hat:=code_at p0 p1
 generalize (code.getD m.at_.toNat .back)=ln at hat hu ⊢
 obtain ⟨fr,g,hg⟩:∃fr g,m.frames=fr++[g]:=⟨m.frames.dropLast,m.frames.getLast ok.ne,(List.dropLast_concat_getLast ok.ne).symm⟩
 have hgl:m.frames.getLastD (0,0,0)=g:=by rw [hg];simp
 have hgd:m.frames.dropLast=fr:=by rw [hg];simp
 have big:(100000:Nat)<=sizeLine:=by decide
 have okr:=ok.r
 have okf:=ok.f
 have okt:=ok.t
 have okb:=ok.b
 refine ao (bQ 3 (cF (aa 1 rfl) (dy 0 HC (aK (by decide)) rfl gD) hat) ?_)
 change WS _ _ [.ob ((aB C).bx (x::l) (aQ a m)),.im (ai ak) (aN code),.im (ai ae) ans,.im ak (cZ ln),.no] _ _
 refine ao (bQ 4 (EV.sP (x:=ln.k) (aP (aa 3 rfl) ag eJ)) ?_)
 change WS _ _ [.ob ((aB C).bx (x::l) (aQ a m)),.im (ai ak) (aN code),.im (ai ae) ans,.im ak (cZ ln),.im bS ln.k] _ _
 refine ao (kB 0 HC (aK (by decide)) (Ab (av tP (aa 4 rfl) (mr M.going)) (λ_=>ag) (λ_=>cP (dy 0 HC (aK (by decide)) rfl oj) ag)) rfl oj fB ?_)
 change WS _ _ [.ob ((aB C).bx (x::l) (aQ a {m with idle:=if iF ln then 0 else m.idle + 1})),.im (ai ak) (aN code),.im (ai ae) ans,.im ak (cZ ln),.im bS ln.k] _ _
 refine ao (mG 0 HC (aK (by decide)) rfl ag gD fB ?_)
 change WS _ _ [.ob ((aB C).bx (x::l) (aQ a {m with idle:=if iF ln then 0 else m.idle + 1,at_:=m.at_ + 1})),.im (ai ak) (aN code),.im (ai ae) ans,.im ak (cZ ln),.im bS ln.k] _ _
 cases ln with
 | row p=>
   refine ah (aD (av aY (aa 4 rfl) (aH h1)) (λ_=>?_) (λh=>absurd (show ("row":Str)="row" from rfl) (of_decide_eq_false h)))
   refine ah (gW 0 HC (aK (by decide)) (aP (aa 3 rfl) ag rfl) rfl kf (by simpa using Nat.lt_of_lt_of_le okr big) ?_)
   rw [j0,nR]
   exact ⟨_,rfl,λ_ _ _=>⟨(),rfl,rfl,rfl⟩⟩
 | ask p q j=>
   have hu1:=hu rfl
   refine ah (aD (av aY (aa 4 rfl) (aH h1)) (λh=>absurd (show ("ask":Str)="row" from of_decide_eq_true h) (by decide)) (λ_=>?_))
   refine ah (aD (av aY (aa 4 rfl) (aH h2)) (λ_=>?_) (λh=>absurd (show ("ask":Str)="ask" from rfl) (of_decide_eq_false h)))
   refine ah (jv (cX 0 CA hr (au (aa 3 rfl) (au (cF (aa 2 rfl) (dy 0 HC (aK (by decide)) rfl oV) (dg 0 hu1.1 hu1.2)) aG)) rfl rfl ⟨a,_,p,q,j,_,rfl,rfl,Nat.lt_of_lt_of_le okr big,rfl⟩) ?_)
   exact ⟨_,rfl,λ_ _ _=>⟨(),rfl,rfl,rfl⟩⟩
 | jump j=>
   refine ah (aD (av aY (aa 4 rfl) (aH h1)) (λh=>absurd (show ("jump":Str)="row" from of_decide_eq_true h) (by decide)) (λ_=>?_))
   refine ah (aD (av aY (aa 4 rfl) (aH h2)) (λh=>absurd (show ("jump":Str)="ask" from of_decide_eq_true h) (by decide)) (λ_=>?_))
   refine ah (aD (av aY (aa 4 rfl) (aH h3)) (λ_=>?_) (λh=>absurd (show ("jump":Str)="jump" from rfl) (of_decide_eq_false h)))
   refine ah (kB 0 HC (aK (by decide)) (EV.iP (n:=j) (aP (aa 3 rfl) ag rfl)) rfl gD fB ?_)
   exact ⟨_,rfl,λ_ _ _=>⟨(),rfl,rfl,rfl⟩⟩
 | call p j n=>
   refine ah (aD (av aY (aa 4 rfl) (aH h1)) (λh=>absurd (show ("call":Str)="row" from of_decide_eq_true h) (by decide)) (λ_=>?_))
   refine ah (aD (av aY (aa 4 rfl) (aH h2)) (λh=>absurd (show ("call":Str)="ask" from of_decide_eq_true h) (by decide)) (λ_=>?_))
   refine ah (aD (av aY (aa 4 rfl) (aH h3)) (λh=>absurd (show ("call":Str)="jump" from of_decide_eq_true h) (by decide)) (λ_=>?_))
   refine ah (aD (av aY (aa 4 rfl) (aH h4)) (λ_=>?_) (λh=>absurd (show ("call":Str)="call" from rfl) (of_decide_eq_false h)))
   refine ah (jv (cX 0 CC hr (au (aa 3 rfl) aG) rfl rfl ⟨a,_,p,j,n,rfl,rfl,Nat.lt_of_lt_of_le okr big,Nat.lt_of_lt_of_le okf big,rfl⟩) ?_)
   exact ⟨_,rfl,λ_ _ _=>⟨(),rfl,rfl,rfl⟩⟩
 | count b=>
   refine ah (aD (av aY (aa 4 rfl) (aH h1)) (λh=>absurd (show ("count":Str)="row" from of_decide_eq_true h) (by decide)) (λ_=>?_))
   refine ah (aD (av aY (aa 4 rfl) (aH h2)) (λh=>absurd (show ("count":Str)="ask" from of_decide_eq_true h) (by decide)) (λ_=>?_))
   refine ah (aD (av aY (aa 4 rfl) (aH h3)) (λh=>absurd (show ("count":Str)="jump" from of_decide_eq_true h) (by decide)) (λ_=>?_))
   refine ah (aD (av aY (aa 4 rfl) (aH h4)) (λh=>absurd (show ("count":Str)="call" from of_decide_eq_true h) (by decide)) (λ_=>?_))
   refine ah (aD (av aY (aa 4 rfl) (aH h5)) (λ_=>?_) (λh=>absurd (show ("count":Str)="count" from rfl) (of_decide_eq_false h)))
   refine ah (vj 0 hu0 HC (aK (by decide)) (EV.iP (n:=b) (aP (aa 3 rfl) ag rfl)) (cP (rN 0 hu0 HC (aK (by decide)) (EV.iP (n:=b) (aP (aa 3 rfl) ag rfl)) ag rfl px) ag) rfl px (Nat.lt_of_lt_of_le okb big) ?_)
   rw [Bg]
   exact ⟨_,rfl,λ_ _ _=>⟨(),rfl,rfl,rfl⟩⟩
 | add n=>
   refine ah (aD (av aY (aa 4 rfl) (aH h1)) (λh=>absurd (show ("add":Str)="row" from of_decide_eq_true h) (by decide)) (λ_=>?_))
   refine ah (aD (av aY (aa 4 rfl) (aH h2)) (λh=>absurd (show ("add":Str)="ask" from of_decide_eq_true h) (by decide)) (λ_=>?_))
   refine ah (aD (av aY (aa 4 rfl) (aH h3)) (λh=>absurd (show ("add":Str)="jump" from of_decide_eq_true h) (by decide)) (λ_=>?_))
   refine ah (aD (av aY (aa 4 rfl) (aH h4)) (λh=>absurd (show ("add":Str)="call" from of_decide_eq_true h) (by decide)) (λ_=>?_))
   refine ah (aD (av aY (aa 4 rfl) (aH h5)) (λh=>absurd (show ("add":Str)="count" from of_decide_eq_true h) (by decide)) (λ_=>?_))
   refine ah (aD (av aY (aa 4 rfl) (aH h6)) (λ_=>?_) (λh=>absurd (show ("add":Str)="add" from rfl) (of_decide_eq_false h)))
   refine ah (jv (cX 0 CS hr (au (cP (EV.iP (n:=g.2.1) (aP (mE 0 HC (aK (by decide)) (gL ag) rfl iV (by show da (l3 m.frames) (-1)=_;rw [hg];exact kn)) ag rfl)) (EV.iP (n:=n) (aP (aa 3 rfl) ag rfl))) aG) rfl rfl ⟨a,_,_,fr,g,rfl,rfl,hg,rfl⟩) ?_)
   refine ⟨_,rfl,λ_ _ _=>⟨(),rfl,?_,rfl⟩⟩
   rw [qP,hgl,hgd]
 | tell p n=>
   refine ah (aD (av aY (aa 4 rfl) (aH h1)) (λh=>absurd (show ("tell":Str)="row" from of_decide_eq_true h) (by decide)) (λ_=>?_))
   refine ah (aD (av aY (aa 4 rfl) (aH h2)) (λh=>absurd (show ("tell":Str)="ask" from of_decide_eq_true h) (by decide)) (λ_=>?_))
   refine ah (aD (av aY (aa 4 rfl) (aH h3)) (λh=>absurd (show ("tell":Str)="jump" from of_decide_eq_true h) (by decide)) (λ_=>?_))
   refine ah (aD (av aY (aa 4 rfl) (aH h4)) (λh=>absurd (show ("tell":Str)="call" from of_decide_eq_true h) (by decide)) (λ_=>?_))
   refine ah (aD (av aY (aa 4 rfl) (aH h5)) (λh=>absurd (show ("tell":Str)="count" from of_decide_eq_true h) (by decide)) (λ_=>?_))
   refine ah (aD (av aY (aa 4 rfl) (aH h6)) (λh=>absurd (show ("tell":Str)="add" from of_decide_eq_true h) (by decide)) (λ_=>?_))
   refine ah (aD (av aY (aa 4 rfl) (aH h7)) (λ_=>?_) (λh=>absurd (show ("tell":Str)="tell" from rfl) (of_decide_eq_false h)))
   refine ao (gW 0 HC (aK (by decide)) (y:=ie (p,m.chain,g.2.1)) (bD (ay (aP (aa 3 rfl) ag rfl) (ay (EV.pI (dy 0 HC (aK (by decide)) rfl lH)) (ay (EV.pI (EV.iP (n:=g.2.1) (aP (mE 0 HC (aK (by decide)) (gL ag) rfl iV (by show da (l3 m.frames) (-1)=_;rw [hg];exact kn)) ag rfl))) aM))) dB) rfl xJ (by simpa using Nat.lt_of_lt_of_le okt big) ?_)
   rw [gU,Bd]
   refine ah (jv (cX 0 CS hr (au (EV.iP (n:=n) (aP (aa 3 rfl) ag rfl)) aG) rfl rfl ⟨a,_,_,fr,g,rfl,rfl,hg,rfl⟩) ?_)
   refine ⟨_,rfl,λ_ _ _=>⟨(),rfl,?_,rfl⟩⟩
   rw [qP,hgl,hgd]
 | back=>
   refine ah (aD (av aY (aa 4 rfl) (aH h1)) (λh=>absurd (show ("back":Str)="row" from of_decide_eq_true h) (by decide)) (λ_=>?_))
   refine ah (aD (av aY (aa 4 rfl) (aH h2)) (λh=>absurd (show ("back":Str)="ask" from of_decide_eq_true h) (by decide)) (λ_=>?_))
   refine ah (aD (av aY (aa 4 rfl) (aH h3)) (λh=>absurd (show ("back":Str)="jump" from of_decide_eq_true h) (by decide)) (λ_=>?_))
   refine ah (aD (av aY (aa 4 rfl) (aH h4)) (λh=>absurd (show ("back":Str)="call" from of_decide_eq_true h) (by decide)) (λ_=>?_))
   refine ah (aD (av aY (aa 4 rfl) (aH h5)) (λh=>absurd (show ("back":Str)="count" from of_decide_eq_true h) (by decide)) (λ_=>?_))
   refine ah (aD (av aY (aa 4 rfl) (aH h6)) (λh=>absurd (show ("back":Str)="add" from of_decide_eq_true h) (by decide)) (λ_=>?_))
   refine ah (aD (av aY (aa 4 rfl) (aH h7)) (λh=>absurd (show ("back":Str)="tell" from of_decide_eq_true h) (by decide)) (λ_=>?_))
   refine ah (jv (cX 0 CG hr aG rfl rfl ⟨a,_,fr,g,rfl,rfl,hg,rfl⟩) ?_)
   refine ⟨_,rfl,λ_ _ _=>⟨(),rfl,?_,rfl⟩⟩
   rw [qP,hgl,hgd]
end
end K1
namespace Fc
open PySem PySem.Spec L2
open PyProof.Rows hiding St
section
variable {X:Cx}{Γ Γ1 Γ2 Γ3:Ga}{α β γ δ:Type}{N:Ga->Prop}{T:RT}
def rm (X:Cx)(e:Expr)(Γ:Ga)(fs:List (List Int))(Γ1:Ga):Prop:=
 ∀(σ:St) (H0 R0 H R:Hp),aw X.K σ H0 R0 H R Γ->∀Q:VK,(∀a ts H' R',aw X.K σ H0 R0 H' R' Γ1->aj R R'->H' a=some (.lst (ts.map V.ref))->R' a=none->H a=none->bT H0 R' ts fs->Q (.ref a) H')->dj X e σ H Q
theorem bT.not {H0 R:Hp}{b:Addr}(hb:R b=none):∀{us:List Addr} {gs:List (List Int)},bT H0 R us gs->b∉us
 | _,_,.nil,z=>by cases z
 | _,_,.cons h t,z=>by
   rcases List.mem_cons.mp z with rfl | z
   ·rw [h.2] at hb;cases hb
   ·exact bT.not hb t z
theorem bT.low {H0 H R:Hp}(s:aj H0 H){us:List Addr}{gs:List (List Int)}(h:bT H R us gs):bT H0 R us gs:=Paired.map (λ_ _ ⟨a,b⟩=>⟨s.free a,b⟩) h
theorem jQ (i:Nat){S:cE}{g m f:Str}{k:Nat}{p p1 ap pos:Pos}{C x a:Addr}{l:List Addr}{fs:Fs}{xs:List PV}{ns:List Str}{us:List (List Int)}(Cc:aU X.prog X.w X.K X.mg X.base g k (aZ S X.K))(hr:bg k X.A)(hC:cf X.K C ns)(hf:f∈ns)(hΓ:Γ[i]?=some (.ob ((aB C).bx (x::l) fs)))(h:bh fs f=some (.l a xs))(hS:S X.K [⟨ai ak,xs⟩] (rj us))
 (hN:X.N[i]?=some m:=by rfl) (hv:cT X.env.scope m:=by first | exact Or.inl rfl | exact Or.inr (Or.inl rfl) | exact Or.inr (Or.inr rfl)) (hd:(m==("__debug__":Str))=false:=by decide) (hcd:(m==("__classdict__":Str))=false:=by decide)
 (hbase:attributeBase (.Name m p1) f X.env (eval (.Name m p1) X.env)=eval (.Name m p1) X.env:=by rfl)
 (hg:Gl X g:=by rfl) (hdb:(g==("__debug__":Str))=false:=by decide) (he:starEach [.Attribute (.Name m p1) f ap] X.env=(false,eval (.Attribute (.Name m p1) f ap) X.env)::starEach [] X.env:=by rfl):rm X (.Call (.Name g p) [.Attribute (.Name m p1) f ap] [] pos) Γ us Γ:=λσ H0 R0 H R E Q q=>by
 obtain ⟨dx,ea,hR,el,h1,h2,h3,nd,⟨vs,ha,pp,hz0⟩,hin⟩:=cM (E.ent i _ hΓ) h
 obtain ⟨fa,fd,pn,F,hm,hk,hb⟩:=Cc.ex
 refine eS (ki F hr hg hm hk hb .nil jP (aE (du (bB hN hv hd hcd) hbase) bt he) hdb he rfl) ⟨.ref x,at_of ea,x,C,dx,_,_,rfl,h1,hC.cl,hC.no f hf,bN h,?_⟩
 refine ⟨H,[⟨ai ak,xs⟩],rj us,aj.refl _,.cons ⟨a,vs,rfl,ha,Paired.map (λ_ _ e=>ak.mono (K:=X.K) E.sub e) pp.pair,hz0⟩ .nil,hS,λv H' R' xx t=>?_⟩
 obtain ⟨b,ts,rfl,q0,q1,q2,nt⟩:=t
 obtain ⟨R2,x2,nt2,old⟩:=lX E.sub xx.h xx.s nt
 exact q b ts H' R2 (E.grow x2) x2.r q1 ((old b (nt.not q2)).trans (E.sub.free q0)) q0 (nt2.low E.ext.h)
end
end Fc
namespace K1
open PySem L2 Fc
open PySem.Spec hiding Row
open PyProof.Rows hiding St
section
variable {P:Program}{w:World}{K:PySem.W.Frag}{mg:Str->Option Value}{base:Heap}{f:Addr}{fd:FuncData}{C:Addr}
abbrev qz:Stmt:=top nW
theorem xl:aR ["tuples"] ["tuples"] (aq qz):=⟨rfl,rfl,rfl,by decide +kernel,rfl,by decide +kernel,by decide +kernel⟩
def pH:PV->Int
 | .int n=>n
 | _=>0
def AJ:PV->List Int
 | .tup xs=>xs.map pH
 | _=>[]
def wj:cE:=λK ps T=>∃xs:List (Int×Int×Int),ps=[⟨ai ak,l3 xs⟩]/\T=rj (xs.map t3)
theorem zQ {xs:List (Int×Int×Int)}:(l3 xs).map AJ=xs.map t3:=by rw [List.map_map];rfl
theorem Am (M:bU K mg)(F:bL K "triples" "triples" qz f fd)(hm:mg "triples"=some (.ref f))(hb:Binds K fd ["tuples"] []):aU P w K mg base "triples" 1 (aZ wj K):=by
 have nd:=xl.nd
 have ndc:List.Nodup [("known":Str)]:=by decide
 refine cI F xl hm hb (λqs T ⟨xs,e,_⟩=>by rw [e];rfl) (λcdv A outer s H E qs T hr hS=>?_)
 obtain ⟨xs,rfl,rfl⟩:=hS
 change WS _ _ [.im (ai ak) (l3 xs)] _ _
 rw [← zQ]
 refine ah (yd (own:=["known"]) (fr:=[]) (ix:=[]) (f:=AJ) (λσ H0 R0 H R E=>E.frz) (eD (so:=aq qz) (N0:=["tuples"]) rfl rfl (λx h=>cW h) (by decide +kernel)) (i6 (aa 0 rfl))
  (λC s H ex=>dJ 0) (λx=>⟨.inr rfl,trivial⟩) (λC s H ex x hx=>?_) (λx hx=>?_))
 ·obtain ⟨y,_,rfl⟩:=List.mem_map.mp hx
  exact ay (EV.iP (n:=y.1) (aP (aa 0 rfl) ag rfl)) (ay (EV.iP (n:=y.2.1) (aP (aa 0 rfl) ag rfl)) (ay (EV.iP (n:=y.2.2) (aP (aa 0 rfl) ag rfl)) aM))
 ·obtain ⟨y,_,rfl⟩:=List.mem_map.mp hx
  exact dB
abbrev kO:Stmt:=match top pC with
 | .ClassDef _ _ _ b _ _ _ _ _ _ _=>b.getD 0 (.Pass ⟨0,0,0,0⟩)
 | s=>s
theorem wQ:aR ["self","state"] ["self","state"] (aq kO):=⟨rfl,rfl,rfl,by decide +kernel,rfl,by decide +kernel,by decide +kernel⟩
theorem wH {X:Cx}{Γ Γ1:Ga}{e:Expr}{xs:List (Int×Int×Int)}(h:bW X e Γ ak ((xs.map t3).map tupI) Γ1):bW X e Γ ak (l3 xs) Γ1:=by rwa [List.map_map] at h
structure MZ (m:bP):Prop where
 f:m.frames.length<=sizeLine
 b:m.boxes.length < sizeLine
 t:m.told.length<=sizeLine
 nd:(m.boxes.map (·.1)).Nodup
def yo (C0:Addr):tY:=λK C ps Pd=>C=C0/\∃m:bP,ps=[⟨ak,.tup (eK m)⟩]/\MZ m/\Pd=λfs=>∃a,fs=aQ a m
theorem zW {C0:Addr}(M:bU K mg)(HC0:cf K C0 fns)(CT:aU P w K mg base "triples" 1 (aZ wj K))(F:bL K "__init__" "Machine.__init__" kO f fd):cq P w K mg base cL 2 f fd ["self","state"] (qH (yo C0) K):=by
 have nd:=wQ.nd
 refine yN F wQ (λC qs Pd ⟨_,m,e,_⟩=>by rw [e];rfl) (λcdv A outer s H E C x dx qs Pd hr hS=>?_)
 obtain ⟨rfl,m,rfl,⟨h1,h2,h3,nd3⟩,rfl⟩:=hS
 have HC:=HC0
 change WS _ _ [.ob ((aB C).bx [x,dx] []),.im ak (.tup (eK m))] _ _
 refine ao (fh 0 HC (aK (by decide)) (jK (EV.iP (n:=m.at_) (aP (aa 1 rfl) ag rfl))) rfl rfl (by show 0 < 1000;decide) ?_)
 rintro _ rfl
 change WS _ _ [.ob ((aB C).bx (x::_) [("at",.i m.at_)]),.im ak (.tup (eK m))] _ _
 refine ao (fh 0 HC (aK (by decide)) (kg (wH (kI CT hr (au (EV.lP (xs:=l3 m.frames) (aP (aa 1 rfl) ag rfl)) aG) ⟨_,rfl,rfl⟩ (by simpa using h1)))) rfl rfl (by show 1 < 1000;decide) ?_)
 rintro _ ⟨a1,rfl⟩
 change WS _ _ [.ob ((aB C).bx (x::_) [("at",.i m.at_),("frames",.l a1 (l3 m.frames))]),.im ak (.tup (eK m))] _ _
 refine ao (fh 0 HC (aK (by decide)) (uD M.dict (D:=m.boxes) (aP (aa 1 rfl) ag rfl) nd3 h2) rfl rfl (by show 2 < 1000;decide) ?_)
 rintro _ ⟨a2,rfl⟩
 change WS _ _ [.ob ((aB C).bx (x::_) [("at",.i m.at_),("frames",.l a1 (l3 m.frames)),("boxes",.d a2 m.boxes)]),.im ak (.tup (eK m))] _ _
 refine ao (fh 0 HC (aK (by decide)) (kg (wH (kI CT hr (au (EV.lP (xs:=l3 m.told) (aP (aa 1 rfl) ag rfl)) aG) ⟨_,rfl,rfl⟩ (by simpa using h3)))) rfl rfl (by show 3 < 1000;decide) ?_)
 rintro _ ⟨a3,rfl⟩
 change WS _ _ [.ob ((aB C).bx (x::_) [("at",.i m.at_),("frames",.l a1 (l3 m.frames)),("boxes",.d a2 m.boxes),("told",.l a3 (l3 m.told))]),.im ak (.tup (eK m))] _ _
 refine ao (fh 0 HC (aK (by decide)) (jK (EV.iP (n:=m.chain) (aP (aa 1 rfl) ag rfl))) rfl rfl (by show 4 < 1000;decide) ?_)
 rintro _ rfl
 change WS _ _ [.ob ((aB C).bx (x::_) [("at",.i m.at_),("frames",.l a1 (l3 m.frames)),("boxes",.d a2 m.boxes),("told",.l a3 (l3 m.told)),("chain",.i m.chain)]),.im ak (.tup (eK m))] _ _
 refine ao (fh 0 HC (aK (by decide)) (kg (eL M.list (EV.lP (xs:=jd m.rows) (aP (aa 1 rfl) ag rfl)))) rfl rfl (by show 5 < 1000;decide) ?_)
 rintro _ ⟨a4,rfl⟩
 change WS _ _ [.ob ((aB C).bx (x::_) [("at",.i m.at_),("frames",.l a1 (l3 m.frames)),("boxes",.d a2 m.boxes),("told",.l a3 (l3 m.told)),("chain",.i m.chain),("rows",.l a4 (jd m.rows))]),.im ak (.tup (eK m))] _ _
 refine ao (fh 0 HC (aK (by decide)) (jK (EV.iP (n:=m.used) (aP (aa 1 rfl) ag rfl))) rfl rfl (by show 6 < 1000;decide) ?_)
 rintro _ rfl
 change WS _ _ [.ob ((aB C).bx (x::_) [("at",.i m.at_),("frames",.l a1 (l3 m.frames)),("boxes",.d a2 m.boxes),("told",.l a3 (l3 m.told)),("chain",.i m.chain),("rows",.l a4 (jd m.rows)),("used",.i m.used)]),.im ak (.tup (eK m))] _ _
 refine ah (fh 0 HC (aK (by decide)) (jK (EV.iP (n:=m.idle) (aP (aa 1 rfl) ag rfl))) rfl rfl (by show 7 < 1000;decide) ?_)
 rintro _ rfl
 exact ⟨_,_,rfl,⟨a1,a2,a3,a4⟩,rfl⟩
end
end K1
namespace Fc
open PySem PySem.Spec L2
open PyProof.Rows hiding St
section
variable {X:Cx}{Γ Γ1 Γ2 Γ3:Ga}{α β γ δ:Type}{N:Ga->Prop}{T:RT}
variable {H:Hp}
theorem aw.A6 {K:PySem.W.Frag}{σ:St}{H0 R0 R:Hp}{i:Nat}{B:nE}(E:aw K σ H0 R0 H R Γ)(hΓ:Γ[i]?=some (.ob B)):aw K σ H0 R0 H (λb=>if b∈B.fp then H b else R b) (Γ.set i .no)/\aj R (λb=>if b∈B.fp then H b else R b):=by
 have h0:∀b∈B.fp,H0 b=none:=λb hb=>E.nw i _ b hΓ hb
 have hR:∀b∈B.fp,R b=none:=(E.ent i _ hΓ).2
 have sR:aj R (λb=>if b∈B.fp then H b else R b):=λb o q=>by
  show (if b∈B.fp then H b else R b)=some o
  rw [if_neg λw=>by rw [hR b w] at q;cases q];exact q
 refine ⟨⟨⟨E.ext.h,E.ext.r.trans sR,λb o q=>?_,λb hb=>?_⟩,λj e q=>?_,λj e b q w=>?_,λj k e e' b q q' w w'=>?_,by rw [List.length_set];exact E.len⟩,sR⟩
 ·have q:(if b∈B.fp then H b else R b)=some o:=q
  by_cases hb:b∈B.fp
  ·rw [if_pos hb] at q;exact q
  ·rw [if_neg hb] at q;exact E.sub b o q
 ·show (if b∈B.fp then H b else R b)=_
  rw [if_neg λw=>hb (h0 b w)];exact E.ext.old b hb
 ·rcases set_at q with ⟨rfl,rfl,_⟩ | ⟨hj,q1⟩
  ·trivial
  ·have h1:=E.ent j e q1
   refine h1.loc (λb hb=>rfl) sR λb hb=>?_
   show (if b∈B.fp then H b else R b)=none
   rw [if_neg (show¬b∈B.fp from λw=>hj (E.ds j i e _ b q1 hΓ hb w))];exact (Ent.eE h1 hb).2
 ·rcases set_at q with ⟨rfl,rfl,_⟩ | ⟨hj,q1⟩
  ·cases w
  ·exact E.nw j e b q1 w
 ·rcases set_at q with ⟨rfl,rfl,_⟩ | ⟨hj,q1⟩
  ·cases w
  ·rcases set_at q' with ⟨rfl,rfl,_⟩ | ⟨hk,q1'⟩
   ·cases w'
   ·exact E.ds _ _ _ _ b q1 q1' w w'
abbrev TupAt (H:Hp):List Addr->List (List Int)->Prop:=PySem.Paired λt ns=>H t=some (.tup (ns.map V.int))
theorem TupAt.loc {H':Hp}:∀{ts:List Addr} {fs:List (List Int)},TupAt H ts fs->(∀t∈ts,H' t=H t)->TupAt H' ts fs
 | _,_,.nil,_=>.nil
 | _,_,.cons h t,e=>.cons ((e _ List.mem_cons_self).trans h) (TupAt.loc t λb hb=>e b (List.mem_cons_of_mem _ hb))
theorem TupAt.has:∀{ts:List Addr} {fs:List (List Int)},TupAt H ts fs->∀t∈ts,H t≠none
 | _,_,.cons h t,b,hb=>by
   rcases List.mem_cons.mp hb with rfl | hb
   ·rw [h];exact Option.some_ne_none _
   ·exact TupAt.has t b hb
def m5 (a:Addr)(ts:List Addr)(fs:List (List Int)):nE where
 fp:=a::ts
 R:=λ_ H _ v=>v= .ref a/\H a=some (.lst (ts.map V.ref))/\TupAt H ts fs
 loc:=λhH _ ⟨e,h,p⟩=>⟨e,(hH a List.mem_cons_self).trans h,p.loc λb hb=>hH b (List.mem_cons_of_mem _ hb)⟩
 has:=λ⟨e,h,p⟩ b hb=>by
  rcases List.mem_cons.mp hb with rfl | hb
  ·rw [h];exact Option.some_ne_none _
  ·exact p.has b hb
theorem oG {Γf:Ga}{tg:Expr}{es:List Expr}{k:Nat}{tp:Pos}{scope:Scope}{cl:List (Str×Addr)}{own fr:List Str}{ix:List Nat}{ra:Rep α}{xs:List α}{f:α->List Int}{bf:α->Ga->Ga}{J:It}{σ:St}{H1:Hp}{Q:VK}
 (E1f:aw X.K σ H1 H1 H1 H1 Γf) (srcF:Src X.K J H1 ra xs) (hz:xs.length<=sizeLine)
 (hb:∀(C:Addr) (s:Shared) (H:Hp) (ex:List Addr),BG (aO X scope cl C (own++fr) s H ex) tg ra bf) (hw:∀x,Wk (bf x (cb own ix Γf)) (cb own ix Γf))
 (he:∀(C:Addr) (s:Shared) (H:Hp) (ex:List Addr) x,x∈xs->EA (aO X scope cl C (own++fr) s H ex) es (bf x (cb own ix Γf)) ae (f x) (bf x (cb own ix Γf))) (hl:∀x∈xs,(f x).length<=sizeLine)
 (q:∀H' R' a ts,aj H1 H'->aj R' H'->bT H1 R' ts (xs.map f)->H' a=none->Q (.ref a) (upd H' a (.lst (ts.map V.ref)))):
 ∃W:Nat->Nat->List V->St->Hp->Prop,(∃m,W 0 m [] (ee own ix σ) H1)/\∀i m ys σ' H',W i m ys σ' H'->
  ys.length<=sizeLine/\((J.stop i H'/\∀p,H' p=none->Q (.ref p) (upd H' p (.lst ys)))∨
  (J.go i H'/\∀x H2,J.yld i H' x H2->(λv σ H Q=>∀C s Hh ex,hG (aO X scope cl C (own++fr) s Hh ex) tg v σ H Q:TG) x σ' H2 λσ2 H3=>(λσ H Q=>∀C s Hh ex,iW (aO X scope cl C (own++fr) s Hh ex) [] σ H Q:TT) σ2 H3 λb H4=>
    if b=true then (λσ H Q=>∀C s Hh ex,dj (aO X scope cl C (own++fr) s Hh ex) (.Tuple es k tp) σ H Q:TE) σ2 H4 λv H5=>∃m',m' < m/\W (i + 1) m' (ys++[v]) σ2 H5 else∃m',m' < m/\W (i + 1) m' ys σ2 H4)):=by
 refine ⟨λi m ys σ' H'=>m=xs.length - i/\i<=xs.length/\∃R' ts,aw X.K σ' H1 H1 H' R' (cb own ix Γf)/\ys=ts.map V.ref/\bT H1 R' ts ((xs.take i).map f),⟨_,rfl,Nat.zero_le _,H1,[],jq E1f own ix,rfl,.nil⟩,?_⟩
 rintro i m ys σ' H' ⟨rfl,hle,R',ts,E',rfl,pp⟩
 have hys:(ts.map V.ref).length<=sizeLine:=by
  rw [List.length_map,pp.length,List.length_map,List.length_take]
  exact Nat.le_trans (Nat.min_le_right _ _) hz
 obtain ⟨sgo,sstop⟩:=srcF H' R' E'.ext.r E'.sub i
 refine ⟨hys,?_⟩
 by_cases hlt:i < xs.length
 ·obtain ⟨go,yl⟩:=sgo _ (List.getElem?_eq_getElem hlt)
  have hmem:xs[i]∈xs:=List.getElem_mem hlt
  have tk:(xs.take (i + 1))=xs.take i++[xs[i]]:=by rw [List.take_succ,List.getElem?_eq_getElem hlt];rfl
  refine .inr ⟨go,λv H2 hy C s Hh ex=>?_⟩
  obtain ⟨R2,x2,hr⟩:=yl v H2 hy
  refine hb C s Hh ex σ' H1 H1 H2 R2 _ v _ (E'.grow x2) hr _ λσ2 E2=>?_
  intro C s Hh ex
  refine (gc (X:=aO X scope cl C (own++fr) s Hh ex)) σ2 H1 H1 H2 R2 E2 _ λH4 R4 E4 s4=>?_
  rw [if_pos rfl]
  intro C s Hh ex
  refine eS (gu gN) (he C s Hh ex _ hmem σ2 H1 H1 H4 R4 E4 _ λvs H5 R5 E5 s5 p5=>⟨by rw [p5.length];exact hl _ hmem,λp hp=>?_⟩)
  have ev:=eA p5
  subst ev
  have x6:=Ext.fresh E5.sub hp (.tup ((f xs[i]).map V.int))
  have E6:=E5.grow x6
  refine ⟨xs.length - (i + 1),by omega,rfl,hlt,_,ts++[p],E6.weak (hw _),by rw [List.map_append];rfl,?_⟩
  rw [tk,List.map_append]
  exact cm (pp.mono (x2.r.trans (s4.trans (s5.trans x6.r)))) (.cons ⟨E5.ext.h.free hp,aA⟩ .nil)
 ·have e:i=xs.length:=by omega
  subst e
  rw [List.take_length] at pp
  exact .inl ⟨sstop (Nat.le_refl _),λa ha=>q H' R' a ts E'.ext.h E'.sub pp ha⟩
theorem wm (i:Nat){Γf:Ga}(hF:∀(σ:St) (H0 R0 H R:Hp),aw X.K σ H0 R0 H R Γ1->aw X.K σ H H H H Γf){y:Str}{py spos:Pos}{tg iter:Expr}{es:List Expr}{k:Nat}{tp:Pos}{scope:Scope}{pos:Pos}{cl:List (Str×Addr)}{own fr:List Str}{ix:List Nat}{ra:Rep α}{xs:List α}{f:α->List Int}{bf:α->Ga->Ga}
 (S:cJ X scope cl own fr ix) (hit:IV X tg iter Γ ra xs Γ1)
 (hb:∀(C:Addr) (s:Shared) (H:Hp) (ex:List Addr),BG (aO X scope cl C (own++fr) s H ex) tg ra bf) (hw:∀x,Wk (bf x (cb own ix Γf)) (cb own ix Γf))
 (he:∀(C:Addr) (s:Shared) (H:Hp) (ex:List Addr) x,x∈xs->EA (aO X scope cl C (own++fr) s H ex) es (bf x (cb own ix Γf)) ae (f x) (bf x (cb own ix Γf))) (hl:∀x∈xs,(f x).length<=sizeLine)
 (h:∀a ts,N (Γ1.set i (.ob (m5 a ts (xs.map f)))))
 (hsw:swapsWith (.ListComp (.Tuple es k tp) [⟨tg,iter,[],0⟩] scope pos) (some (.Name y py)) spos.line X.env=pure true:=by rfl)
 (hN:X.N.Nodup:=by first | assumption | decide) (hi':X.N[i]?=some y:=by rfl) (hx:Loc X.env.scope y:=by first | exact Or.inl rfl | exact Or.inr rfl)
 (hc:X.calm=true:=by rfl) (hs:∀x,foldedSetIterable iter X.env x=pure x:=by intro _;rfl) (hf:X.fn y=true∨X.env.scope.names.lookup y=some .local:=by first | exact .inl rfl | exact .inr rfl):
 W1 X (.Assign [.Name y py] (.ListComp (.Tuple es k tp) [⟨tg,iter,[],0⟩] scope pos) spos) Γ N T:=λσ H0 R0 H R E D dn dr=>by
 obtain ⟨wi,hi,hit⟩:=hit
 refine sS (jJ (i:=i) (g:=λv σ H Q=>∀C s Hh ex,hG (aO X scope cl C (own++fr) s Hh ex) tg v σ H Q) (tc:=λσ H Q=>∀C s Hh ex,iW (aO X scope cl C (own++fr) s Hh ex) [] σ H Q) (te:=λσ H Q=>∀C s Hh ex,dj (aO X scope cl C (own++fr) s Hh ex) (.Tuple es k tp) σ H Q) hsw hN hi' hx hc S hi
  (λC s H ex=>⟨λpins s1 σ H v u Q I r h=>h C s _ ex pins s1 u I r,λpins s1 σ H Q I h=>h C s _ ex pins s1 I,λpins s1 σ H Q I h=>h C s _ ex pins s1 I⟩) hs hf) ?_
 refine hit σ H0 R0 H R E _ λJ H1 R1 E1 s1 hz src=>oG (Q:=λv H'=>D.nx (σ.set i (some v)) H') (hF σ H0 R0 H1 R1 E1) (src.sub E1.sub) hz hb hw he hl λH' R' a ts sh sr nt ha=>?_
 have E2:=E1.grow (⟨sh,aj.refl _,λb o q=>sh b o (E1.sub b o q),λ_ _=>rfl⟩:Ext H1 R1 H' R1)
 have E3:=E2.grow (Ext.dX E2.sub ha (.lst (ts.map V.ref)))
 have hta:∀{us:List Addr} {gs:List (List Int)},bT H1 R' us gs->(∀t∈us,H1 t=none/\H' t≠none)/\TupAt (upd H' a (.lst (ts.map V.ref))) us gs:=by
  intro us gs h
  induction h with
  | nil=>exact ⟨λt z=>(by cases z),.nil⟩
  | cons h t ih=>
    have h2:=sr _ _ h.2
    refine ⟨λb hb=>?_,.cons ?_ ih.2⟩
    ·rcases List.mem_cons.mp hb with rfl | hb
     ·exact ⟨h.1,by rw [h2];exact Option.some_ne_none _⟩
     ·exact ih.1 b hb
    ·rw [az λe=>by rw [e,ha] at h2;cases h2];exact h2
 obtain ⟨hn,hT⟩:=hta nt
 refine dn _ _ R1 _ (E3.setG (en:=.ob (m5 a ts (xs.map f))) i ⟨⟨.ref a,rfl,rfl,aA,hT⟩,λb hb=>?_⟩ (λb hb=>?_) λb hb j e _ qj w=>?_) s1 (h a ts)
 ·rcases List.mem_cons.mp hb with rfl | hb
  ·exact E2.sub.free ha
  ·exact E1.sub.free (hn b hb).1
 ·rcases List.mem_cons.mp hb with rfl | hb
  ·exact E2.ext.h.free ha
  ·exact E1.ext.h.free (hn b hb).1
 ·rcases List.mem_cons.mp hb with rfl | hb
  ·exact E2.off ha j e qj w
  ·exact E1.off (hn b hb).1 j e qj w
end
end Fc
namespace K1
open PySem L2 Fc
open PySem.Spec hiding Row
open PyProof.Rows hiding St
abbrev pr (p:Int×Int):List Int:=[p.1,p.2]
structure NS (H0 R:Hp) (m:bP) (p af ab at_ ar:Addr) (tf tb tt:List Addr):Prop where
 new:∀b∈[p,af,ab,at_,ar],H0 b=none
 nd:[af,ab,at_,ar].Nodup
 p:R p=some (.tup [.int m.at_,.ref af,.ref ab,.ref at_,.int m.chain,.ref ar,.int m.used,.int m.idle])
 f:R af=some (.lst (tf.map V.ref))
 b:R ab=some (.lst (tb.map V.ref))
 t:R at_=some (.lst (tt.map V.ref))
 r:R ar=some (.lst (m.rows.map V.int))
 nf:bT H0 R tf (m.frames.map t3)
 nb:bT H0 R tb (m.boxes.map pr)
 nt:bT H0 R tt (m.told.map t3)
def my (m:bP):RT:=λH0 v _ R'=>∃p af ab at_ ar tf tb tt,v= .ref p/\NS H0 R' m p af ab at_ ar tf tb tt
structure ML (m:bP):Prop where
 f:m.frames.length<=sizeLine
 b:m.boxes.length<=sizeLine
 t:m.told.length<=sizeLine
 r:m.rows.length<=sizeLine
theorem NS.pv {H0 R:Hp}{m:bP}{p af ab at_ ar:Addr}{tf tb tt:List Addr}(h:NS H0 R m p af ab at_ ar tf tb tt)(z:ML m):cQ R (.ref p) (.tup (eK m)):=by
 have e1:(m.frames.map t3).map tupI=l3 m.frames:=by rw [List.map_map];rfl
 have e2:(m.told.map t3).map tupI=l3 m.told:=by rw [List.map_map];rfl
 have e3:(m.boxes.map pr).map tupI=iA m.boxes:=by rw [List.map_map];rfl
 refine .tup h.p (.cons (.int _) (.cons (.lst h.f (.of (e1▸h.nf.pv)) (by simpa using z.f)) (.cons (.lst h.b (.of (e3▸h.nb.pv)) (by simpa using z.b)) (.cons (.lst h.t (.of (e2▸h.nt.pv)) (by simpa using z.t)) (.cons (.int _) (.cons (.lst h.r (ky _) (by simpa using z.r)) (.cons (.int _) (.cons (.int _) .nil))))))))
section
variable {X:Cx}{Γ Γ1 Γ2 Γ3:Ga}{N:Ga->Prop}{T:RT}
variable {pos:Pos}
def iz (X:Cx)(e:Expr)(Γ:Ga)(P:Hp->Hp->List V->Prop):Prop:=
 ∀(σ:St) (H0 R0 H R:Hp),aw X.K σ H0 R0 H R Γ->∀Q:VK,(∀a vs H' R',aw X.K σ H0 R0 H' R' Γ->aj R R'->R' a=some (.lst vs)->R a=none->H0 a=none->P H0 R' vs->Q (.ref a) H')->dj X e σ H Q
theorem rm.AI {e:Expr}{fs:List (List Int)}(h:rm X e Γ fs Γ):iz X e Γ (λH0 R vs=>∃ts,vs=ts.map V.ref/\bT H0 R ts fs):=λσ H0 R0 H R E Q q=>
 h σ H0 R0 H R E Q λa ts H' R' E' s1 ha hR hH nt=>by
   have s2:aj R' (upd R' a (.lst (ts.map V.ref))):=aj.fresh hR _
   exact q a _ H' _ (E'.lq ha hR (E.ext.h.free hH) (λi e qe w=>E.off hH i e qe w)) (s1.trans s2) aA (E.sub.free hH) (E.ext.h.free hH) ⟨ts,rfl,nt.mono s2⟩
theorem tw {e:Expr}{ns:List Int}(h:bW X e Γ ak (jd ns) Γ):iz X e Γ (λ_ _ vs=>vs=ns.map V.int):=λσ H0 R0 H R E Q q=>
 h σ H0 R0 H R E Q λa vs H' R' E' s1 ha hR h0 off pp z=>by
   have s2:aj R' (upd R' a (.lst vs)):=aj.fresh hR _
   have hRa:R a=none:=by
    cases e:R a with
    | none=>rfl
    | some o=>rw [s1 a o e] at hR;cases hR
   exact q a vs H' _ (E'.lq ha hR h0 off) (s1.trans s2) aA hRa h0 (eA (nG (.of pp) X.K))
theorem wd (j:Nat){m:bP}(hT:∀(σ:St) (H0 R0 H' R':Hp) (v:V),aw X.K σ H0 R0 H' R' (Γ.set j .no)->my m H0 v H' R'->T H0 v H' R'){e0 e1 e3 e4 e5 e6 e7:Expr}{b:Str}{pb pt:Pos}{k:Nat}{ab:Addr}{tb:List Addr}(hΓ:Γ[j]?=some (.ob (m5 ab tb (m.boxes.map pr))))(h0:EV X e0 (Γ.set j .no) ae m.at_ (Γ.set j .no))(h1:iz X e1 (Γ.set j .no) (λH0 R vs=>∃ts,vs=ts.map V.ref/\bT H0 R ts (m.frames.map t3)))(h3:iz X e3 (Γ.set j .no) (λH0 R vs=>∃ts,vs=ts.map V.ref/\bT H0 R ts (m.told.map t3)))
 (h4:EV X e4 (Γ.set j .no) ae m.chain (Γ.set j .no)) (h5:iz X e5 (Γ.set j .no) (λ_ _ vs=>vs=m.rows.map V.int)) (h6:EV X e6 (Γ.set j .no) ae m.used (Γ.set j .no)) (h7:EV X e7 (Γ.set j .no) ae m.idle (Γ.set j .no))
 (hN:X.N[j]?=some b:=by rfl) (hv:cT X.env.scope b:=by first | exact Or.inl rfl | exact Or.inr (Or.inl rfl) | exact Or.inr (Or.inr rfl)) (hd:(b==("__debug__":Str))=false:=by decide) (hcd:(b==("__classdict__":Str))=false:=by decide)
 (s0:starEach [e0,e1,.Name b pb,e3,e4,e5,e6,e7] X.env=(false,eval e0 X.env)::starEach [e1,.Name b pb,e3,e4,e5,e6,e7] X.env:=by rfl) (s1:starEach [e1,.Name b pb,e3,e4,e5,e6,e7] X.env=(false,eval e1 X.env)::starEach [.Name b pb,e3,e4,e5,e6,e7] X.env:=by rfl) (s2:starEach [.Name b pb,e3,e4,e5,e6,e7] X.env=(false,eval (.Name b pb) X.env)::starEach [e3,e4,e5,e6,e7] X.env:=by rfl) (s3:starEach [e3,e4,e5,e6,e7] X.env=(false,eval e3 X.env)::starEach [e4,e5,e6,e7] X.env:=by rfl)
 (s4:starEach [e4,e5,e6,e7] X.env=(false,eval e4 X.env)::starEach [e5,e6,e7] X.env:=by rfl) (s5:starEach [e5,e6,e7] X.env=(false,eval e5 X.env)::starEach [e6,e7] X.env:=by rfl) (s6:starEach [e6,e7] X.env=(false,eval e6 X.env)::starEach [e7] X.env:=by rfl) (s7:starEach [e7] X.env=(false,eval e7 X.env)::starEach [] X.env:=by rfl):
 W1 X (.Return (some (.Tuple [e0,e1,.Name b pb,e3,e4,e5,e6,e7] k pt)) pos) Γ N T:=λσ H0 R0 H R E D dn dr=>by
 obtain ⟨⟨v,ev,rfl,hab,htb⟩,hRb⟩:=E.ent j _ hΓ
 have hnb:∀c∈ab::tb,H0 c=none:=λc hc=>E.nw j _ c hΓ hc
 obtain ⟨E1,sR⟩:=E.A6 hΓ
 have hR1:∀c∈ab::tb,(λc=>if c∈(m5 ab tb (m.boxes.map pr)).fp then H c else R c) c=H c:=λc hc=>if_pos hc
 generalize (λc=>if c∈(m5 ab tb (m.boxes.map pr)).fp then H c else R c)=R1 at E1 sR hR1
 have fb:R1 ab=some (.lst (tb.map V.ref)):=(hR1 ab List.mem_cons_self).trans hab
 have ntb:bT H0 R1 tb (m.boxes.map pr):=by
  have:∀{us:List Addr} {gs:List (List Int)},TupAt H us gs->(∀u∈us,u∈ab::tb)->bT H0 R1 us gs:=by
   intro us gs h
   induction h with
   | nil=>intro _;exact .nil
   | cons h t ih=>intro hu;exact .cons ⟨hnb _ (hu _ List.mem_cons_self),(hR1 _ (hu _ List.mem_cons_self)).trans h⟩ (ih λc hc=>hu c (List.mem_cons_of_mem _ hc))
  exact this htb λc hc=>List.mem_cons_of_mem _ hc
 refine sS (eF (gu (aE aL (aE aL (aE (bB hN hv hd hcd) (aE aL (aE aL (aE aL (aE aL (aE aL bt s7) s6) s5) s4) s3) s2) s1) s0))) ?_
 refine h0 σ H0 R0 H R1 E1 _ λv0 H2 R2 E2 t2 q2=>h1 σ H0 R0 H2 R2 E2 _ λaf vf H3 R3 E3 t3' hf nf0 nf1 ⟨tf,ef,ntf⟩=>?_
 refine ⟨.ref ab,at_of ev,?_⟩
 refine h3 σ H0 R0 H3 R3 E3 _ λat_ vt H4 R4 E4 t4 ht nt0 nt1 ⟨tt,et,ntt⟩=>h4 σ H0 R0 H4 R4 E4 _ λv4 H5 R5 E5 t5 q5=>h5 σ H0 R0 H5 R5 E5 _ λar vr H6 R6 E6 t6 hr nr0 nr1 er=>h6 σ H0 R0 H6 R6 E6 _ λv6 H7 R7 E7 t7 q7=>h7 σ H0 R0 H7 R7 E7 _ λv7 H8 R8 E8 t8 q8=>?_
 cases q2;cases q5;cases q7;cases q8
 subst ef;subst et;subst er
 refine ⟨by show 8<=sizeLine;decide,λp hp=>?_⟩
 have x9:=Ext.fresh E8.sub hp (.tup [.int m.at_,.ref af,.ref ab,.ref at_,.int m.chain,.ref ar,.int m.used,.int m.idle])
 have u8:=x9.r
 have fb2:R2 ab=_:=t2 _ _ fb
 have fb3:R3 ab=_:=t3' _ _ fb2
 have fb5:R5 ab=_:=t5 _ _ (t4 _ _ fb3)
 have ff5:R5 af=_:=t5 _ _ (t4 _ _ hf)
 have ft5:R5 at_=_:=t5 _ _ ht
 have n1:af≠ab:=λe=>by rw [e,fb2] at nf0;cases nf0
 have n2:at_≠af:=λe=>by rw [e,hf] at nt0;cases nt0
 have n3:at_≠ab:=λe=>by rw [e,fb3] at nt0;cases nt0
 have n4:ar≠af:=λe=>by rw [e,ff5] at nr0;cases nr0
 have n5:ar≠ab:=λe=>by rw [e,fb5] at nr0;cases nr0
 have n6:ar≠at_:=λe=>by rw [e,ft5] at nr0;cases nr0
 have a58:aj R5 (upd R8 p _):=t6.trans (t7.trans (t8.trans u8))
 refine dr _ _ _ (E8.ext.trans x9) (hT σ H0 R0 _ _ _ (E8.grow x9) ⟨p,af,ab,at_,ar,tf,tb,tt,rfl,⟨λc hc=>?_,?_,aA,a58 _ _ ff5,a58 _ _ fb5,a58 _ _ ft5,t7.trans (t8.trans u8) _ _ hr,ntf.mono (t4.trans (t5.trans a58)),ntb.mono (t2.trans (t3'.trans (t4.trans (t5.trans a58)))),ntt.mono (t5.trans a58)⟩⟩)
 ·simp only [List.mem_cons,List.mem_singleton,List.not_mem_nil,or_false] at hc
  rcases hc with rfl | rfl | rfl | rfl | rfl
  ·exact E8.ext.h.free hp
  ·exact nf1
  ·exact hnb _ List.mem_cons_self
  ·exact nt1
  ·exact nr1
 ·simp only [List.nodup_cons,List.mem_cons,List.mem_singleton,List.not_mem_nil,or_false,not_or,not_false_eq_true,List.nodup_nil,and_true]
  exact ⟨⟨n1,Ne.symm n2,Ne.symm n4⟩,⟨Ne.symm n3,Ne.symm n5⟩,Ne.symm n6⟩
theorem uM {m:bP}(hT:∀(σ:St) (H0 R0 H' R':Hp) (v:V),aw X.K σ H0 R0 H' R' Γ->my m H0 v H' R'->T H0 v H' R'){e0 e1 e2 e3 e4 e5 e6 e7:Expr}{pt:Pos}{k:Nat}(h2:iz X e2 Γ (λH0 R vs=>∃ts,vs=ts.map V.ref/\bT H0 R ts (m.boxes.map pr)))(h0:EV X e0 Γ ae m.at_ Γ)(h1:iz X e1 Γ (λH0 R vs=>∃ts,vs=ts.map V.ref/\bT H0 R ts (m.frames.map t3)))(h3:iz X e3 Γ (λH0 R vs=>∃ts,vs=ts.map V.ref/\bT H0 R ts (m.told.map t3)))
 (h4:EV X e4 Γ ae m.chain Γ) (h5:iz X e5 Γ (λ_ _ vs=>vs=m.rows.map V.int)) (h6:EV X e6 Γ ae m.used Γ) (h7:EV X e7 Γ ae m.idle Γ)
 (s0:starEach [e0,e1,e2,e3,e4,e5,e6,e7] X.env=(false,eval e0 X.env)::starEach [e1,e2,e3,e4,e5,e6,e7] X.env:=by rfl) (s1:starEach [e1,e2,e3,e4,e5,e6,e7] X.env=(false,eval e1 X.env)::starEach [e2,e3,e4,e5,e6,e7] X.env:=by rfl) (s2:starEach [e2,e3,e4,e5,e6,e7] X.env=(false,eval e2 X.env)::starEach [e3,e4,e5,e6,e7] X.env:=by rfl) (s3:starEach [e3,e4,e5,e6,e7] X.env=(false,eval e3 X.env)::starEach [e4,e5,e6,e7] X.env:=by rfl)
 (s4:starEach [e4,e5,e6,e7] X.env=(false,eval e4 X.env)::starEach [e5,e6,e7] X.env:=by rfl) (s5:starEach [e5,e6,e7] X.env=(false,eval e5 X.env)::starEach [e6,e7] X.env:=by rfl) (s6:starEach [e6,e7] X.env=(false,eval e6 X.env)::starEach [e7] X.env:=by rfl) (s7:starEach [e7] X.env=(false,eval e7 X.env)::starEach [] X.env:=by rfl):
 W1 X (.Return (some (.Tuple [e0,e1,e2,e3,e4,e5,e6,e7] k pt)) pos) Γ N T:=λσ H0 R0 H R E D dn dr=>by
 refine sS (eF (gu (aE aL (aE aL (aE aL (aE aL (aE aL (aE aL (aE aL (aE aL bt s7) s6) s5) s4) s3) s2) s1) s0))) ?_
 refine h0 σ H0 R0 H R E _ λv0 H2 R2 E2 t2 q2=>h1 σ H0 R0 H2 R2 E2 _ λaf vf H3' R3' E3' t3' hf' nf0 nf1 ⟨tf,ef,ntf'⟩=>?_
 refine h2 σ H0 R0 H3' R3' E3' _ λab vb H3 R3 E3 t3b fb3 nb0 nb1 ⟨tb,eb,ntb⟩=>?_
 have ntf:=ntf'.mono t3b
 have hf:R3 af=_:=t3b _ _ hf'
 refine h3 σ H0 R0 H3 R3 E3 _ λat_ vt H4 R4 E4 t4 ht nt0 nt1 ⟨tt,et,ntt⟩=>h4 σ H0 R0 H4 R4 E4 _ λv4 H5 R5 E5 t5 q5=>h5 σ H0 R0 H5 R5 E5 _ λar vr H6 R6 E6 t6 hr nr0 nr1 er=>h6 σ H0 R0 H6 R6 E6 _ λv6 H7 R7 E7 t7 q7=>h7 σ H0 R0 H7 R7 E7 _ λv7 H8 R8 E8 t8 q8=>?_
 cases q2;cases q5;cases q7;cases q8
 subst ef;subst et;subst er;subst eb
 refine ⟨by show 8<=sizeLine;decide,λp hp=>?_⟩
 have x9:=Ext.fresh E8.sub hp (.tup [.int m.at_,.ref af,.ref ab,.ref at_,.int m.chain,.ref ar,.int m.used,.int m.idle])
 have u8:=x9.r
 have fb5:R5 ab=_:=t5 _ _ (t4 _ _ fb3)
 have ff5:R5 af=_:=t5 _ _ (t4 _ _ hf)
 have ft5:R5 at_=_:=t5 _ _ ht
 have n1:af≠ab:=λe=>by rw [e] at hf';rw [hf'] at nb0;cases nb0
 have n2:at_≠af:=λe=>by rw [e,hf] at nt0;cases nt0
 have n3:at_≠ab:=λe=>by rw [e,fb3] at nt0;cases nt0
 have n4:ar≠af:=λe=>by rw [e,ff5] at nr0;cases nr0
 have n5:ar≠ab:=λe=>by rw [e,fb5] at nr0;cases nr0
 have n6:ar≠at_:=λe=>by rw [e,ft5] at nr0;cases nr0
 have a58:aj R5 (upd R8 p _):=t6.trans (t7.trans (t8.trans u8))
 refine dr _ _ _ (E8.ext.trans x9) (hT σ H0 R0 _ _ _ (E8.grow x9) ⟨p,af,ab,at_,ar,tf,tb,tt,rfl,⟨λc hc=>?_,?_,aA,a58 _ _ ff5,a58 _ _ fb5,a58 _ _ ft5,t7.trans (t8.trans u8) _ _ hr,ntf.mono (t4.trans (t5.trans a58)),ntb.mono (t4.trans (t5.trans a58)),ntt.mono (t5.trans a58)⟩⟩)
 ·simp only [List.mem_cons,List.mem_singleton,List.not_mem_nil,or_false] at hc
  rcases hc with rfl | rfl | rfl | rfl | rfl
  ·exact E8.ext.h.free hp
  ·exact nf1
  ·exact nb1
  ·exact nt1
  ·exact nr1
 ·simp only [List.nodup_cons,List.mem_cons,List.mem_singleton,List.not_mem_nil,or_false,not_or,not_false_eq_true,List.nodup_nil,and_true]
  exact ⟨⟨n1,Ne.symm n2,Ne.symm n4⟩,⟨Ne.symm n3,Ne.symm n5⟩,Ne.symm n6⟩
theorem ka {P:Hp->Hp->List V->Prop}(h:∀H0 R,P H0 R []):iz X (.List [] pos) Γ P:=λσ H0 R0 H R E Q q=>
 eS (lQ bt) ⟨Nat.zero_le _,λp hp=>by
  have x:=Ext.fresh E.sub hp (.lst [])
  exact q p [] _ _ (E.grow x) x.r aA (E.sub.free hp) (E.ext.h.free hp) (h _ _)⟩
theorem vy {es:List Expr}{k2:Nat}{tp:Pos}{ns:List Int}(he:EA X es Γ ae ns Γ)(hz:ns.length<=sizeLine)(hs:starEach [.Tuple es k2 tp] X.env=(false,eval (.Tuple es k2 tp) X.env)::starEach [] X.env:=by rfl):iz X (.List [.Tuple es k2 tp] pos) Γ (λH0 R vs=>∃ts,vs=ts.map V.ref/\bT H0 R ts [ns]):=λσ H0 R0 H R E Q q=>
 eS (lQ (aE (gu gN) bt hs)) (he σ H0 R0 H R E _ λvs H1 R1 E1 s1 p1=>⟨by rw [p1.length];exact hz,λp hp=>⟨by show 1<=sizeLine;decide,λc hc=>by
  have ev:=eA p1
  subst ev
  have x1:=Ext.fresh E1.sub hp (.tup (ns.map V.int))
  have E2:=E1.grow x1
  have x2:=Ext.fresh E2.sub hc (.lst [.ref p])
  have hRc:R c=none:=by
   cases e:R c with
   | none=>rfl
   | some o=>exact absurd (E2.sub _ _ (x1.r _ _ (s1 _ _ e))) (by rw [hc];exact λz=>by cases z)
  exact q c _ _ _ (E2.grow x2) (s1.trans (x1.r.trans x2.r)) aA hRc (E2.ext.h.free hc) ⟨[p],rfl,.cons ⟨E1.ext.h.free hp,x2.r _ _ aA⟩ .nil⟩⟩⟩)
end
section
variable {P:Program}{w:World}{K:PySem.W.Frag}{mg:Str->Option Value}{base:Heap}{f:Addr}{fd:FuncData}{C:Addr}
abbrev m8:Stmt:=top mP
abbrev AB:List Str:=["machine","boxes"]
theorem yA:aR AB ["machine"] (aq m8):=⟨rfl,rfl,rfl,by decide +kernel,rfl,by decide +kernel,by decide +kernel⟩
def dO (D:List (Int×Int)):List (Int×Int):=(sortI (D.map (·.1))).map λk=>(k,(dG D k).getD 0)
def mj:iU Fs:=λK s ps T=>∃(a:ib) (m:bP),s=aQ a m/\ps=[]/\m.boxes.length < 64/\T=λs' H0 v H' R'=>s'=aQ a m/\my {m with boxes:=dO m.boxes} H0 v H' R'
theorem yn {D:List (Int×Int)}{k:Int}(h:k∈D.map (·.1)):∃n,dG D k=some n:=by
 induction D with
 | nil=>cases h
 | cons p r ih=>
   obtain ⟨q,n⟩:=p
   rw [dG]
   by_cases e:q=k
   ·exact ⟨n,if_pos e⟩
   ·rw [if_neg e]
    rw [List.map_cons] at h
    rcases List.mem_cons.mp h with z | z
    ·exact absurd z.symm e
    ·exact ih z
theorem zH (M:bU K mg)(HC:cf K C fns)(CT:aU P w K mg base "triples" 1 (aZ wj K))(F:bL K "state_of" "state_of" m8 f fd)(hm:mg "state_of"=some (.ref f))(hb:Binds K fd ["machine"] []):aU P w K mg base "state_of" 2 (dR (aB C) mj K):=by
 have nd:=yA.nd
 have ndc:List.Nodup [("box":Str),"machine"]:=by decide
 refine fU F yA hm hb (λs qs T ⟨a,m,_,e,_⟩=>by rw [e];rfl) (λcdv A outer s H E x l u qs T hr hS=>?_)
 obtain ⟨a,m,rfl,rfl,h64,rfl⟩:=hS
 have hu0:(A.deeper (envOfC "state_of" (aq m8) s.heap.objs.size f cdv)).units + 1 < cLine:=Nat.lt_of_le_of_lt (Nat.add_le_add_left (by decide:1<=64) _) hr.units
 change WS _ _ [.ob ((aB C).bx (x::l) (aQ a m)),.no] _ _
 refine ao (wm 1 (own:=["box"]) (fr:=["machine"]) (ix:=[0]) (f:=λk=>[k,(dG m.boxes k).getD 0]) (Γ1:=[.ob ((aB C).bx (x::l) (aQ a m)),.no]) (λσ H0 R0 H R E=>w9 (i:=0) rfl σ H0 R0 H R E) (eD (so:=aq m8) (N0:=AB) rfl rfl (λx h=>cW h) (by decide +kernel)) (i6 (bW.im (qO 0 HC (aK (by decide)) M.sorted rfl px h64)))
  (λC s H ex=>dJ 0) (λx=>⟨.inr rfl,.inl rfl,trivial⟩) (λC s H ex k hk=>?_) (λx hx=>by show 2<=sizeLine;decide) (λab tb=>?_))
 ·have hk':k∈m.boxes.map (·.1):=(List.mergeSort_perm _ _).mem_iff.mp hk
  obtain ⟨n,hn⟩:=yn hk'
  rw [hn]
  exact ay (aa 0 rfl) (ay (uN 1 hu0 HC (aK (by decide)) (aa 0 rfl) rfl px hn) aM)
 ·have e:(sortI (m.boxes.map (·.1))).map (λk=>[k,(dG m.boxes k).getD 0])=(dO m.boxes).map pr:=by unfold dO;rw [List.map_map];rfl
  rw [e]
  change WS _ _ [.ob ((aB C).bx (x::l) (aQ a m)),.ob (m5 ab tb ((dO m.boxes).map pr))] _ _
  refine ah (wd 1 (m:={m with boxes:=dO m.boxes}) (λσ H0 R0 H' R' v E' t=>?_) rfl (dy 0 HC (aK (by decide)) rfl gD) (rm.AI (jQ 0 CT hr HC (aK (by decide)) rfl iV ⟨_,rfl,rfl⟩)) (rm.AI (jQ 0 CT hr HC (aK (by decide)) rfl xJ ⟨_,rfl,rfl⟩)) (dy 0 HC (aK (by decide)) rfl lH) (tw (qv 0 HC (aK (by decide)) M.list rfl kf)) (dy 0 HC (aK (by decide)) rfl oV) (dy 0 HC (aK (by decide)) rfl oj))
  obtain ⟨ea,hB,hR⟩:=gp (B:=aB C) (E'.ent 0 _ rfl)
  exact ⟨_,x,l,rfl,hB,hR,rfl,t⟩
abbrev tF:Stmt:=top sJ
theorem xo:aR [] [] (aq tF):=⟨rfl,rfl,rfl,by decide +kernel,rfl,by decide +kernel,by decide +kernel⟩
def m0:bP:=⟨0,[(-1,0,0)],[],[],0,[],0,0⟩
def yU:cE:=λK ps T=>ps=[]/\T=my m0
theorem zD (M:bU K mg)(F:bL K "begun" "begun" tF f fd)(hm:mg "begun"=some (.ref f))(hb:Binds K fd [] []):aU P w K mg base "begun" 1 (aZ yU K):=by
 have nd:=xo.nd
 obtain ⟨t1,h1⟩:=M.nowhere
 refine cI F xo hm hb (λqs T ⟨e,_⟩=>by rw [e];rfl) (λcdv A outer s H E qs T hr hS=>?_)
 obtain ⟨rfl,rfl⟩:=hS
 change WS _ _ [] _ _
 exact ah (uM (m:=m0) (λσ H0 R0 H' R' v E' t=>t) (ka λH0 R=>⟨[],rfl,.nil⟩) ag (vy (ay (j6 h1) (ay ag (ay ag aM))) dB) (ka λH0 R=>⟨[],rfl,.nil⟩) ag (ka λH0 R=>rfl) ag ag)
end
theorem boot_bool:bootBuiltins "bool"=some (.type "bool"):=by decide +kernel
section
variable {P:Program}{w:World}{K:PySem.W.Frag}{mg:Str->Option Value}{base:Heap}{f:Addr}{fd:FuncData}{C:Addr}
abbrev rf:Stmt:=top mU
theorem oi:aR ["value"] ["value"] (aq rf):=⟨rfl,rfl,rfl,by decide +kernel,rfl,by decide +kernel,by decide +kernel⟩
def ur:cE:=λK ps T=>∃x:Int,ps=[⟨ae,x⟩]/\T=cB K bq (· =true)
theorem zS (M:bU K mg)(F:bL K "is_whole" "is_whole" rf f fd)(hm:mg "is_whole"=some (.ref f))(hb:Binds K fd ["value"] []):aU P w K mg base "is_whole" 1 (aZ ur K):=by
 have nd:=oi.nd
 refine cI F oi hm hb (λqs T ⟨x,e,_⟩=>by rw [e];rfl) (λcdv A outer s H E qs T hr hS=>?_)
 obtain ⟨x,rfl,rfl⟩:=hS
 exact ah (aT (cC (aF M.isinstance M.int PyProof.Rows.boot_int (aa 0 rfl) ty_int) (λ_=>dD (gJ (aF M.isinstance M.bool boot_bool (aa 0 rfl) ty_int)))) rfl)
abbrev qw:Stmt:=top mq
theorem wk:aR ["values"] ["values"] (aq qw):=⟨rfl,rfl,rfl,by decide +kernel,rfl,by decide +kernel,by decide +kernel⟩
def AN:cE:=λK ps T=>(∃ns:List Int,ps=[⟨ai ae,ns⟩])/\T=cB K bq (· =true)
theorem yV {α:Type}(xs:List α):((xs.filter λ_=>true).map λ_=>true).all id=true:=by
 rw [List.all_eq_true];intro b hb
 obtain ⟨_,_,rfl⟩:=List.mem_map.mp hb;rfl
theorem z0 (M:bU K mg)(CI:aU P w K mg base "is_whole" 1 (aZ ur K))(F:bL K "are_whole" "are_whole" qw f fd)(hm:mg "are_whole"=some (.ref f))(hb:Binds K fd ["values"] []):aU P w K mg base "are_whole" 2 (aZ AN K):=by
 have nd:=wk.nd
 have ndc:List.Nodup [("value":Str)]:=by decide
 refine cI F wk hm hb (λqs T ⟨⟨_,e⟩,_⟩=>by rw [e];rfl) (λcdv A outer s H E qs T hr hS=>?_)
 obtain ⟨⟨ns,rfl⟩,rfl⟩:=hS
 exact ah (aT (jG M.all (bW.im (h9 (own:=["value"]) (fr:=[]) (ix:=[]) (p:=λ_=>true) (f:=λ_=>true) (eD (so:=aq qw) (N0:=["values"]) rfl rfl (λx h=>cW h) (by decide +kernel)) (i6 (aa 0 rfl))
  (λC s H ex=>dJ 0) (λx=>⟨.inr rfl,trivial⟩) (λC s H ex x hx=>gc) (λC s H ex x hx _=>bK CI hr (au (aa 0 rfl) aG) ⟨_,rfl,rfl⟩)))) (yV ns))
abbrev rA:Stmt:=top jY
abbrev ue:List Str:=["answers","bound"]
theorem xI:aR ue ue (aq rA):=⟨rfl,rfl,rfl,by decide +kernel,rfl,by decide +kernel,by decide +kernel⟩
def oS (ans:List Int):Bool:=((ans.filter λ_=>true).map λa=>decide (0<=a)&&decide (a<=1)).all id
def x3:cE:=λK ps T=>∃(ans:List Int) (bound:Int),ps=[⟨ai ae,ans⟩,⟨ae,bound⟩]/\oS ans=true/\0<=bound/\T=cB K dm (λ_=>True)
theorem Aq (M:bU K mg)(CI:aU P w K mg base "is_whole" 1 (aZ ur K))(CA:aU P w K mg base "are_whole" 2 (aZ AN K))(F:bL K "need_answers" "need_answers" rA f fd)(hm:mg "need_answers"=some (.ref f))(hb:Binds K fd ue []):aU P w K mg base "need_answers" 3 (aZ x3 K):=by
 have nd:=xI.nd
 have ndc:List.Nodup [("answer":Str)]:=by decide
 refine qV F xI hm hb (λqs T ⟨_,_,e,_⟩=>by rw [e];rfl) (λcdv A outer s H E qs T hr hS=>?_)
 obtain ⟨ans,bound,rfl,ha,hb,rfl⟩:=hS
 refine ⟨λ_ _ _=>⟨(),rfl,trivial⟩,?_⟩
 change WS _ _ [.im (ai ae) ans,.im ae bound] _ _
 refine ao (aD (TW.tv (bG (aX (aV (aF M.isinstance M.list PyProof.Rows.boot_list (aa 0 rfl) ty_list))) (λ_=>bG (aX (aV (bK CA hr (au (aa 0 rfl) aG) ⟨⟨_,rfl⟩,rfl⟩))) (λ_=>cc (aX (aV (jG M.all (bW.im (h9 (own:=["answer"]) (fr:=[]) (ix:=[]) (p:=λ_=>true) (f:=λa=>decide (0<=a)&&decide (a<=1)) (eD (so:=aq rA) (N0:=ue) rfl rfl (λx h=>cW h) (by decide +kernel)) (i6 (aa 0 rfl))
  (λC s H ex=>dJ 0) (λx=>⟨.inr rfl,trivial⟩) (λC s H ex x hx=>gc) (λC s H ex x hx _=>tD xT xT ag (aa 0 rfl) ag)))))))))) (λh=>?_) (λh=>aJ ?_))
 ·have h2:(false ||(false || !oS ans))=true:=h
  rw [ha] at h2;cases h2
 refine ah (aD (TW.tv (bG (aX (aV (bK (CI.mono (by decide)) hr (au (aa 1 rfl) aG) ⟨_,rfl,rfl⟩))) (λ_=>cc (av iu (aa 1 rfl) ag)))) (λh=>?_) (λh=>aJ trivial))
 have h2:(false ||decide (bound < 0))=true:=h
 simp at h2
 omega
end
end K1
namespace Fc
open PySem PySem.Spec L2
open PyProof.Rows hiding St
def g9 (P:Program)(w:World)(K:PySem.W.Frag)(mg:Str->Option Value)(x:Str)(D:List (Str×List Str)):Prop:=
 ∃a o vs,mg x=some (.ref a)/\K.lookup a=some o/\o.IsDictOf (bw P w) vs/\(a==sysModules)=false/\
  PySem.Paired (λ(d:Str×List Str) (p:Key×Value)=>p.1=Sum.inr d.1/\∃b o its n,p.2= .ref b/\K.lookup b=some o/\o.cls= .type "tuple"/\o.data= .seq its n/\its.size<=sizeLine/\Vals (d.2.map V.str) its.toList) D vs
def dZ:List (Str×List Str)->Str->Option (List Str)
 | [],_=>none
 | (k,v)::r,x=>if k=x then some v else dZ r x
theorem oq {K:PySem.W.Frag}{x:Str}:∀{D:List (Str×List Str)} {vs:List (Key×Value)},PySem.Paired (λ(d:Str×List Str) (p:Key×Value)=>p.1=Sum.inr d.1/\∃b o its n,p.2= .ref b/\K.lookup b=some o/\o.cls= .type "tuple"/\o.data= .seq its n/\its.size<=sizeLine/\Vals (d.2.map V.str) its.toList) D vs->
 (dZ D x=none/\valueAt vs (Sum.inr x:Key)=none)∨∃ys b,dZ D x=some ys/\valueAt vs (Sum.inr x:Key)=some (.ref b)/\∃o its n,K.lookup b=some o/\o.cls= .type "tuple"/\o.data= .seq its n/\its.size<=sizeLine/\Vals (ys.map V.str) its.toList
 | _,_,.nil=>.inl ⟨rfl,rfl⟩
 | _,_,.cons (a:=d) (b:=p) h t=>by
   obtain ⟨k,v⟩:=d
   obtain ⟨q,u⟩:=p
   obtain ⟨e1,b,o,its,n,e2,h3⟩:=h
   have e1:q=Sum.inr k:=e1
   have e2:u=Value.ref b:=e2
   subst e1;subst e2
   rw [dZ]
   unfold valueAt
   rw [List.find?_cons]
   by_cases e:k=x
   ·subst e
    rw [if_pos rfl]
    exact .inr ⟨v,b,rfl,by simp,o,its,n,h3⟩
   ·rw [if_neg e]
    have:decide ((Sum.inr k:Key)=Sum.inr x)=false:=decide_eq_false λz=>e (Sum.inr.inj z)
    simp only [this]
    exact oq t
section
variable {X:Cx}{Γ Γ1 Γ2 Γ3:Ga}{α β γ δ:Type}{N:Ga->Prop}{T:RT}
theorem kN {e:Expr}{x:Str}{p1 pos:Pos}{D:List (Str×List Str)}{k:Str}(hD:g9 X.prog X.w X.K X.mg x D)(he:EV X e Γ bS k Γ1)(hg:Gl X x:=by rfl)(hd:(x==("__debug__":Str))=false:=by decide):TV X (.Compare e [.NotIn] [.Name x p1] pos) Γ (!(dZ D k).isSome) Γ1:=by
 intro σ H0 R0 H R E Q q
 obtain ⟨a,o,vs,hm,hk,hdo,hs,hp⟩:=hD
 have pc:PC X .NotIn e (.Name x p1) (λσ H Q=>dj X e σ H λy H1=>y= .str k/\Q (.bl (!(dZ D k).isSome)) H1):=by
  intro pins s σ H Q I h
  refine aI (h pins s I) λiv s1 ⟨y,H1,I1,ry,ey,q1⟩=>aI (eO (v:=.ref a) hg hm rfl hd pins s1 σ H1 (λv H2=>v= .ref a/\H2=H1) I1 ⟨rfl,rfl⟩) λu s2 ⟨y2,H2,I2,ry2,e3,e4⟩=>?_
  subst ey;subst e3;subst e4
  obtain rfl:u=Value.ref a:=ry2
  have dd:s2.heap.DictOf (bw X.prog X.w) a vs:=Heap.dictOf_iff.mpr ⟨o,I2.cz a o hk,hdo⟩
  refine wpAny_notIn_of (fF (k:=Sum.inr k) ry) hs dd.mapOf ?_
  rcases oq (x:=k) hp with ⟨h1,h2⟩ | ⟨ys,b,h1,h2,_⟩
  ·rw [h2];rw [h1] at q1;exact ⟨.bl _,_,I2.tok _,rfl,q1⟩
  ·rw [h2];rw [h1] at q1;exact ⟨.bl _,_,I2.tok _,rfl,q1⟩
 refine tS (pU pc (by with_unfolding_all rfl)) (he σ H0 R0 H R E _ λv H1 R1 E1 s1 e1=>⟨e1,_,rfl,q H1 R1 E1 s1⟩)
theorem nD {e:Expr}{x:Str}{p1 pos:Pos}{D:List (Str×List Str)}{k:Str}{ys:List Str}(hD:g9 X.prog X.w X.K X.mg x D)(he:EV X e Γ bS k Γ1)(hy:dZ D k=some ys)(hg:Gl X x:=by rfl)(hd:(x==("__debug__":Str))=false:=by decide)(hsl:lz e:=by exact λ_ _=>rfl):EV X (.Subscript (.Name x p1) e pos) Γ lN ys Γ1:=by
 intro σ H0 R0 H R E Q q
 obtain ⟨a,o,vs,hm,hk,hdo,hs,hp⟩:=hD
 rcases oq (x:=k) hp with ⟨h1,h2⟩ | ⟨ys',b,h1,h2,o',its,n,h3⟩
 ·rw [hy] at h1;cases h1
 rw [hy] at h1;cases h1
 have pe:PE X (.Subscript (.Name x p1) e pos) (λσ H Q=>dj X e σ H λy H1=>y= .str k/\Q (.ref b) H1):=by
  intro pins s σ H Q I h
  refine nN PySem.F.slot_dict_getitem.lookup hsl (aI (eO (v:=.ref a) hg hm rfl hd pins s σ H (λv H2=>v= .ref a/\H2=H) I ⟨rfl,rfl⟩) λu s1 ⟨x1,H1,I1,rx,e3,e4⟩=>aI (h pins s1 (e4▸I1)) λiv s2 ⟨y,H2,I2,ry,ey,q2⟩=>?_)
  subst e3;subst ey
  obtain rfl:u=Value.ref a:=rx
  have dd:s2.heap.DictOf (bw X.prog X.w) a vs:=Heap.dictOf_iff.mpr ⟨o,I2.cz a o hk,hdo⟩
  exact ⟨dd.typeIs,wpAny_getItem_of (fF (k:=Sum.inr k) ry) dd.mapOf h2 ⟨.ref b,H2,I2.tok _,rfl,q2⟩⟩
 exact eS pe (he σ H0 R0 H R E _ λv H1 R1 E1 s1 e1=>⟨e1,q _ H1 R1 E1 s1 ⟨b,rfl,.inr ⟨o',its,n,h3⟩⟩⟩)
end
end Fc
namespace Fc.ZT
open PySem PySem.Spec PyProof.Rows
section
variable {prog:Program}{w:World}{A:Around}{E:Value->Shared->Prop}{s:Shared}
structure Dr (prog:Program) (w:World) (A:Around) (i l:Addr) (its:Array Value) (St:Nat->Heap->Prop):Prop where
 up:∀{k:Nat} {h h':Heap},St k h->(∀b,b=i∨b=l->∀o,h.get? b=some o->h'.get? b=some o)->St k h'
 there:∀{k:Nat} {h:Heap},St k h->i < h.objs.size
 item:∀{k:Nat} {x:Value} {s:Shared} {Q:Value->Shared->Prop} {E:Value->Shared->Prop},St k s.heap->its[k]?=some x->(∀h',St (k + 1) h'->Heap.SameBut i s.heap h'->Q x {s with heap:=h'})->wpAny (model prog w) A (Builtin.SmallTypes.nextOf (.ref i)) Q E s
 done:∀{k:Nat} {s:Shared} {Q:Value->Shared->Prop} {E:Value->Shared->Prop},St k s.heap->its[k]?=none->(∀h' e,Heap.ExtBut i s.heap h'->(∃o,h'.get? e=some o/\o.cls= .type "StopIteration")->E (.ref e) {s with heap:=h'})->wpAny (model prog w) A (Builtin.SmallTypes.nextOf (.ref i)) Q E s
theorem eM {i l:Addr}{its:Array Value}(hh:A.handled=none)(hne:i≠l):Dr prog w A i l its (λk h=>h.IsTupleIter i l k/\h.IsTuple l its) where
 up:=λ⟨⟨o,ho,r⟩,⟨o',ho',r'⟩⟩ hk=>⟨⟨o,hk _ (.inl rfl) o ho,r⟩,⟨o',hk _ (.inr rfl) o' ho',r'⟩⟩
 there:=λ⟨⟨o,ho,_⟩,_⟩=>Heap.lt_size ho
 item:=λ{k x s Q E} ⟨hit,ht⟩ hx hQ=>by
  obtain ⟨o,ho,hc,hd⟩:=id hit
  obtain ⟨ol,hol,_,nl,hdl⟩:=id ht
  unfold Builtin.SmallTypes.nextOf
  refine wpAny_bind (wpAny_callSpecial?_slot (name:=Str.ofString "__next__") hit.typeIs F.slot_tuple_iterator_next
   (wpAny_call_entry F.slot_tuple_iterator_next hit.typeIs F.entry_tuple_iterator_next ?_ (F.args_tuple_iterator_next_1 _)))
  show wpAny _ _ (field (.ref i) 0 >>=_) _ _ s
  refine wpAny_bind (wpAny_field ho hd (x:=.ref l) rfl ?_)
  refine wpAny_ite ?_
  rw [if_neg (show¬((Value.ref l==Value.none)=true) from Bool.false_ne_true)]
  show wpAny _ _ (field (.ref i) 1 >>=_) _ _ s
  refine wpAny_bind (wpAny_field ho hd (x:=.int k 0) rfl ?_)
  show wpAny _ _ (seqItems? (.ref l) >>=_) _ _ s
  refine wpAny_bind (wpAny_seqItems hol hdl ?_)
  simp only [Int.toNat_natCast,hx]
  have hs:=Heap.SameBut.update s.heap i (λo=>o.mapFields λa=>a.setIfInBounds 1 (rawInt (k + 1)))
  refine wpAny_bind (wpAny_setField ho hd (by simp) (wpAny_pure ⟨x,rfl,wpAny_pure (hQ _ ⟨?_,ht.extBut (Heap.SameBut.update ..).extBut (Ne.symm hne)⟩ (Heap.SameBut.update ..))⟩))
  exact ⟨_,Heap.get?_update_self _ ho (Obj.isFreed_of_fields (Obj.data_mapFields hd _)),(Obj.cls_mapFields ..).trans hc,by rw [Obj.data_mapFields hd];simp [rawInt]⟩
 done:=λ{k s Q E} ⟨hit,ht⟩ hx hE=>by
  obtain ⟨o,ho,hc,hd⟩:=id hit
  obtain ⟨ol,hol,_,nl,hdl⟩:=id ht
  unfold Builtin.SmallTypes.nextOf
  refine wpAny_bind (wpAny_callSpecial?_slot (name:=Str.ofString "__next__") hit.typeIs F.slot_tuple_iterator_next
   (wpAny_call_entry F.slot_tuple_iterator_next hit.typeIs F.entry_tuple_iterator_next ?_ (F.args_tuple_iterator_next_1 _)))
  show wpAny _ _ (field (.ref i) 0 >>=_) _ _ s
  refine wpAny_bind (wpAny_field ho hd (x:=.ref l) rfl ?_)
  refine wpAny_ite ?_
  rw [if_neg (show¬((Value.ref l==Value.none)=true) from Bool.false_ne_true)]
  show wpAny _ _ (field (.ref i) 1 >>=_) _ _ s
  refine wpAny_bind (wpAny_field ho hd (x:=.int k 0) rfl ?_)
  show wpAny _ _ (seqItems? (.ref l) >>=_) _ _ s
  refine wpAny_bind (wpAny_seqItems hol hdl ?_)
  simp only [Int.toNat_natCast,hx]
  refine wpAny_bind (wpAny_rule (wpAny_bind (wpAny_setField ho hd (by simp) ?_)))
  show wpAny _ _ (newExc (.type "StopIteration") [] >>=_) _ _ _
  refine wpAny_bind ?_
  simp only [newExc,newTuple]
  refine wpAny_bind (wpAny_newObj_type ?_ (by size_fits))
  refine wpAny_bind (m:=firstArgMember _ _) (wpAny_of_eq (a:=Value.none) (by first | rfl | (simp only [firstArgMember];rfl)) ?_)
  refine wpAny_newObj_type ?_ (by size_fits)
  simp only [raiseNew]
  refine wpAny_bind (wpAny_handled ?_)
  first | rw [show A.in1.handled=none from hh] | rw [hh]
  refine wpAny_bind (wpAny_pure (wpAny_throw ?_))
  exact hE _ _ (((Heap.SameBut.update ..).extBut.push _).push _) ⟨_,Heap.get?_push_size _ rfl,rfl⟩
section
variable {z TI TO i1 i2 l1 l2:Addr}{k1 k2:Nat}{xs ys:Array Value}{x y a b:Value}{S1 S2:Nat->Heap->Prop}
theorem up1 {i l c:Addr}{its:Array Value}{St:Nat->Heap->Prop}(d:Dr prog w A i l its St){k:Nat}{h h':Heap}(hs:St k h)(e:Heap.ExtBut c h h')(h1:i≠c)(h2:l≠c):St k h':=d.up hs λb hb o q=>e b o (by rcases hb with rfl | rfl<;>assumption) q
theorem vG {Q:Value->Shared->Prop}(D:ZipApart z TI TO i1 i2 l1 l2)(d1:Dr prog w A i1 l1 xs S1)(d2:Dr prog w A i2 l2 ys S2)
 (hz:IsZip s.heap z TI TO .none) (hTI:IsPair s.heap TI (.ref i1) (.ref i2)) (hTO:IsPair s.heap TO a b) (h1:S1 k1 s.heap) (h2:S2 k2 s.heap) (hx:xs[k1]?=some x) (hy:ys[k2]?=some y)
 (hQ:∀h',IsZip h' z TI TO (rawInt s.heap.objs.size)->IsPair h' TO x y->S1 (k1 + 1) h'->S2 (k2 + 1) h'->IsPair h' s.heap.objs.size x y->(∀c o,c≠z->c≠TO->c≠i1->c≠i2->s.heap.get? c=some o->h'.get? c=some o)->Q (.ref s.heap.objs.size) {s with heap:=h'}):
 wpAny (model prog w) A (Builtin.«zip.__next__» ⟨[.ref z],[]⟩) (λfin s'=>∃v,fin= .done (.ret v)/\Q v s') E s:=by
 show wpAny _ _ (field (.ref z) 2 >>=_) _ _ _
 refine wpAny_bind (wpAny_field hz rfl (x:=.bool false) rfl ?_)
 show wpAny _ _ (field (.ref z) 3 >>=_) _ _ _
 refine wpAny_bind (wpAny_field hz rfl (x:=.ref TI) rfl (wpAny_bind (wpAny_seqItems hTI rfl ?_)))
 show wpAny _ _ (Builtin.SmallTypes.ownedTupleIsFree (.ref z) >>=_) _ _ _
 refine wpAny_bind ?_
 unfold Builtin.SmallTypes.ownedTupleIsFree
 refine wpAny_bind (wpAny_field hz rfl (x:=.none) rfl (wpAny_pure ?_))
 simp only [if_true]
 refine wpAny_bind (wpAny_rule (wpAny_bind (wpAny_field hz rfl (x:=.ref TO) rfl (wpAny_bind (wpAny_setField_rec hz (by simp) λha hza hsa=>?_)))))
 replace hza:IsZip ha z TI TO .ellipsis:=hza
 refine wpAny_bind ?_
 simp only [List.zipIdx_cons,List.zipIdx_nil,List.forIn_cons,List.forIn_nil]
 refine wpAny_bind (wpAny_bind (wpAny_onRaise ?_))
 show wpAny _ _ (Builtin.SmallTypes.nextOf (.ref i1) >>=_) _ _ _
 have g1:S1 k1 ha:=up1 d1 h1 hsa.extBut D.i1z D.l1z
 have g2:S2 k2 ha:=up1 d2 h2 hsa.extBut D.i2z D.l2z
 refine wpAny_bind (d1.item g1 hx λhb n1 hsb=>wpAny_pure ?_)
 have tb:IsPair hb TO a b:=hsb.extBut _ _ D.TOi1 (hsa.extBut _ _ D.TOz hTO)
 refine wpAny_bind (wpAny_seqItems tb rfl (wpAny_bind (wpAny_updateSeq_pair tb λhc tc hsc=>?_)))
 replace tc:IsPair hc TO x b:=tc
 refine wpAny_bind (wpAny_letGo (wpAny_pure ?_))
 refine wpAny_bind (wpAny_bind (wpAny_onRaise ?_))
 show wpAny _ _ (Builtin.SmallTypes.nextOf (.ref i2) >>=_) _ _ _
 have g2c:S2 k2 hc:=up1 d2 (up1 d2 g2 hsb.extBut D.i12.symm D.l2i1) hsc.extBut D.TOi2.symm D.l2TO
 refine wpAny_bind (d2.item g2c hy λhd n2 hsd=>wpAny_pure ?_)
 have td:IsPair hd TO x b:=hsd.extBut _ _ D.TOi2 tc
 refine wpAny_bind (wpAny_seqItems td rfl (wpAny_bind (wpAny_updateSeq_pair td λhe te hse=>?_)))
 replace te:IsPair he TO x y:=te
 refine wpAny_bind (wpAny_letGo (wpAny_pure (wpAny_pure ?_)))
 refine wpAny_bind (wpAny_seqItems te rfl (wpAny_bind (wpAny_newTuple ?_)))
 have hsz:he.objs.size=s.heap.objs.size:=by rw [hse.1,hsd.1,hsc.1,hsb.1,hsa.1]
 have ze:IsZip he z TI TO .ellipsis:=hse.extBut _ _ D.TOz.symm (hsd.extBut _ _ D.i2z.symm (hsc.extBut _ _ D.TOz.symm (hsb.extBut _ _ D.i1z.symm hza)))
 have ke:∀c o,c≠z->c≠TO->c≠i1->c≠i2->s.heap.get? c=some o->he.get? c=some o:=λc o c1 c2 c3 c4 e=>
  hse.extBut _ _ c2 (hsd.extBut _ _ c4 (hsc.extBut _ _ c2 (hsb.extBut _ _ c3 (hsa.extBut _ _ c1 e))))
 have m1:S1 (k1 + 1) he:=up1 d1 (up1 d1 (up1 d1 n1 hsc.extBut D.TOi1.symm D.l1TO) hsd.extBut D.i12 D.l1i2) hse.extBut D.TOi1.symm D.l1TO
 have m2:S2 (k2 + 1) he:=up1 d2 n2 hse.extBut D.TOi2.symm D.l2TO
 have hzlt:z < he.objs.size:=Heap.lt_size ze
 show wpAny _ _ (Builtin.SmallTypes.ownedTupleHandOut (.ref z) (.ref he.objs.size) >>=_) _ _ _
 refine wpAny_bind ?_
 unfold Builtin.SmallTypes.ownedTupleHandOut
 have zf:IsZip (he.push {cls:=.type "tuple",data:=.seq #[x,y]}) z TI TO .ellipsis:=Heap.get?_push_of_some _ ze
 refine wpAny_bind (wpAny_setField_rec zf (by simp) λhg zg hsg=>?_)
 replace zg:IsZip hg z TI TO (rawInt he.objs.size):=zg
 refine wpAny_setField_rec zg (by simp) λhj zj hsj=>?_
 replace zj:IsZip hj z TI TO (rawInt he.objs.size):=zj
 have up:∀c o,c≠z->he.get? c=some o->hj.get? c=some o:=λc o c1 e=>hsj.extBut _ _ c1 (hsg.extBut _ _ c1 (Heap.get?_push_of_some _ e))
 have tj:IsPair hj he.objs.size x y:=hsj.extBut _ _ (Nat.ne_of_gt hzlt) (hsg.extBut _ _ (Nat.ne_of_gt hzlt) (Heap.get?_push_size _ rfl))
 rw [hsz] at zj tj
 refine wpAny_pure ⟨_,rfl,?_⟩
 show Q (.ref he.objs.size) _
 rw [hsz]
 exact hQ hj zj (up _ _ D.TOz te) (d1.up m1 λc hc o e=>up c o (hc.elim (λq=>by rw [q];exact D.i1z) λq=>by rw [q];exact D.l1z) e) (d2.up m2 λc hc o e=>up c o (hc.elim (λq=>by rw [q];exact D.i2z) λq=>by rw [q];exact D.l2z) e) tj λc o c1 c2 c3 c4 e=>up c o c1 (ke c o c1 c2 c3 c4 e)
theorem wL {Q:PySem.Fin->Shared->Prop}(D:ZipApart z TI TO i1 i2 l1 l2)(d1:Dr prog w A i1 l1 xs S1)(d2:Dr prog w A i2 l2 ys S2)
 (hz:IsZip s.heap z TI TO .none) (hTI:IsPair s.heap TI (.ref i1) (.ref i2)) (hTO:IsPair s.heap TO a b) (h1:S1 k1 s.heap) (h2:S2 k2 s.heap) (hend:xs[k1]?=none∨ys[k2]?=none)
 (hE:∀h' e,(∀c o,c≠z->c≠TO->c≠i1->c≠i2->s.heap.get? c=some o->h'.get? c=some o)->(∃o,h'.get? e=some o/\o.cls= .type "StopIteration")->E (.ref e) {s with heap:=h'}):
 wpAny (model prog w) A (Builtin.«zip.__next__» ⟨[.ref z],[]⟩) Q E s:=by
 show wpAny _ _ (field (.ref z) 2 >>=_) _ _ _
 refine wpAny_bind (wpAny_field hz rfl (x:=.bool false) rfl ?_)
 show wpAny _ _ (field (.ref z) 3 >>=_) _ _ _
 refine wpAny_bind (wpAny_field hz rfl (x:=.ref TI) rfl (wpAny_bind (wpAny_seqItems hTI rfl ?_)))
 show wpAny _ _ (Builtin.SmallTypes.ownedTupleIsFree (.ref z) >>=_) _ _ _
 refine wpAny_bind ?_
 unfold Builtin.SmallTypes.ownedTupleIsFree
 refine wpAny_bind (wpAny_field hz rfl (x:=.none) rfl (wpAny_pure ?_))
 simp only [if_true]
 refine wpAny_bind (wpAny_rule (wpAny_bind (wpAny_field hz rfl (x:=.ref TO) rfl (wpAny_bind (wpAny_setField_rec hz (by simp) λha hza hsa=>?_)))))
 replace hza:IsZip ha z TI TO .ellipsis:=hza
 refine wpAny_bind ?_
 simp only [List.zipIdx_cons,List.zipIdx_nil,List.forIn_cons,List.forIn_nil]
 refine wpAny_bind (wpAny_bind (wpAny_onRaise ?_))
 show wpAny _ _ (Builtin.SmallTypes.nextOf (.ref i1) >>=_) _ _ _
 have g1:S1 k1 ha:=up1 d1 h1 hsa.extBut D.i1z D.l1z
 have g2:S2 k2 ha:=up1 d2 h2 hsa.extBut D.i2z D.l2z
 cases hx:xs[k1]? with
 | none=>
   refine wpAny_bind (d1.done g1 hx λhb e hsb he=>?_)
   obtain ⟨oe,hoe,hce⟩:=he
   have zb:IsZip hb z TI TO .ellipsis:=hsb _ _ D.i1z.symm hza
   have hez:e≠z:=λq=>by subst q;rw [zb] at hoe;cases hoe;simp at hce
   exact wpAny_setField_rec zb (by simp) λhc _ hsc=>hE hc e (λc o c1 _ c3 _ q=>hsc.extBut _ _ c1 (hsb _ _ c3 (hsa.extBut _ _ c1 q))) ⟨oe,hsc.extBut _ _ hez hoe,hce⟩
 | some x=>
   have hy:ys[k2]?=none:=by rcases hend with q | q;rw [hx] at q;cases q;exact q
   refine wpAny_bind (d1.item g1 hx λhb n1 hsb=>wpAny_pure ?_)
   have tb:IsPair hb TO a b:=hsb.extBut _ _ D.TOi1 (hsa.extBut _ _ D.TOz hTO)
   refine wpAny_bind (wpAny_seqItems tb rfl (wpAny_bind (wpAny_updateSeq_pair tb λhc tc hsc=>?_)))
   refine wpAny_bind (wpAny_letGo (wpAny_pure ?_))
   refine wpAny_bind (wpAny_bind (wpAny_onRaise ?_))
   show wpAny _ _ (Builtin.SmallTypes.nextOf (.ref i2) >>=_) _ _ _
   have g2c:S2 k2 hc:=up1 d2 (up1 d2 g2 hsb.extBut D.i12.symm D.l2i1) hsc.extBut D.TOi2.symm D.l2TO
   refine wpAny_bind (d2.done g2c hy λhd e hsd he=>?_)
   obtain ⟨oe,hoe,hce⟩:=he
   have zd:IsZip hd z TI TO .ellipsis:=hsd _ _ D.i2z.symm (hsc.extBut _ _ D.TOz.symm (hsb.extBut _ _ D.i1z.symm hza))
   have hez:e≠z:=λq=>by subst q;rw [zd] at hoe;cases hoe;simp at hce
   exact wpAny_setField_rec zd (by simp) λhe _ hse=>hE he e (λc o c1 c2 c3 c4 q=>hse.extBut _ _ c1 (hsd _ _ c4 (hsc.extBut _ _ c2 (hsb.extBut _ _ c3 (hsa.extBut _ _ c1 q))))) ⟨oe,hse.extBut _ _ hez hoe,hce⟩
theorem vk {Q:Option Value->Shared->Prop}(D:ZipApart z TI TO i1 i2 l1 l2)(d1:Dr prog w A.in1 i1 l1 xs S1)(d2:Dr prog w A.in1 i2 l2 ys S2)
 (hz:IsZip s.heap z TI TO .none) (hTI:IsPair s.heap TI (.ref i1) (.ref i2)) (hTO:IsPair s.heap TO a b) (h1:S1 k1 s.heap) (h2:S2 k2 s.heap) (hx:xs[k1]?=some x) (hy:ys[k2]?=some y)
 (hQ:∀h',IsZip h' z TI TO (rawInt s.heap.objs.size)->IsPair h' TO x y->S1 (k1 + 1) h'->S2 (k2 + 1) h'->IsPair h' s.heap.objs.size x y->(∀c o,c≠z->c≠TO->c≠i1->c≠i2->s.heap.get? c=some o->h'.get? c=some o)->Q (some (.ref s.heap.objs.size)) {s with heap:=h'}):
 wpAny (model prog w) A (pyNext (.ref z)) Q E s:=by
 have hT:s.TypeIs (.ref z) "zip":=⟨_,hz,rfl⟩
 unfold pyNext
 exact wpAny_bind (wpAny_attempt (wpAny_callSpecial?_slot (name:=Str.ofString "__next__") hT F.slot_zip_next (wpAny_call_entry F.slot_zip_next hT F.entry_zip_next (vG D d1 d2 hz hTI hTO h1 h2 hx hy λh' a1 a2 a3 a4 a5 a6=>wpAny_pure (hQ h' a1 a2 a3 a4 a5 a6)) (F.args_zip_next_1 _))))
theorem wZ {Q:Option Value->Shared->Prop}(D:ZipApart z TI TO i1 i2 l1 l2)(d1:Dr prog w A.in1 i1 l1 xs S1)(d2:Dr prog w A.in1 i2 l2 ys S2)
 (hz:IsZip s.heap z TI TO .none) (hTI:IsPair s.heap TI (.ref i1) (.ref i2)) (hTO:IsPair s.heap TO a b) (h1:S1 k1 s.heap) (h2:S2 k2 s.heap) (hend:xs[k1]?=none∨ys[k2]?=none)
 (hQ:∀h',(∀c o,c≠z->c≠TO->c≠i1->c≠i2->s.heap.get? c=some o->h'.get? c=some o)->Q none {s with heap:=h'}):wpAny (model prog w) A (pyNext (.ref z)) Q E s:=by
 have hT:s.TypeIs (.ref z) "zip":=⟨_,hz,rfl⟩
 unfold pyNext
 refine wpAny_bind (wpAny_attempt (wpAny_callSpecial?_slot (name:=Str.ofString "__next__") hT F.slot_zip_next (wpAny_call_entry F.slot_zip_next hT F.entry_zip_next (wL D d1 d2 hz hTI hTO h1 h2 hend λh' e hk he=>?_) (F.args_zip_next_1 _))))
 obtain ⟨o,ho,hc⟩:=he
 exact wpAny_bind (wpAny_isInstance (T:="StopIteration") (b:=true) ⟨o,ho,hc⟩ isSubtype_stop (wpAny_pure (hQ _ hk)))
end
end
end Fc.ZT
namespace Fc
open PySem PySem.Spec L2
open PyProof.Rows hiding St
section
variable {X:Cx}{Γ Γ1 Γ2 Γ3:Ga}{α β γ δ:Type}{N:Ga->Prop}{T:RT}
structure lV (z TI TO i1 i2:Addr):Prop where
 TIz:TI≠z
 TOz:TO≠z
 i1z:i1≠z
 i2z:i2≠z
 TITO:TI≠TO
 TIi1:TI≠i1
 TIi2:TI≠i2
 TOi1:TO≠i1
 TOi2:TO≠i2
 i12:i1≠i2
theorem ji {a b:Nat}(h:a < b∨b < a): @Ne Addr a b:=h.elim Nat.ne_of_lt Nat.ne_of_gt
theorem yy (n:Nat):lV (n + 4) (n + 2) (n + 3) n (n + 1):=⟨ji (by omega),ji (by omega),ji (by omega),ji (by omega),ji (by omega),ji (by omega),ji (by omega),ji (by omega),ji (by omega),ji (by omega)⟩
theorem qq {xs:List α}{ys:List β}{i:Nat}{q:α×β}(h:(xs.zip ys)[i]?=some q):xs[i]?=some q.1/\ys[i]?=some q.2:=by
 rw [List.getElem?_zip_eq_some] at h
 exact h
end
end Fc
namespace Fc.ZT
open PySem PySem.Spec PyProof.Rows
abbrev zh (h:Heap)(l1 l2:Addr):Heap:=((((h.push {cls:=.type "tuple_iterator",data:=.fields #[.ref l1,.int 0 0]}).push {cls:=.type "tuple_iterator",data:=.fields #[.ref l2,.int 0 0]}).push {cls:=.type "tuple",data:=.seq #[.ref h.objs.size,.ref (h.objs.size + 1)]}).push {cls:=.type "tuple",data:=.seq #[.none,.none]}).push {cls:=.type "zip",data:=.fields #[.none,.bool false,.bool false,.ref (h.objs.size + 2),.ref (h.objs.size + 3)]}
theorem vK (l1 l2:Addr)(xs ys:Array Value):Meets (Builtin.«zip.__new__» ⟨[.type "zip",.ref l1,.ref l2],[]⟩) (λ_ R s=>s.heap.IsTuple l1 xs/\s.heap.IsTuple l2 ys/\R (.ok (.ret (.ref (s.heap.objs.size + 4)))) {s with heap:=zh s.heap l1 l2}):=
 .of_wp λprog w A R s h=>by
  obtain ⟨hp,g,d,tk,os⟩:=s;obtain ⟨hl1,hl2,h⟩:=h
  have hsub:isSubtype (.type "zip") (.type "zip")=pure true:=by rw [isSubtype_type];kernel_rfl
  have hL1:Heap.IsTuple (Shared.heap ⟨hp,g,d,tk,os⟩) l1 xs:=hl1
  have hL2:Heap.IsTuple (Shared.heap ⟨hp.push {cls:=.type "tuple_iterator",data:=.fields #[.ref l1,.int 0 0]},g,d,tk,os⟩) l2 ys:=Heap.IsTuple.push hl2 _
  wp_walk using wpAny_pyIter_tuple hL1,wpAny_pyIter_tuple hL2
  refine ⟨_,rfl,?_⟩
  simp only [Heap.size_push]
  exact h
section
variable {prog:Program}{w:World}{A:Around}{E:Value->Shared->Prop}{s:Shared}
theorem sQ {l1 l2:Addr}{xs ys:Array Value}{Q:Value->Shared->Prop}(hl1:s.heap.IsTuple l1 xs)(hl2:s.heap.IsTuple l2 ys)
 (h:∀h',IsZip h' (s.heap.objs.size + 4) (s.heap.objs.size + 2) (s.heap.objs.size + 3) .none->IsPair h' (s.heap.objs.size + 2) (.ref s.heap.objs.size) (.ref (s.heap.objs.size + 1))->IsPair h' (s.heap.objs.size + 3) .none .none->h'.IsTupleIter s.heap.objs.size l1 0->h'.IsTupleIter (s.heap.objs.size + 1) l2 0->
  (∀c o,s.heap.get? c=some o->h'.get? c=some o)->Q (.ref (s.heap.objs.size + 4)) {s with heap:=h'}):wpAny (model prog w) A (call (.type "zip") [.ref l1,.ref l2]) Q E s:=by
 refine callType_new F.called_zip (by decide) (F.typeCall_zip_2 _ _) (F.newCall_zip_2 _ _) (λobj=>F.args_object_init_3 obj _ _) F.entry_zip_new (vK l1 l2 xs ys) ⟨hl1,hl2,?_⟩
 have at_:∀(h:Heap) (o:Obj) (n:Nat),h.objs.size=n->o.isFreed=false->(h.push o).get? n=some o:=λh o n e f=>by subst e;exact Heap.get?_push_size _ f
 have g5:=at_ ((((s.heap.push {cls:=.type "tuple_iterator",data:=.fields #[.ref l1,.int 0 0]}).push {cls:=.type "tuple_iterator",data:=.fields #[.ref l2,.int 0 0]}).push {cls:=.type "tuple",data:=.seq #[.ref s.heap.objs.size,.ref (s.heap.objs.size + 1)]}).push {cls:=.type "tuple",data:=.seq #[.none,.none]}) {cls:=.type "zip",data:=.fields #[.none,.bool false,.bool false,.ref (s.heap.objs.size + 2),.ref (s.heap.objs.size + 3)]} (s.heap.objs.size + 4) (by simp [Heap.size_push]) rfl
 have g4:=at_ (((s.heap.push {cls:=.type "tuple_iterator",data:=.fields #[.ref l1,.int 0 0]}).push {cls:=.type "tuple_iterator",data:=.fields #[.ref l2,.int 0 0]}).push {cls:=.type "tuple",data:=.seq #[.ref s.heap.objs.size,.ref (s.heap.objs.size + 1)]}) {cls:=.type "tuple",data:=.seq #[.none,.none]} (s.heap.objs.size + 3) (by simp [Heap.size_push]) rfl
 have g3:=at_ ((s.heap.push {cls:=.type "tuple_iterator",data:=.fields #[.ref l1,.int 0 0]}).push {cls:=.type "tuple_iterator",data:=.fields #[.ref l2,.int 0 0]}) {cls:=.type "tuple",data:=.seq #[.ref s.heap.objs.size,.ref (s.heap.objs.size + 1)]} (s.heap.objs.size + 2) (by simp [Heap.size_push]) rfl
 have g2:=at_ (s.heap.push {cls:=.type "tuple_iterator",data:=.fields #[.ref l1,.int 0 0]}) {cls:=.type "tuple_iterator",data:=.fields #[.ref l2,.int 0 0]} (s.heap.objs.size + 1) (by simp [Heap.size_push]) rfl
 have g1:=at_ s.heap {cls:=.type "tuple_iterator",data:=.fields #[.ref l1,.int 0 0]} s.heap.objs.size rfl rfl
 have p:=@Heap.get?_push_of_some
 exact ⟨⟨_,g5,rfl⟩,h _ g5 (p _ (p _ g3)) (p _ g4) ⟨_,p _ (p _ (p _ (p _ g1))),rfl,rfl⟩ ⟨_,p _ (p _ (p _ g2)),rfl,rfl⟩ λc o x=>p _ (p _ (p _ (p _ (p _ x))))⟩
end
end Fc.ZT
namespace Fc
open PySem PySem.Spec L2
open PyProof.Rows hiding St
section
variable {X:Cx}{Γ Γ1 Γ2 Γ3:Ga}{α β γ δ:Type}{N:Ga->Prop}{T:RT}
variable {es:List Expr}{tp:Pos}
def xk (K:PySem.W.Frag)(a b:Addr):It:=
 ⟨λi H=>∃xs ys x y,bH K H a xs/\bH K H b ys/\xs[i]?=some x/\ys[i]?=some y,
  λi H v H'=>∃p x y,H p=none/\v= .ref p/\H'=upd H p (.tup [x,y])/\(∀xs,bH K H a xs->xs[i]?=some x)/\∀ys,bH K H b ys->ys[i]?=some y,
  λi H=>∃xs ys,bH K H a xs/\bH K H b ys/\(xs.length<=i∨ys.length<=i)⟩
def AE (z TI TO i1 i2 a b:Addr)(i:Nat)(h:Heap):Prop:=
 IsZip h z TI TO .none/\IsPair h TI (.ref i1) (.ref i2)/\(∃u v,IsPair h TO u v)/\h.IsTupleIter i1 a i/\h.IsTupleIter i2 b i/\a≠TO/\b≠TO
theorem tup_ne {h:Heap}{l b:Addr}{its:Array Value}{o:Obj}(p:IsTup h l its)(e:h.get? b=some o)(hc:o.cls≠ .type "tuple"):l≠b:=λz=>by
 obtain ⟨u,e',c,_⟩:=p
 rw [z,e] at e'
 cases e'
 exact hc c
theorem AM {h:Heap}{z TI TO i1 i2 a b:Addr}{i:Nat}{xs ys:Array Value}(F:lV z TI TO i1 i2)(st:AE z TI TO i1 i2 a b i h)(pa:IsTup h a xs)(pb:IsTup h b ys):ZipApart z TI TO i1 i2 a b:=by
 obtain ⟨hz,_,⟨u,v,hTO⟩,⟨o1,e1,c1,_⟩,⟨o2,e2,c2,_⟩,n1,n2⟩:=st
 exact ⟨F.TIz,F.TOz,F.i1z,F.i2z,F.TITO,F.TIi1,F.TIi2,F.TOi1,F.TOi2,F.i12,
  tup_ne pa hz (by simp),n1,tup_ne pa e1 (by rw [c1];simp),tup_ne pa e2 (by rw [c2];simp),
  tup_ne pb hz (by simp),n2,tup_ne pb e1 (by rw [c1];simp),tup_ne pb e2 (by rw [c2];simp)⟩
theorem qL {P:Program}{w:World}{K:PySem.W.Frag}{k:Nat}(a b z TI TO i1 i2:Addr)(F:lV z TI TO i1 i2):Turn P w K (.Tuple es k tp) (xk K a b) [z,TI,TO,i1,i2] z (AE z TI TO i1 i2 a b) where
 mem:=by simp
 obj:=λi h st c hc=>by
  obtain ⟨hz,hTI,⟨u,v,hTO⟩,⟨o1,e1,c1,d1⟩,⟨o2,e2,c2,d2⟩,_⟩:=st
  simp only [List.mem_cons,List.not_mem_nil,or_false] at hc
  rcases hc with rfl | rfl | rfl | rfl | rfl
  ·exact ⟨_,hz,λv q=>by cases q⟩
  ·exact ⟨_,hTI,λv q=>by cases q⟩
  ·exact ⟨_,hTO,λv q=>by cases q⟩
  ·exact ⟨o1,e1,λv q=>by rw [d1] at q;cases q⟩
  ·exact ⟨o2,e2,λv q=>by rw [d2] at q;cases q⟩
 keep:=λi h h' st kk=>by
  obtain ⟨hz,hTI,⟨u,v,hTO⟩,h1,h2,n1,n2⟩:=st
  exact ⟨kk z (by simp) _ hz,kk TI (by simp) _ hTI,⟨u,v,kk TO (by simp) _ hTO⟩,h1.imp λo q=>⟨kk i1 (by simp) o q.1,q.2⟩,h2.imp λo q=>⟨kk i2 (by simp) o q.1,q.2⟩,n1,n2⟩
 item:=by
  intro X hP hw hK hc i pins s σ H E I hf st hg
  subst hP hw hK
  obtain ⟨xs,ys,x,y,hq,hq',hx,hy⟩:=hg
  obtain ⟨its,r,pl,hz⟩:=I.tuple hq
  obtain ⟨its',r',pl',hz'⟩:=I.tuple hq'
  obtain ⟨u,hu,rx⟩:=r.get hx
  obtain ⟨u',hu',ry⟩:=r'.get hy
  have D:=AM F st pl pl'
  have hh:=I.ok.hd hc
  obtain ⟨hz0,hTI,⟨c,d,hTO⟩,h1,h2,n1,n2⟩:=st
  have hn:H s.heap.objs.size=none:=I.hok.fresh (Nat.le_refl _)
  refine ZT.vk D (ZT.eM (A:=X.A.in1) hh (Ne.symm D.l1i1)) (ZT.eM (A:=X.A.in1) hh (Ne.symm D.l2i2)) hz0 hTI hTO ⟨h1,pl⟩ ⟨h2,pl'⟩ (x:=u) (y:=u') (by simpa using hu) (by simpa using hu') λh' a1 a2 a3 a4 a5 hk=>?_
  refine ⟨_,rfl,?_⟩
  refine wpAny_letOwnedTupleGo_zip (s:={s with heap:=h'}) a1 λh3 hz3 hs3=>?_
  have lt:∀{c o},s.heap.get? c=some o->c≠s.heap.objs.size:=λe=>Nat.ne_of_lt (Heap.lt_size e)
  have hk2:∀b o,b∉[z,TI,TO,i1,i2]->s.heap.get? b=some o->h3.get? b=some o:=λb o hb q=>by
   simp only [List.mem_cons,List.not_mem_nil,or_false,not_or] at hb
   exact hs3.extBut b o hb.1 (hk b o hb.1 hb.2.2.1 hb.2.2.2.1 hb.2.2.2.2 q)
  have I1:Inv X pins σ H {s with heap:=h3,toks:=s.toks}:=fK I hk2 hf
  have hT2:h3.get? s.heap.objs.size=some {cls:=.type "tuple",data:=.seq #[u,u']}:=hs3.extBut _ _ (Ne.symm (lt hz0)) a5
  have I2:Inv X pins σ (upd H s.heap.objs.size (.tup [x,y])) {s with heap:=h3,toks:=s.toks}:=
   adopt I1 (I.ia (Nat.le_refl _) hn) (I.sz) ⟨by show 2<=sizeLine;decide,[u,u'],.cons rx (.cons ry .nil),⟨_,hT2,rfl,_,rfl⟩⟩
  refine ⟨.ref s.heap.objs.size,_,I2,rfl,⟨s.heap.objs.size,x,y,hn,rfl,rfl,λzs hzs=>?_,λzs hzs=>?_⟩,⟨hz3,?_,⟨_,_,hs3.extBut _ _ F.TOz a2⟩,a3.1.extBut hs3.extBut F.i1z,a4.1.extBut hs3.extBut F.i2z,n1,n2⟩,λb hb=>?_⟩
  ·rw [I.iM hzs hq];exact hx
  ·rw [I.iM hzs hq'];exact hy
  ·exact hs3.extBut _ _ F.TIz (hk _ _ F.TIz F.TITO F.TIi1 F.TIi2 hTI)
  ·have hlt:b≠s.heap.objs.size:=by
    simp only [List.mem_cons,List.not_mem_nil,or_false] at hb
    rcases hb with rfl | rfl | rfl | rfl | rfl
    ·exact lt hz0
    ·exact lt hTI
    ·exact lt hTO
    ·obtain ⟨_,e,_⟩:=h1;exact lt e
    ·obtain ⟨_,e,_⟩:=h2;exact lt e
   rw [az hlt]
   exact (hf b hb).1
 done:=by
  intro X hP hw hK hc i pins s σ H E I hf st hg
  subst hP hw hK
  obtain ⟨xs,ys,hq,hq',hx⟩:=hg
  obtain ⟨its,r,pl,hz⟩:=I.tuple hq
  obtain ⟨its',r',pl',hz'⟩:=I.tuple hq'
  have D:=AM F st pl pl'
  have hh:=I.ok.hd hc
  obtain ⟨hz0,hTI,⟨c,d,hTO⟩,h1,h2,n1,n2⟩:=st
  have l1:=r.length
  have l2:=r'.length
  refine ZT.wZ D (ZT.eM (A:=X.A.in1) hh (Ne.symm D.l1i1)) (ZT.eM (A:=X.A.in1) hh (Ne.symm D.l2i2)) hz0 hTI hTO ⟨h1,pl⟩ ⟨h2,pl'⟩ (hx.imp (λq=>by simp;omega) λq=>by simp;omega) λh' hk=>⟨rfl,?_⟩
  refine fK (t':=s.toks) I (λb o hb q=>?_) hf
  simp only [List.mem_cons,List.not_mem_nil,or_false,not_or] at hb
  exact hk b o hb.1 hb.2.2.1 hb.2.2.2.1 hb.2.2.2.2 q
 self:=λ_ _ _ _ _ st h=>wpAny_pyIter_zip st.1 h
def Aa (K:PySem.W.Frag)(ta:TA):TI:=λσ H R=>ta σ H λvs H1=>∃a b xs ys,vs=[.ref a,.ref b]/\bH K H1 a xs/\bH K H1 b ys/\R (xk K a b) H1
theorem vD {a b:Expr}{ta:TA}{p pos:Pos}{k:Nat}(hg:Gl X "zip")(hm:X.mg "zip"=none)(ha:PA X [a,b] ta)(hs:starEach [a,b] X.env=[(false,eval a X.env),(false,eval b X.env)]:=by rfl)(hs2:starEach [b] X.env=[(false,eval b X.env)]:=by rfl):PI X (.Tuple es k tp) (.Call (.Name "zip" p) [a,b] [] pos) (Aa X.K ta):=by
 intro pins s σ H R I h
 refine Call_ (gr I hg hm boot_zip (PyProof.Rows.callWith_type1 (aI (ha pos pins s σ H _ I h) λus s1 ⟨vs,H1,I1,r1,q1⟩=>?_) (by rw [hs,hs2]) (by rw [hs2];rfl)))
 obtain ⟨l,l',xs,ys,e,hq,hq',q⟩:=q1
 subst e
 cases r1 with
 | cons r rr=>
   cases rr with
   | cons r' rr=>
     cases rr
     cases r
     cases r'
     obtain ⟨its,_,pl,_⟩:=I1.tuple hq
     obtain ⟨its',_,pl',_⟩:=I1.tuple hq'
     have ll:l < s1.heap.objs.size:=by obtain ⟨o,e,_⟩:=pl;exact Heap.lt_size e
     have ll':l' < s1.heap.objs.size:=by obtain ⟨o,e,_⟩:=pl';exact Heap.lt_size e
     refine ZT.sQ pl pl' λh' a1 a2 a3 a4 a5 hk=>?_
     refine wpAny_pyIter_zip a1 ?_
     have I2:Inv X pins σ H1 {s1 with heap:=h'}:=I1.kept (t':=s1.toks) hk
     have ff:∀b,s1.heap.objs.size<=b->gf X pins H1 b:=λb hb=>I1.ia hb (I1.hok.fresh hb)
     refine ⟨s1.heap.objs.size + 4,[s1.heap.objs.size + 4,s1.heap.objs.size + 2,s1.heap.objs.size + 3,s1.heap.objs.size,s1.heap.objs.size + 1],_,_,H1,rfl,I2,qL l l' _ _ _ _ _ (yy _),⟨a1,a2,⟨_,_,a3⟩,a4,a5,Nat.ne_of_lt (Nat.lt_of_lt_of_le ll (Nat.le_add_right _ 3)),Nat.ne_of_lt (Nat.lt_of_lt_of_le ll' (Nat.le_add_right _ 3))⟩,λb hb=>?_,q⟩
     simp only [List.mem_cons,List.not_mem_nil,or_false] at hb
     rcases hb with rfl | rfl | rfl | rfl | rfl
     ·exact ff _ (Nat.le_add_right _ 4)
     ·exact ff _ (Nat.le_add_right _ 2)
     ·exact ff _ (Nat.le_add_right _ 3)
     ·exact ff _ (Nat.le_refl _)
     ·exact ff _ (Nat.le_add_right _ 1)
theorem nh {a b:Expr}{p pos:Pos}{k:Nat}{xs:List PV}{ys:List Str}(hm:X.mg "zip"=none)(ha:EV X a Γ ak (.tup xs) Γ1)(hb:EV X b Γ1 lN ys Γ2)(hz:xs.length<=sizeLine)(hs:starEach [a,b] X.env=[(false,eval a X.env),(false,eval b X.env)]:=by rfl)(hs2:starEach [b] X.env=[(false,eval b X.env)]:=by rfl)(hg:Gl X "zip":=by rfl):
 IV X (.Tuple es k tp) (.Call (.Name "zip" p) [a,b] [] pos) Γ (i0 ak bS) (xs.zip ys) Γ2:=by
 refine ⟨_,vD hg hm (aE aL (aE aL bt hs2) (by rw [hs,hs2])) hs hs2,λσ H0 R0 H R E Rq q=>ha σ H0 R0 H R E _ λv H1 R1 E1 s1 e1=>hb σ H0 R0 H1 R1 E1 _ λv' H2 R2 E2 s2 e2=>?_⟩
 obtain ⟨b,rfl,hq0⟩:=e2
 cases ak.mono (K:=X.K) s2 e1 with
 | @tup a vs _ hp pp=>
   have up:∀{R' H':Hp},aj R2 R'->aj R' H'->bH X.K H' b (ys.map V.str):=λsR sH=>hq0.imp (λh=>h.imp (λq=>sH _ _ (sR _ _ q)) λ⟨o,q⟩=>⟨o,sH _ _ (sR _ _ q)⟩) id
   refine ⟨a,b,vs,_,rfl,bH.of (E2.sub _ _ hp),up (aj.refl _) E2.sub,q _ H2 R2 E2 (s1.trans s2) (by rw [List.length_zip];exact Nat.le_trans (Nat.min_le_left _ _) hz) λH' R' sR sH i=>⟨λy hy=>?_,λhi=>?_⟩⟩
   ·have hq:bH X.K H' a vs:=bH.of (sH _ _ (sR _ _ hp))
    have hq':=up sR sH
    obtain ⟨e1,e2⟩:=qq hy
    obtain ⟨v,hv,hr⟩:=cV pp.pair e1
    have hv':(ys.map V.str)[i]?=some (V.str y.2):=by rw [List.getElem?_map,e2];rfl
    refine ⟨⟨vs,_,v,_,hq,hq',hv,hv'⟩,λv2 H3 hyl=>?_⟩
    obtain ⟨p,x,x',hpn,rfl,rfl,hy,hy'⟩:=hyl
    have t1:=hy vs hq
    have t2:=hy' _ hq'
    rw [hv] at t1
    rw [hv'] at t2
    cases t1
    cases t2
    have s3:aj R' (upd R' p (.tup [v,.str y.2])):=aj.fresh (sH.free hpn) _
    exact ⟨upd R' p (.tup [v,.str y.2]),Ext.fresh sH hpn _,p,_,_,rfl,aA,(hr.mono sR).mono s3,rfl⟩
   ·refine ⟨vs,_,bH.of (sH _ _ (sR _ _ hp)),up sR sH,?_⟩
    rw [List.length_zip] at hi
    rw [pp.pair.length,List.length_map]
    omega
end
theorem md {X:Cx}{Γ Γ1:Ga}{a:Expr}{p pos:Pos}{xs:List Str}(hm:X.mg "len"=none)(ha:EV X a Γ lN xs Γ1)(hs:starEach [a] X.env=[(false,eval a X.env)]:=by rfl)(hg:Gl X "len":=by rfl):EV X (.Call (.Name "len" p) [a] [] pos) Γ ae (xs.length:Int) Γ1:=by
 intro σ H0 R0 H R E Q q
 refine eS (cj dC hg hm PySem.boot_len (aE aL bt hs) (by decide) (by decide) hs) (ha σ H0 R0 H R E _ λv H1 R1 E1 s1 e1=>?_)
 obtain ⟨b,rfl,h⟩:=e1
 refine ⟨b,_,rfl,.inr (h.imp (λh=>h.imp (λq=>E1.sub _ _ q) λ⟨o,q⟩=>⟨o,E1.sub _ _ q⟩) id),?_⟩
 rw [List.length_map]
 exact q _ H1 R1 E1 s1 rfl
end Fc
namespace K1
open PySem L2 Fc
open PySem.Spec hiding Row
open PyProof.Rows hiding St
def cw:List (Str×List Str):=[("row",["from nought"]),("ask",["from nought","from nought","tuple"]),("jump",["tuple"]),("call",["from nought","tuple","any"]),("back",[]),("count",["from nought"]),("add",["any"]),("tell",["from nought","any"])]
def Ln.eV:Ln->List Str
 | .row _=>["from nought"]
 | .ask _ _ _=>["from nought","from nought","tuple"]
 | .jump _=>["tuple"]
 | .call _ _ _=>["from nought","tuple","any"]
 | .back=>[]
 | .count _=>["from nought"]
 | .add _=>["any"]
 | .tell _ _=>["from nought","any"]
theorem ny (l:Ln):dZ cw l.k=some l.eV:=by cases l<;>rfl
theorem sA (l:Ln):(l.ns.map PV.int).length=l.eV.length:=by cases l<;>rfl
theorem zl (l:Ln):(l.ns.map PV.int).length<=sizeLine:=Nat.le_trans (show _<=3 by cases l<;>simp [Ln.ns]) dB
def cR (v:Int)(x:Str)(n:Int):Bool:=if x="any" then true else decide (v≥0)&&(!decide (x="tuple") ||decide (v < n))
def Ln.ok (n:Int)(l:Ln):Prop:=∀q∈(l.ns.map PV.int).zip l.eV,cR (pH q.1) q.2 n=true
section
variable {P:Program}{w:World}{K:PySem.W.Frag}{mg:Str->Option Value}{base:Heap}{f:Addr}{fd:FuncData}{C:Addr}
abbrev qd:Stmt:=top j3
abbrev tI:List Str:=["value","wanted","size"]
theorem pf:aR tI tI (aq qd):=⟨rfl,rfl,rfl,by decide +kernel,rfl,by decide +kernel,by decide +kernel⟩
def AO:cE:=λK ps T=>∃(v:Int) (x:Str) (n:Int),ps=[⟨ae,v⟩,⟨bS,x⟩,⟨ae,n⟩]/\T=cB K bq (· =cR v x n)
theorem z6 (M:bU K mg)(CI:aU P w K mg base "is_whole" 1 (aZ ur K))(F:bL K "is_number_of" "is_number_of" qd f fd)(hm:mg "is_number_of"=some (.ref f))(hb:Binds K fd tI []):aU P w K mg base "is_number_of" 2 (aZ AO K):=by
 have nd:=pf.nd
 refine cI F pf hm hb (λqs T ⟨_,_,_,e,_⟩=>by rw [e];rfl) (λcdv A outer s H E qs T hr hS=>?_)
 obtain ⟨v,x,n,rfl,rfl⟩:=hS
 change WS _ _ [.im ae v,.im bS x,.im ae n] _ _
 refine ao (aD (aX (aV (bK CI hr (au (aa 0 rfl) aG) ⟨_,rfl,rfl⟩))) (λh=>absurd h (by decide)) (λh=>aJ ?_))
 refine ao (aD (av aY (aa 1 rfl) cA) (λh=>ah (aT bY (by rw [cR,if_pos (of_decide_eq_true h)]))) (λh=>aJ ?_))
 refine ah (aT (cC (f9 jm (aa 0 rfl) ag) (λ_=>dD (uh (f9 oQ (aa 1 rfl) cA) (λ_=>dD (f9 iu (aa 0 rfl) (aa 2 rfl)))))) ?_)
 rw [cR,if_neg (of_decide_eq_false h)]
abbrev iX:Stmt:=top ik
abbrev p7:List Str:=["told","size","form"]
theorem og:aR p7 ["told","size"] (aq iX):=⟨rfl,rfl,rfl,by decide +kernel,rfl,by decide +kernel,by decide +kernel⟩
def AH:cE:=λK ps T=>∃(l:Ln) (n:Int),ps=[⟨ak,cZ l⟩,⟨ae,n⟩]/\l.ok n/\T=cB K bq (· =true)
theorem z3 (M:bU K mg)(FO:g9 P w K mg "FORMS" cw)(CN:aU P w K mg base "is_number_of" 2 (aZ AO K))(F:bL K "is_tuple_of_code" "is_tuple_of_code" iX f fd)(hm:mg "is_tuple_of_code"=some (.ref f))(hb:Binds K fd ["told","size"] []):aU P w K mg base "is_tuple_of_code" 3 (aZ AH K):=by
 have nd:=og.nd
 have ndc:List.Nodup [("value":Str),"wanted","size"]:=by decide
 refine cI F og hm hb (λqs T ⟨_,_,e,_⟩=>by rw [e];rfl) (λcdv A outer s H E qs T hr hS=>?_)
 obtain ⟨l,n,rfl,hok,rfl⟩:=hS
 change WS _ _ [.im ak (cZ l),.im ae n,.no] _ _
 have hsl:¬(HT.sIx (PV.str l.k::l.ns.map PV.int).length 0 (some 1)=0/\HT.sIx (PV.str l.k::l.ns.map PV.int).length (PV.str l.k::l.ns.map PV.int).length none=(PV.str l.k::l.ns.map PV.int).length):=λh=>by cases l<;>exact absurd (show (1:Nat)=0 from h.1) (by decide)
 have hcut:cut (PV.str l.k::l.ns.map PV.int) (some 1) none=l.ns.map PV.int:=by cases l<;>rfl
 refine ao (aD (TW.tv (bG (aX (aV (aF M.isinstance M.tuple PyProof.Rows.boot_tuple (aa 0 rfl) dY))) (λ_=>cc (av cu (eW M.len (aa 0 rfl)) ag)))) (λh=>?_) (λh=>aJ ?_))
 ·rw [List.length_cons] at h
  have h2:(false ||decide (((l.ns.map PV.int).length + 1:Nat)=(0:Int)))=true:=h
  simp at h2
  omega
 refine ao (aD (TW.tv (bG (aX (aV (aF M.isinstance M.str PyProof.Rows.boot_str (EV.sP (x:=l.k) (aP (aa 0 rfl) ag eJ)) ty_str))) (λ_=>cc (kN FO (EV.sP (x:=l.k) (aP (aa 0 rfl) ag eJ)))))) (λh=>?_) (λh=>aJ ?_))
 ·have h2:(false || !(dZ cw l.k).isSome)=true:=h
  rw [ny] at h2;cases h2
 refine ao (bQ 2 (nD FO (EV.sP (x:=l.k) (aP (aa 0 rfl) ag eJ)) (ny l)) ?_)
 change WS _ _ [.im ak (cZ l),.im ae n,.im lN l.eV] _ _
 refine ao (aD (av rO (eW M.len (aa 0 rfl)) (cP (md M.len (aa 2 rfl)) ag)) (λh=>?_) (λh=>aJ ?_))
 ·rw [List.length_cons,sA] at h
  simp at h
 refine ah (aT (jG M.all (bW.im (h9 (own:=["value","wanted"]) (fr:=["size"]) (ix:=[1]) (ra:=i0 ak bS) (p:=λ_=>true) (f:=λq=>cR (pH q.1) q.2 n) (eD (so:=aq iX) (N0:=p7) rfl rfl (λx h=>cW h) (by decide +kernel)) (nh M.zip (hcut▸jN (aa 0 rfl) (dF ag) dH hsl) (aa 2 rfl) (zl l))
  (λC s H ex=>gH 0 1) (λx=>⟨.inr rfl,.inr rfl,.inl rfl,trivial⟩) (λC s H ex x hx=>gc) (λC s H ex q hq _=>?_)))) ?_)
 ·have h1:=(List.of_mem_zip hq).1
  obtain ⟨v,_,e⟩:=List.mem_map.mp h1
  obtain ⟨q1,q2⟩:=q
  have e:PV.int v=q1:=e
  subst e
  exact bK CN hr (au (EV.iP (n:=v) (aa 0 rfl)) (au (aa 1 rfl) (au (aa 2 rfl) aG))) ⟨_,_,_,rfl,rfl⟩
 ·rw [List.all_eq_true]
  intro b hb
  obtain ⟨q,hq,rfl⟩:=List.mem_map.mp hb
  exact hok q (List.mem_filter.mp hq).1
abbrev pD:Stmt:=top mH
abbrev nLC:List Str:=["code","place","told"]
theorem pw:aR nLC ["code"] (aq pD):=⟨rfl,rfl,rfl,by decide +kernel,rfl,by decide +kernel,by decide +kernel⟩
def tE:cE:=λK ps T=>∃code:List Ln,ps=[⟨ai ak,aN code⟩]/\code≠[]/\(∀l∈code,l.ok code.length)/\T=cB K dm (λ_=>True)
theorem zK (M:bU K mg)(CT:aU P w K mg base "is_tuple_of_code" 3 (aZ AH K))(F:bL K "look_code" "look_code" pD f fd)(hm:mg "look_code"=some (.ref f))(hb:Binds K fd ["code"] []):aU P w K mg base "look_code" 4 (aZ tE K):=by
 have nd:=pw.nd
 refine qV F pw hm hb (λqs T ⟨_,e,_⟩=>by rw [e];rfl) (λcdv A outer s H E qs T hr hS=>?_)
 obtain ⟨code,rfl,hne,hok,rfl⟩:=hS
 refine ⟨λ_ _ _=>⟨(),rfl,trivial⟩,?_⟩
 change WS _ _ [.im (ai ak) (aN code),.no,.no] _ _
 refine ao (aD (TW.tv (bG (aX (aV (aF M.isinstance M.list PyProof.Rows.boot_list (aa 0 rfl) ty_list))) (λ_=>cc (aX (ot 0 rfl))))) (λh=>?_) (λh=>aJ ?_))
 ·have h2:(false || !!(aN code).isEmpty)=true:=h
  cases code with
  | nil=>exact absurd rfl hne
  | cons a b=>cases h2
 refine ah (il (λ_ Γ=>∃e1 e2,Γ=[.im (ai ak) (aN code),e1,e2]) (m3 M.enumerate (aa 0 rfl)) (gH 1 2) ⟨_,_,rfl⟩ (λi x Γ hx hΓ=>?_) (λΓ _=>trivial))
 obtain ⟨e1,e2,rfl⟩:=hΓ
 obtain ⟨_,hx2⟩:=j8 hx
 obtain ⟨l,hl,e⟩:=List.mem_map.mp (List.mem_of_getElem? hx2)
 obtain ⟨x1,x2⟩:=x
 have e:cZ l=x2:=e
 subst e
 change WS _ _ [.im (ai ak) (aN code),.im ae x1,.im ak (cZ l)] _ _
 refine ah (aD (aX (aV (bK CT hr (au (aa 2 rfl) (au (gi M.len (aa 0 rfl)) aG)) ⟨l,_,rfl,by rw [List.length_map];exact hok l hl,rfl⟩))) (λh=>absurd h (by decide)) (λh=>aJ ⟨_,_,rfl⟩))
end
section
variable {X:Cx}{Γ Γ1 Γ2 Γ3:Ga}{N:Ga->Prop}{T:RT}
variable {o:Option Str}
def xj:Option Str->Bool
 | none=>true
 | some _=>false
theorem qT {K:PySem.W.Frag}{R:Hp}{v:V}(h:ak.R K R v (oP o)):decide (v=V.non)=xj o:=by
 cases o with
 | none=>cases h;rfl
 | some x=>cases h;rfl
theorem zR:eB X .Is ak dm (oP o) () (xj o):=⟨_,yw,λR H v u Q _ e1 e2 q=>by
 cases e2
 exact ⟨rfl,by rw [qT (K:=X.K) e1];exact q⟩⟩
theorem rp:eB X .IsNot ak dm (oP o) () (!xj o):=⟨_,nk,λR H v u Q _ e1 e2 q=>by
 cases e2
 exact ⟨rfl,by rw [qT (K:=X.K) e1];exact q⟩⟩
theorem NS.low {H0 H R:Hp}{m:bP}{p af ab at_ ar:Addr}{tf tb tt:List Addr}(s:∀b,H b=none->H0 b=none)(h:NS H R m p af ab at_ ar tf tb tt):NS H0 R m p af ab at_ ar tf tb tt:=
 ⟨λb hb=>s b (h.new b hb),h.nd,h.p,h.f,h.b,h.t,h.r,Paired.map (λ_ _ ⟨a,b⟩=>⟨s _ a,b⟩) h.nf,Paired.map (λ_ _ ⟨a,b⟩=>⟨s _ a,b⟩) h.nb,Paired.map (λ_ _ ⟨a,b⟩=>⟨s _ a,b⟩) h.nt⟩
theorem nV {S:cE}{x:Str}{k:Nat}{p pos:Pos}{m:bP}(C:aU X.prog X.w X.K X.mg X.base x k (aZ S X.K))(hr:bg k X.A)(hS:S X.K [] (my m))(z:ML m)(hg:Gl X x:=by rfl)(hdb:(x==("__debug__":Str))=false:=by decide):EV X (.Call (.Name x p) [] [] pos) Γ ak (.tup (eK m)) Γ:=λσ H0 R0 H R E Q q=>by
 obtain ⟨f,fd,pn,F,hm,hk,hb⟩:=C.ex
 refine eS (sW F hr hg hm hk hb .nil jP hdb) ?_
 refine ⟨R,[],_,E.sub,.nil,hS,λv H' R' xx t=>?_⟩
 obtain ⟨p,af,ab,at_,ar,tf,tb,tt,rfl,n⟩:=t
 exact q _ H' R' (E.grow xx) xx.r (n.pv z)
end
section
variable {P:Program}{w:World}{K:PySem.W.Frag}{mg:Str->Option Value}{base:Heap}{f:Addr}{fd:FuncData}{C:Addr}
section
variable {X:Cx}{Γ Γ1:Ga}{N:Ga->Prop}{T:RT}
variable {x:Addr}{l:List Addr}
theorem vg {σ:St}{H0 R0 H R:Hp}{i:Nat}{fs:Fs}(E:aw X.K σ H0 R0 H R Γ)(hΓ:Γ[i]?=some (.ob ((aB C).bx (x::l) fs)))(b:Addr)(h:dU H (x::l) b=none):H0 b=none:=by
 by_cases hb:b∈x::l
 ·exact E.nw i _ b hΓ hb
 ·rw [dE hb] at h;exact E.ext.h.free h
theorem uW (i:Nat){y:Str}{k:Nat}{p p1 p2 pos:Pos}{a:ib}{m:bP}(Cs:aU X.prog X.w X.K X.mg X.base "state_of" k (dR (aB C) mj X.K))(hr:bg k X.A)(hΓ:Γ[i]?=some (.ob ((aB C).bx (x::l) (aQ a m))))(h64:m.boxes.length < 64)(hT:∀H0 v H' R',my {m with boxes:=dO m.boxes} H0 v H' R'->T H0 v H' R')
 (hg:Gl X "state_of":=by rfl) (he:starEach [.Name y p1] X.env=(false,eval (.Name y p1) X.env)::starEach [] X.env:=by rfl) (hN:X.N[i]?=some y:=by rfl) (hv:cT X.env.scope y:=by first | exact Or.inl rfl | exact Or.inr (Or.inl rfl) | exact Or.inr (Or.inr rfl)) (hd:(y==("__debug__":Str))=false:=by decide) (hcd:(y==("__classdict__":Str))=false:=by decide):
 W1 X (.Return (some (.Call (.Name "state_of" p) [.Name y p1] [] p2)) pos) Γ N T:=λσ H0 R0 H R E D dn dr=>
 sS (eF aL) (iR (B:=aB C) (S:=mj) i Cs hr aG hΓ hΓ ⟨a,m,rfl,rfl,h64,rfl⟩ E (λH1 R1 v H' R' s' E1 s1 xx E' t=>by
  obtain ⟨_,p,af,ab,at_,ar,tf,tb,tt,rfl,n⟩:=t
  exact dr _ H' R' E'.ext (hT _ _ _ _ ⟨p,af,ab,at_,ar,tf,tb,tt,rfl,n.low (vg E1 hΓ)⟩)) hg (by decide) he rfl hN hv hd hcd)
theorem Aj (i:Nat){y:Str}{k:Nat}{p p1 p2:Pos}{a:ib}{m:bP}(Cs:aU X.prog X.w X.K X.mg X.base "state_of" k (dR (aB C) mj X.K))(hr:bg k X.A)(hΓ:Γ[i]?=some (.ob ((aB C).bx (x::l) (aQ a m))))(h64:m.boxes.length < 64)(z:ML {m with boxes:=dO m.boxes})
 (hg:Gl X "state_of":=by rfl) (he:starEach [.Name y p1] X.env=(false,eval (.Name y p1) X.env)::starEach [] X.env:=by rfl) (hN:X.N[i]?=some y:=by rfl) (hv:cT X.env.scope y:=by first | exact Or.inl rfl | exact Or.inr (Or.inl rfl) | exact Or.inr (Or.inr rfl)) (hd:(y==("__debug__":Str))=false:=by decide) (hcd:(y==("__classdict__":Str))=false:=by decide):
 EV X (.Call (.Name "state_of" p) [.Name y p1] [] p2) Γ ak (.tup (eK {m with boxes:=dO m.boxes})) (Γ.set i (.ob ((aB C).bx (x::l) (aQ a m)))):=λσ H0 R0 H R E Q q=>
 iR (B:=aB C) (S:=mj) i Cs hr aG hΓ hΓ ⟨a,m,rfl,rfl,h64,rfl⟩ E (λH1 R1 v H' R' s' E1 s1 xx E' t=>by
  obtain ⟨rfl,p,af,ab,at_,ar,tf,tb,tt,rfl,n⟩:=t
  exact q _ H' R' E' (s1.trans xx.r) (n.pv z)) hg (by decide) he rfl hN hv hd hcd
end
variable {m:bP}
structure Good (code:List Ln) (m:bP):Prop where
 a0:0<=m.at_
 a1:m.at_<=code.length
 u:0<=m.used
 ok:y3 m
 nd:(m.boxes.map (·.1)).Nodup
 b:m.boxes.length < 60
theorem Good.mz {code:List Ln}(g:Good code m):MZ m:=by
 have:=g.ok.f;have:=g.ok.t;have:=g.b
 have e:(100000:Nat)<=sizeLine:=by decide
 exact ⟨by omega,by omega,by omega,g.nd⟩
abbrev lnAt (code:List Ln)(m:bP):Ln:=code.getD m.at_.toNat .back
def nextM (code:List Ln)(ans:List Int)(m:bP):bP:=qP m (lnAt code m) (ans.getD m.used.toNat 0)
def tN (m:bP):bP:={m with boxes:=dO m.boxes}
theorem jZ {code:List Ln}{ans:List Int}{bound:Int}(g:Good code m)(h:bj code ans bound m=none):m.at_ < code.length/\((lnAt code m).k="ask"->0<=m.used/\m.used < ans.length):=by
 unfold bj at h
 by_cases h1:m.at_=code.length∨m.idle≥1000
 ·rw [if_pos h1] at h;cases h
 ·rw [if_neg h1,gq] at h
  have a1:=g.a1
  refine ⟨by omega,λhk=>⟨g.u,?_⟩⟩
  by_cases h2:iF (lnAt code m)=true/\(m.rows.length:Int)≥bound
  ·rw [if_pos h2] at h;cases h
  ·rw [if_neg h2] at h
   by_cases h3:(lnAt code m).k="ask"/\m.used≥(ans.length:Int)
   ·rw [if_pos h3] at h;cases h
   ·have:¬m.used≥(ans.length:Int):=λz=>h3 ⟨hk,z⟩
    omega
structure fc (code:List Ln):Prop where
 ne:code≠[]
 ok:∀l∈code,l.ok code.length
abbrev p6:Stmt:=top vN
abbrev nSP:List Str:=["code","state","answers","bound","machine","word"]
theorem nQ:aR nSP ["code","state","answers","bound"] (aq p6):=⟨rfl,rfl,rfl,by decide +kernel,rfl,by decide +kernel,by decide +kernel⟩
def xg (K:PySem.W.Frag)(o:Option Str)(m:bP):RT:=λH0 v H' R'=>match o with
 | some x=>v= .str x
 | none=>my m H0 v H' R'
def AG:cE:=λK ps T=>∃(code:List Ln) (m:bP) (ans:List Int) (bound:Int),ps=[⟨ai ak,aN code⟩,⟨ak,.tup (eK m)⟩,⟨ai ae,ans⟩,⟨ae,bound⟩]/\fc code/\oS ans=true/\0<=bound/\Good code m/\(bj code ans bound m=none->(nextM code ans m).boxes.length < 64)/\T=xg K (bj code ans bound m) (tN (nextM code ans m))
theorem zO {fi:Addr}{fdi:FuncData}(M:bU K mg)(MK:Mk K C fi)(hMg:mg "Machine"=some (.ref C))(FI:cq P w K mg base cL 2 fi fdi ["self","state"] (qH (yo C) K))(hbi:Binds K fdi ["self","state"] [])(CL:aU P w K mg base "look_code" 4 (aZ tE K))(CN:aU P w K mg base "need_answers" 3 (aZ x3 K))(CS:aU P w K mg base "still_at" 1 (dR (aB C) nK K))(CD:aU P w K mg base "do_next" 2 (dR (aB C) qR K))(CO:aU P w K mg base "state_of" 2 (dR (aB C) mj K))
 (F:bL K "step" "step" p6 f fd) (hm:mg "step"=some (.ref f)) (hb:Binds K fd ["code","state","answers","bound"] []):aU P w K mg base "step" 5 (aZ AG K):=by
 have nd:=nQ.nd
 refine cI F nQ hm hb (λqs T ⟨_,_,_,_,e,_⟩=>by rw [e];rfl) (λcdv A outer s H E qs T hr hS=>?_)
 obtain ⟨code,m,ans,bound,rfl,ck,ha,hb0,g,h64,rfl⟩:=hS
 change WS _ _ [.im (ai ak) (aN code),.im ak (.tup (eK m)),.im (ai ae) ans,.im ae bound,.no,.no] _ _
 refine ao (i7 CL hr (au (aa 0 rfl) aG) ⟨code,rfl,ck.ne,ck.ok,rfl⟩ ?_)
 refine ao (i7 (CN.mono (by decide)) hr (au (aa 2 rfl) (au (aa 3 rfl) aG)) ⟨ans,bound,rfl,ha,hb0,rfl⟩ ?_)
 refine ao (p9 4 MK FI (hr.mono (by decide)) hMg hbi (au (aa 1 rfl) aG) ⟨rfl,m,rfl,g.mz,rfl⟩ ?_)
 rintro x l _ ⟨a,rfl⟩
 change WS _ _ [.im (ai ak) (aN code),.im ak (.tup (eK m)),.im (ai ae) ans,.im ae bound,.ob ((aB C).bx (x::l) (aQ a m)),.no] _ _
 refine ao (bQ 5 (cX (B:=aB C) (S:=nK) (z:=oP (bj code ans bound m)) 4 (CS.mono (by decide)) hr (au (aa 0 rfl) (au (aa 2 rfl) (au (aa 3 rfl) aG))) rfl rfl ⟨a,m,code,ans,bound,rfl,rfl,g.a0,g.a1,rfl⟩) ?_)
 change WS _ _ [.im (ai ak) (aN code),.im ak (.tup (eK m)),.im (ai ae) ans,.im ae bound,.ob ((aB C).bx (x::l) (aQ a m)),.im ak (oP (bj code ans bound m))] _ _
 cases hst:bj code ans bound m with
 | some x0=>
   refine ao (aD (av rp (aa 5 rfl) dN) (λ_=>?_) (λh=>absurd (show true=false from h) (by decide)))
   refine ah (λσ H0 R0 H R E D dn dr=>sS (eF aL) (aa 5 (r:=ak) (y:=oP (some x0)) rfl rfl (by first | exact Or.inl rfl | exact Or.inr (Or.inl rfl) | exact Or.inr (Or.inr rfl)) (by decide) (by decide) σ H0 R0 H R E _ λv H1 R1 E1 s1 e1=>dr v H1 R1 E1.ext (by cases e1;rfl)))
 | none=>
   obtain ⟨p1,hu⟩:=jZ g hst
   refine ao (aD (av rp (aa 5 rfl) dN) (λh=>absurd h (by decide)) (λ_=>aJ ?_))
   refine ao (jv (cX (B:=aB C) (S:=qR) (z:=()) 4 (CD.mono (by decide)) hr (au (aa 0 rfl) (au (aa 2 rfl) aG)) rfl rfl ⟨a,m,code,ans,rfl,rfl,g.a0,p1,g.ok,hu,rfl⟩) ?_)
   change WS _ _ [.im (ai ak) (aN code),.im ak (.tup (eK m)),.im (ai ae) ans,.im ae bound,.ob ((aB C).bx (x::l) (aQ a (nextM code ans m))),.im ak (oP none)] _ _
   exact ah (uW 4 (CO.mono (by decide)) hr rfl (h64 hst) λH0 v H' R' t=>t)
def dQ (code:List Ln)(ans:List Int):Nat->bP
 | 0=>m0
 | n + 1=>nextM code ans (dQ code ans n)
abbrev pQ:Stmt:=top mK
abbrev nRC:List Str:=["code","answers","bound","machine","word"]
theorem nS:aR nRC ["code","answers","bound"] (aq pQ):=⟨rfl,rfl,rfl,by decide +kernel,rfl,by decide +kernel,by decide +kernel⟩
theorem vI (h1:y3 m):ML {m with boxes:=dO m.boxes}:=by
 have e:(100000:Nat)<=sizeLine:=by decide
 have:=h1.r;have:=h1.f;have:=h1.t;have:=h1.b
 have hl:(dO m.boxes).length=m.boxes.length:=by unfold dO sortI;rw [List.length_map,List.length_mergeSort,List.length_map]
 exact ⟨by show m.frames.length<=_;omega,by show (dO m.boxes).length<=_;omega,by show m.told.length<=_;omega,by show m.rows.length<=_;omega⟩
def AV:cE:=λK ps T=>∃(code:List Ln) (ans:List Int) (bound:Int) (n:Nat) (x:Str),ps=[⟨ai ak,aN code⟩,⟨ai ae,ans⟩,⟨ae,bound⟩]/\fc code/\oS ans=true/\0<=bound/\(∀k,k<=n->Good code (dQ code ans k))/\(∀k,k < n->bj code ans bound (dQ code ans k)=none)/\bj code ans bound (dQ code ans n)=some x/\
 T=cB K ak (· = .tup [.str x,.tup (eK (tN (dQ code ans n)))])
theorem zJ {fi:Addr}{fdi:FuncData}(M:bU K mg)(MK:Mk K C fi)(hMg:mg "Machine"=some (.ref C))(FI:cq P w K mg base cL 2 fi fdi ["self","state"] (qH (yo C) K))(hbi:Binds K fdi ["self","state"] [])(CL:aU P w K mg base "look_code" 4 (aZ tE K))(CN:aU P w K mg base "need_answers" 3 (aZ x3 K))(CB:aU P w K mg base "begun" 1 (aZ yU K))(CS:aU P w K mg base "still_at" 1 (dR (aB C) nK K))(CD:aU P w K mg base "do_next" 2 (dR (aB C) qR K))(CO:aU P w K mg base "state_of" 2 (dR (aB C) mj K))
 (F:bL K "run_code" "run_code" pQ f fd) (hm:mg "run_code"=some (.ref f)) (hb:Binds K fd ["code","answers","bound"] []):aU P w K mg base "run_code" 5 (aZ AV K):=by
 have nd:=nS.nd
 refine cI F nS hm hb (λqs T ⟨_,_,_,_,_,e,_⟩=>by rw [e];rfl) (λcdv A outer s H E qs T hr hS=>?_)
 obtain ⟨code,ans,bound,n,x0,rfl,ck,ha,hb0,hg,hno,hsm,rfl⟩:=hS
 change WS _ _ [.im (ai ak) (aN code),.im (ai ae) ans,.im ae bound,.no,.no] _ _
 have g0:=hg 0 (Nat.zero_le _)
 refine ao (i7 CL hr (au (aa 0 rfl) aG) ⟨code,rfl,ck.ne,ck.ok,rfl⟩ ?_)
 refine ao (i7 (CN.mono (by decide)) hr (au (aa 1 rfl) (au (aa 2 rfl) aG)) ⟨ans,bound,rfl,ha,hb0,rfl⟩ ?_)
 refine ao (p9 3 MK FI (hr.mono (by decide)) hMg hbi (au (nV (CB.mono (by decide)) hr ⟨rfl,rfl⟩ ⟨by decide,by decide,by decide,by decide⟩) aG) ⟨rfl,m0,rfl,g0.mz,rfl⟩ ?_)
 rintro x l _ ⟨a,rfl⟩
 let G:bP->Ga:=λm=>[.im (ai ak) (aN code),.im (ai ae) ans,.im ae bound,.ob ((aB C).bx (x::l) (aQ a m)),.im ak (oP (bj code ans bound m))]
 change WS _ _ [.im (ai ak) (aN code),.im (ai ae) ans,.im ae bound,.ob ((aB C).bx (x::l) (aQ a m0)),.no] _ _
 refine ao (bQ 4 (cX (B:=aB C) (S:=nK) (z:=oP (bj code ans bound m0)) 3 (CS.mono (by decide)) hr (au (aa 0 rfl) (au (aa 1 rfl) (au (aa 2 rfl) aG))) rfl rfl ⟨a,m0,code,ans,bound,rfl,rfl,g0.a0,g0.a1,rfl⟩) ?_)
 refine ao (uU (λj Γ=>∃k,j=n - k/\k<=n/\Γ=[.im (ai ak) (aN code),.im (ai ae) ans,.im ae bound,.ob ((aB C).bx (x::l) (aQ a (dQ code ans k))),.im ak (oP (bj code ans bound (dQ code ans k)))]) (m0:=n) ⟨0,rfl,Nat.zero_le _,rfl⟩ ?_)
 rintro j Γ ⟨k,rfl,hk,rfl⟩
 have gk:=hg k hk
 refine ⟨_,_,av zR (aa 4 rfl) dN,λh=>?_,λh=>?_⟩
 ·have hst:bj code ans bound (dQ code ans k)=none:=by
   cases e:bj code ans bound (dQ code ans k) with
   | none=>rfl
   | some z=>rw [e] at h;cases h
  have hkn:k < n:=by
   rcases Nat.lt_or_ge k n with z | z
   ·exact z
   ·have:k=n:=by omega
    rw [this,hsm] at hst;cases hst
  obtain ⟨p1,hu⟩:=jZ gk hst
  have g1:=hg (k + 1) hkn
  refine ao (jv (cX (B:=aB C) (S:=qR) (z:=()) 3 (CD.mono (by decide)) hr (au (aa 0 rfl) (au (aa 1 rfl) aG)) rfl rfl ⟨a,_,code,ans,rfl,rfl,gk.a0,p1,gk.ok,hu,rfl⟩) ?_)
  change WS _ _ [.im (ai ak) (aN code),.im (ai ae) ans,.im ae bound,.ob ((aB C).bx (x::l) (aQ a (dQ code ans (k + 1)))),.im ak (oP (bj code ans bound (dQ code ans k)))] _ _
  refine ah (bQ 4 (cX (B:=aB C) (S:=nK) (z:=oP (bj code ans bound (dQ code ans (k + 1)))) 3 (CS.mono (by decide)) hr (au (aa 0 rfl) (au (aa 1 rfl) (au (aa 2 rfl) aG))) rfl rfl ⟨a,_,code,ans,bound,rfl,rfl,g1.a0,g1.a1,rfl⟩) ?_)
  exact ⟨n - (k + 1),by omega,k + 1,rfl,hkn,rfl⟩
 ·have hkn:k=n:=by
   rcases Nat.lt_or_ge k n with z | z
   ·rw [hno k z] at h;cases h
   ·omega
  subst hkn
  rw [hsm]
  have g64:(dQ code ans k).boxes.length < 64:=Nat.lt_of_lt_of_le gk.b (by decide)
  exact ah (aT (bD (ay (aa 4 rfl) (ay (Aj 3 (CO.mono (by decide)) hr rfl g64 (vI gk.ok)) aM)) (by show 2<=sizeLine;decide)) rfl)
end
end K1
namespace Fc
open PySem PySem.Spec L2
open PyProof.Rows hiding St
section
variable {X:Cx}
def tU (i j:Int):Prop:=0 < j/\j<=1000000000000000000
theorem sG:cU X (binaryOp .FloorDiv) (rI tU λi j=>.int (i / j)):=mZ λi j _ _ _ _ _ hc q=>by
 have h1:(0:Int) < j:=hc.1
 have h2:j<=1000000000000000000:=hc.2
 exact floordiv_int (by omega) (by rw [Int.fdiv_eq_ediv_of_nonneg i (by omega)];exact q) (.inl (PyProof.noPylong_of_log2 (Nat.lt_of_lt_of_le ((Nat.log2_lt (by omega)).mpr (show j.natAbs < 2 ^ 60 by omega)) (by decide))))
theorem lu {Γ:Ga}{N N1:Ga->Prop}{T:RT}{st:Stmt}{rest:List Stmt}(h1:W1 X st Γ N1 T)(h2:∀Γ',N1 Γ'->WS X rest Γ' N T):WS X (st::rest) Γ N T:=ao λσ H0 R0 H R E D dn dr=>h1 σ H0 R0 H R E D (λσ' H' R' Γ' E' s' n=>dn σ' H' R' Γ' E' s' (h2 Γ' n)) dr
theorem rQ {Γ Γ1 Γ2:Ga}{a b:Expr}{pos:Pos}{x y:Int}(ha:EV X a Γ ae x Γ1)(hb:EV X b Γ1 ae y Γ2)(h:tU x y):EV X (.BinOp a .FloorDiv b pos) Γ ae (x / y) Γ2:=fC sG ha hb λR v u H Q e1 e2 q=>⟨x,y,e1,e2,h,q _ rfl⟩
end
end Fc
namespace K1
open PySem L2 Fc
open PySem.Spec hiding Row
open PyProof.Rows hiding St
open PySem.Builtin.Int (intBits)
section
variable {P:Program}{w:World}{K:PySem.W.Frag}{mg:Str->Option Value}{base:Heap}{f:Addr}{fd:FuncData}{C:Addr}
abbrev qr:Stmt:=top lg
theorem n9:aR ["_law_found"] ["_law_found"] (aq qr):=⟨rfl,rfl,rfl,by decide +kernel,rfl,by decide +kernel,by decide +kernel⟩
def Au:cE:=λK ps T=>∃x:Int,ps=[⟨ae,x⟩]/\T=cB K bq (· =true)
theorem zz (M:bU K mg)(F:bL K "_law_whole" "_law_whole" qr f fd)(hm:mg "_law_whole"=some (.ref f))(hb:Binds K fd ["_law_found"] []):aU P w K mg base "_law_whole" 1 (aZ Au K):=by
 have nd:=n9.nd
 refine cI F n9 hm hb (λqs T ⟨x,e,_⟩=>by rw [e];rfl) (λcdv A outer s H E qs T hr hS=>?_)
 obtain ⟨x,rfl,rfl⟩:=hS
 exact ah (aT (cC (aF M.isinstance M.int PyProof.Rows.boot_int (aa 0 rfl) ty_int) (λ_=>dD (gJ (aF M.isinstance M.bool boot_bool (aa 0 rfl) ty_int)))) rfl)
abbrev tR:Stmt:=top lj
abbrev nDW:List Str:=["_law_script","_law_many","_law_found","_law_k","_law_cell","_law_j","_law_number"]
theorem yL:aR nDW ["_law_script","_law_many"] (aq tR):=⟨rfl,rfl,rfl,by decide +kernel,rfl,by decide +kernel,by decide +kernel⟩
structure fZ (n:Nat) (ys:List Int):Prop where
 l:ys.length=n
 b:∀y∈ys,0<=y/\y < 2147483587
def AX:cE:=λK ps T=>∃(ns:List Int) (many:Int),ps=[⟨bV,ns⟩,⟨ae,many⟩]/\ns.length<=63/\(∀n∈ns,intBits n<=2 ^ 20)/\0<=many/\many<=1000/\T=wc K ae (fZ many.toNat)
theorem fZ.app {n:Nat}{ys:List Int}{y:Int}(h:fZ n ys)(h0:0<=y)(h1:y < 2147483587):fZ (n + 1) (ys++[y]):=⟨by rw [List.length_append,h.l];rfl,λz hz=>by
 rcases List.mem_append.mp hz with q | q
 ·exact h.b z q
 ·rw [List.mem_singleton.mp q];exact ⟨h0,h1⟩⟩
theorem zX (M:bU K mg)(F:bL K "_law_draws" "_law_draws" tR f fd)(hm:mg "_law_draws"=some (.ref f))(hb:Binds K fd ["_law_script","_law_many"] []):aU P w K mg base "_law_draws" 1 (aZ AX K):=by
 have nd:=yL.nd
 refine cI F yL hm hb (λqs T ⟨_,_,e,_⟩=>by rw [e];rfl) (λcdv A outer s H E qs T hr hS=>?_)
 obtain ⟨ns,many,rfl,h63,hbits,m0,m1,rfl⟩:=hS
 change WS _ _ [.im bV ns,.im ae many,.no,.no,.no,.no,.no] _ _
 refine ao (lJ 2 (r:=ae) (ys:=[]) (bC aM (Nat.zero_le _)) ?_)
 refine ao (il (λi Γ=>∃ys e3 e4 e5 e6,fZ i ys/\Γ=[.im bV ns,.im ae many,.mu ae ys,e3,e4,e5,e6]) (eZ M.range (aa 1 rfl) ⟨by omega,by omega⟩) (dJ 3) ⟨[],_,_,_,_,⟨rfl,λy h=>by cases h⟩,rfl⟩ (λi k Γ hk hΓ=>?_) (λΓ hΓ=>?_))
 ·obtain ⟨ys,e3,e4,e5,e6,hd,rfl⟩:=hΓ
  have hk2:=gO.mp (List.mem_of_getElem? hk)
  have hi:i < many.toNat:=by have:=(List.getElem?_eq_some_iff.mp hk).1;rwa [dq] at this
  change WS _ _ [.im bV ns,.im ae many,.mu ae ys,.im ae k,e4,e5,e6] _ _
  refine ao (bQ 4 ag ?_)
  change WS _ _ [.im bV ns,.im ae many,.mu ae ys,.im ae k,.im ae 0,e5,e6] _ _
  refine lu (N1:=λΓ=>∃c,intBits c<=2 ^ 20/\Γ=[.im bV ns,.im ae many,.mu ae ys,.im ae k,.im ae c,e5,e6]) (aD (av wK (nI M.len (aa 0 rfl)) ag) (λh=>?_) (λh=>aJ ⟨0,by decide,rfl⟩)) ?_
  ·have hl:(0:Int) < ns.length:=by
    have:=of_decide_eq_true h
    omega
   have hmin:(if (ns.length:Int) < 63 then (ns.length:Int) else 63)=ns.length:=by
    by_cases q:(ns.length:Int) < 63
    ·rw [if_pos q]
    ·rw [if_neg q];omega
   have q0:=Int.emod_nonneg (k / 20) (show (ns.length:Int)≠0 by omega)
   have q1:=Int.emod_lt_of_pos (k / 20) hl
   refine ah (bQ 4 (xZ (aa 0 rfl) (bJ (dI (aa 3 rfl) ag ⟨by decide,by decide⟩) (EV.cast (vW M.min (au ag (au (nI M.len (aa 0 rfl)) aG))) hmin) hl) (dg 0 q0 q1)) ⟨_,hbits _ ?_,rfl⟩)
   rw [List.getD_eq_getElem?_getD,List.getElem?_eq_getElem (by omega)]
   exact List.getElem_mem _
  rintro _ ⟨c,hc,rfl⟩
  refine ah (aD (av jm (aa 4 rfl) (jz ag ag ⟨by decide,by decide,by decide⟩)) (λh=>?_) (λh=>?_))
  ·refine ao (bQ 4 (rQ (aa 4 rfl) (jz ag ag ⟨by decide,by decide,by decide⟩) ⟨by decide,by decide⟩) ?_)
   change WS _ _ [.im bV ns,.im ae many,.mu ae ys,.im ae k,.im ae (c / 10 ^ 18),e5,e6] _ _
   refine lu (N1:=λΓ=>∃c e5,Γ=[.im bV ns,.im ae many,.mu ae ys,.im ae k,.im ae c,e5,e6]) (il (λ_ Γ=>∃c e5,Γ=[.im bV ns,.im ae many,.mu ae ys,.im ae k,.im ae c,e5,e6]) (eZ M.range (bJ (aa 3 rfl) ag (by decide)) ⟨by have:=Int.emod_nonneg k (show (20:Int)≠0 by decide);omega,by have:=Int.emod_lt_of_pos k (show (0:Int) < 20 by decide);omega⟩) (dJ 5) ⟨_,_,rfl⟩ (λi2 j Γ _ hΓ=>?_) (λΓ hΓ=>hΓ)) ?_
   ·obtain ⟨c2,e5',rfl⟩:=hΓ
    change WS _ _ [.im bV ns,.im ae many,.mu ae ys,.im ae k,.im ae c2,.im ae j,e6] _ _
    exact ah (bQ 4 (dI (aa 4 rfl) ag ⟨by decide,by decide⟩) ⟨_,_,rfl⟩)
   ·rintro _ ⟨c3,e5',rfl⟩
    have r0:=Int.emod_nonneg c3 (show (5040:Int)≠0 by decide)
    have r1:=Int.emod_lt_of_pos c3 (show (0:Int) < 5040 by decide)
    exact ah (lG 2 (bJ (aa 4 rfl) ag (by decide)) rfl rfl (by rw [hd.l];exact Nat.lt_of_lt_of_le (show i < 1000 by omega) (by decide)) ⟨_,_,_,_,_,hd.app r0 (by omega),rfl⟩)
  ·have n0:=Int.emod_nonneg (c + 48271 * (k + 1)) (show (2147483629:Int)≠0 by decide)
   have n1:=Int.emod_lt_of_pos (c + 48271 * (k + 1)) (show (0:Int) < 2147483629 by decide)
   refine ao (bQ 6 (bJ (cP (aa 4 rfl) (kE ag (cP (aa 3 rfl) ag) (iK (by decide) (by decide)))) ag (by decide)) ?_)
   change WS _ _ [.im bV ns,.im ae many,.mu ae ys,.im ae k,.im ae c,e5,.im ae ((c + 48271 * (k + 1)) % 2147483629)] _ _
   generalize (c + 48271 * (k + 1)) % 2147483629=u at n0 n1 ⊢
   have o0:=Int.emod_nonneg (u * u + k) (show (2147483629:Int)≠0 by decide)
   have o1:=Int.emod_lt_of_pos (u * u + k) (show (0:Int) < 2147483629 by decide)
   refine ao (bQ 6 (bJ (cP (kE (aa 6 rfl) (aa 6 rfl) (iK n0 (by omega))) (aa 3 rfl)) ag (by decide)) ?_)
   change WS _ _ [.im bV ns,.im ae many,.mu ae ys,.im ae k,.im ae c,e5,.im ae ((u * u + k) % 2147483629)] _ _
   generalize (u * u + k) % 2147483629=v at o0 o1 ⊢
   have r0:=Int.emod_nonneg (v * v) (show (2147483587:Int)≠0 by decide)
   have r1:=Int.emod_lt_of_pos (v * v) (show (0:Int) < 2147483587 by decide)
   exact ah (lG 2 (bJ (kE (aa 6 rfl) (aa 6 rfl) (iK o0 (by omega))) ag (by decide)) rfl rfl (by rw [hd.l];exact Nat.lt_of_lt_of_le (show i < 1000 by omega) (by decide)) ⟨_,_,_,_,_,hd.app r0 r1,rfl⟩)
 ·obtain ⟨ys,e3,e4,e5,e6,hd,rfl⟩:=hΓ
  rw [dq] at hd
  exact ah (vS 2 rfl (by rw [hd.l];exact Nat.le_trans (show many.toNat<=1000 by omega) (by decide)) hd)
end
end K1
namespace K1
open PySem L2 Fc
open PySem.Spec hiding Row
open PyProof.Rows hiding St
section
variable {P:Program}{w:World}{K:PySem.W.Frag}{mg:Str->Option Value}{base:Heap}{f:Addr}{fd:FuncData}{C:Addr}
abbrev um:Stmt:=top lY
abbrev nLN:List Str:=["_law_number","_law_many","_law_way","_law_some"]
theorem yW:aR nLN ["_law_number","_law_many"] (aq um):=⟨rfl,rfl,rfl,by decide +kernel,rfl,by decide +kernel,by decide +kernel⟩
def d9 (k n:Int):Ln:=
 let w:=k % 11
 let s:=k / 11
 if w < 3 then .row (s % 30) else if w=3 then .ask (s % 30) (s / 30 % 30) (s / 90 % n) else if w=4 then .jump (s % n) else if w=5 then .call (s % 30) (s / 30 % n) (s / 90 % 9 - 4) else if w=6 then .back else if w < 9 then .count (s % 5) else if w=9 then .add (s % 41 - 20) else .tell (s % 4) (s / 4 % 9 - 4)
def Ay:cE:=λK ps T=>∃(k n:Int),ps=[⟨ae,k⟩,⟨ae,n⟩]/\0 < n/\T=cB K ak (· =cZ (d9 k n))
theorem zP (M:bU K mg)(F:bL K "_law_line" "_law_line" um f fd)(hm:mg "_law_line"=some (.ref f))(hb:Binds K fd ["_law_number","_law_many"] []):aU P w K mg base "_law_line" 1 (aZ Ay K):=by
 have nd:=yW.nd
 refine cI F yW hm hb (λqs T ⟨_,_,e,_⟩=>by rw [e];rfl) (λcdv A outer s H E qs T hr hS=>?_)
 obtain ⟨k,n,rfl,hn,rfl⟩:=hS
 change WS _ _ [.im ae k,.im ae n,.no,.no] _ _
 refine ao (bQ 2 (bJ (aa 0 rfl) ag (by decide)) (ao (bQ 3 (dI (aa 0 rfl) ag ⟨by decide,by decide⟩) ?_)))
 change WS _ _ [.im ae k,.im ae n,.im ae (k % 11),.im ae (k / 11)] _ _
 have h2:(2:Nat)<=sizeLine:=by decide
 have h4:(4:Nat)<=sizeLine:=by decide
 have h1:(1:Nat)<=sizeLine:=by decide
 refine ao (aD (av iu (aa 2 rfl) ag) (λh=>ah (aT (bD (ay (EV.pS cA) (ay (EV.pI (bJ (aa 3 rfl) ag (by decide))) aM)) h2) ?_)) (λh=>aJ ?_))
 ·rw [d9,if_pos (of_decide_eq_true h)];rfl
 have g1:=of_decide_eq_false h
 refine ao (aD (av cu (aa 2 rfl) ag) (λh=>ah (aT (bD (ay (EV.pS cA) (ay (EV.pI (bJ (aa 3 rfl) ag (by decide))) (ay (EV.pI (bJ (dI (aa 3 rfl) ag ⟨by decide,by decide⟩) ag (by decide))) (ay (EV.pI (bJ (dI (aa 3 rfl) ag ⟨by decide,by decide⟩) (aa 1 rfl) hn)) aM)))) h4) ?_)) (λh=>aJ ?_))
 ·rw [d9,if_neg g1,if_pos (of_decide_eq_true h)];rfl
 have g2:=of_decide_eq_false h
 refine ao (aD (av cu (aa 2 rfl) ag) (λh=>ah (aT (bD (ay (EV.pS cA) (ay (EV.pI (bJ (aa 3 rfl) (aa 1 rfl) hn)) aM)) h2) ?_)) (λh=>aJ ?_))
 ·rw [d9,if_neg g1,if_neg g2,if_pos (of_decide_eq_true h)];rfl
 have g3:=of_decide_eq_false h
 refine ao (aD (av cu (aa 2 rfl) ag) (λh=>ah (aT (bD (ay (EV.pS cA) (ay (EV.pI (bJ (aa 3 rfl) ag (by decide))) (ay (EV.pI (bJ (dI (aa 3 rfl) ag ⟨by decide,by decide⟩) (aa 1 rfl) hn)) (ay (EV.pI (gv (bJ (dI (aa 3 rfl) ag ⟨by decide,by decide⟩) ag (by decide)) ag)) aM)))) h4) ?_)) (λh=>aJ ?_))
 ·rw [d9,if_neg g1,if_neg g2,if_neg g3,if_pos (of_decide_eq_true h)];rfl
 have g4:=of_decide_eq_false h
 refine ao (aD (av cu (aa 2 rfl) ag) (λh=>ah (aT (bD (ay (EV.pS cA) aM) h1) ?_)) (λh=>aJ ?_))
 ·rw [d9,if_neg g1,if_neg g2,if_neg g3,if_neg g4,if_pos (of_decide_eq_true h)];rfl
 have g5:=of_decide_eq_false h
 refine ao (aD (av iu (aa 2 rfl) ag) (λh=>ah (aT (bD (ay (EV.pS cA) (ay (EV.pI (bJ (aa 3 rfl) ag (by decide))) aM)) h2) ?_)) (λh=>aJ ?_))
 ·rw [d9,if_neg g1,if_neg g2,if_neg g3,if_neg g4,if_neg g5,if_pos (of_decide_eq_true h)];rfl
 have g6:=of_decide_eq_false h
 refine ao (aD (av cu (aa 2 rfl) ag) (λh=>ah (aT (bD (ay (EV.pS cA) (ay (EV.pI (gv (bJ (aa 3 rfl) ag (by decide)) ag)) aM)) h2) ?_)) (λh=>aJ ?_))
 ·rw [d9,if_neg g1,if_neg g2,if_neg g3,if_neg g4,if_neg g5,if_neg g6,if_pos (of_decide_eq_true h)];rfl
 have g7:=of_decide_eq_false h
 refine ah (aT (bD (ay (EV.pS cA) (ay (EV.pI (bJ (aa 3 rfl) ag (by decide))) (ay (EV.pI (gv (bJ (dI (aa 3 rfl) ag ⟨by decide,by decide⟩) ag (by decide)) ag)) aM))) dB) ?_)
 rw [d9,if_neg g1,if_neg g2,if_neg g3,if_neg g4,if_neg g5,if_neg g6,if_neg g7];rfl
theorem vT {k n:Int}(h0:0<=k)(hn:0 < n):(d9 k n).ok n:=by
 have e30:=Int.emod_nonneg (k / 11) (show (30:Int)≠0 by decide)
 have e330:=Int.emod_nonneg (k / 11 / 30) (show (30:Int)≠0 by decide)
 have e5:=Int.emod_nonneg (k / 11) (show (5:Int)≠0 by decide)
 have e4:=Int.emod_nonneg (k / 11) (show (4:Int)≠0 by decide)
 have a0:=Int.emod_nonneg (k / 11) (show n≠0 by omega)
 have a1:=Int.emod_lt_of_pos (k / 11) hn
 have b0:=Int.emod_nonneg (k / 11 / 30) (show n≠0 by omega)
 have b1:=Int.emod_lt_of_pos (k / 11 / 30) hn
 have c0:=Int.emod_nonneg (k / 11 / 90) (show n≠0 by omega)
 have c1:=Int.emod_lt_of_pos (k / 11 / 90) hn
 have F1:∀v:Int,0<=v->cR v "from nought" n=true:=λv h=>by
  rw [cR,if_neg (by decide),decide_eq_true (show v≥0 from h),decide_eq_false (show¬(("from nought":Str)="tuple") by decide)];rfl
 have F2:∀v:Int,0<=v->v < n->cR v "tuple" n=true:=λv h h'=>by
  rw [cR,if_neg (by decide),decide_eq_true (show v≥0 from h),decide_eq_true h'];decide
 have F3:∀v:Int,cR v "any" n=true:=λv=>by rw [cR,if_pos rfl]
 intro q hq
 simp only [d9] at hq
 split at hq
 ·simp only [Ln.ns,Ln.eV,List.map_cons,List.map_nil,List.zip_cons_cons,List.zip_nil_left,List.mem_cons,List.not_mem_nil,or_false] at hq
  subst hq;exact F1 _ e30
 ·split at hq
  ·simp only [Ln.ns,Ln.eV,List.map_cons,List.map_nil,List.zip_cons_cons,List.zip_nil_left,List.mem_cons,List.not_mem_nil,or_false] at hq
   rcases hq with rfl | rfl | rfl
   ·exact F1 _ e30
   ·exact F1 _ e330
   ·exact F2 _ c0 c1
  ·split at hq
   ·simp only [Ln.ns,Ln.eV,List.map_cons,List.map_nil,List.zip_cons_cons,List.zip_nil_left,List.mem_cons,List.not_mem_nil,or_false] at hq
    subst hq;exact F2 _ a0 a1
   ·split at hq
    ·simp only [Ln.ns,Ln.eV,List.map_cons,List.map_nil,List.zip_cons_cons,List.zip_nil_left,List.mem_cons,List.not_mem_nil,or_false] at hq
     rcases hq with rfl | rfl | rfl
     ·exact F1 _ e30
     ·exact F2 _ b0 b1
     ·exact F3 _
    ·split at hq
     ·simp [Ln.ns,Ln.eV] at hq
     ·split at hq
      ·simp only [Ln.ns,Ln.eV,List.map_cons,List.map_nil,List.zip_cons_cons,List.zip_nil_left,List.mem_cons,List.not_mem_nil,or_false] at hq
       subst hq;exact F1 _ e5
      ·split at hq
       ·simp only [Ln.ns,Ln.eV,List.map_cons,List.map_nil,List.zip_cons_cons,List.zip_nil_left,List.mem_cons,List.not_mem_nil,or_false] at hq
        subst hq;exact F3 _
       ·simp only [Ln.ns,Ln.eV,List.map_cons,List.map_nil,List.zip_cons_cons,List.zip_nil_left,List.mem_cons,List.not_mem_nil,or_false] at hq
        rcases hq with rfl | rfl
        ·exact F1 _ e4
        ·exact F3 _
end
end K1
namespace Fc
open PySem
section
variable {prog:Program}{w:World}{A:Around}{E:Value->Shared->Prop}{h:Heap}{g:Array GenState}{d:Drawn}{t:Nat}{os:OsState}
variable {nm q:Str}{C N:Addr}{bs bm bmB:List Value}{hdct:Bool}{sn:List Str}{sub:List Value}{ab:Bool}{col:Option Bool}{dd:Option Addr}{k0 k1 k2 k3 k5:Option Value}{B newId initId:String}
abbrev dw (C t:Addr):Obj:={cls:=.ref C,data:=.fields #[.ref t,.none,.none,.none,.bool false,.none]}
theorem qJ (F:ExcBaseFacts B newId initId bmB)(T:OwnTail h bmB bm){mN:Str->Option Value}{rest:List Value}{fI:Addr}{oI:Obj}{Q:Fin->Shared->Prop}
 (hC:h.get? C=some (excClassObj nm q C N bs bm hdct sn sub ab col dd k0 k1 k2 k3 k5 newId)) (hn:h.Ns N mN) (hi:mN "__init__"=some (.ref fI)) (hfI:h.get? fI=some oI) (hfc:oI.cls= .type "function")
 (hq:∀h' e,Heap.MadeExcOf h h' e (.ref C) rest->h.objs.size<=e->wpAny (model prog w) A (call (.ref fI) (.ref e::rest)) (λr s'=>r= .none/\Q (.done (.ret (.ref e))) s') E ⟨h',g,d,t,os⟩) (hrest:rest.length<=sizeLine):
 wpAny (model prog w) A (Builtin.«type.__call__» ⟨.ref C::rest,[]⟩) Q E ⟨h,g,d,t,os⟩:=by
 repeat (first
  | with_reducible refine wpAny_loadPart_at hC ?_
  | with_reducible refine wpAny_madeBy_exc hC ?_
  | wp_step)
 refine codeAny_call_builtin_code (Code.quiet_builtin _ F.quiet) (wpAny_check_new_subT F T hC (codeAny_exc_new_subT F T hC ?_ hrest))
 have up:∀b o,h.get? b=some o->((h.push {cls:=.type "tuple",data:=.seq rest.toArray}).push (dw C h.objs.size)).get? b=some o:=λb o e=>Heap.get?_push_of_some _ (Heap.get?_push_of_some _ e)
 show wpAny _ _ _ _ _ _
 have hC1:=up _ _ hC
 have hf1:=up _ _ hfI
 have hn1:=hn.keeps up
 have T1:=T.keeps up
 have he:((h.push {cls:=.type "tuple",data:=.seq rest.toArray}).push (dw C h.objs.size)).get? (h.objs.size + 1)=some (dw C h.objs.size):=by heap_get
 have hcC:(Value.ref C::bm).contains (.ref C)=true:=by simp
 unfold isInstance
 repeat (first
  | with_reducible refine wpAny_loadPart_at he ?_
  | (with_reducible refine wpAny_isSubtype_exc hC1 ?_;rw [hcC])
  | wp_step)
 show wpAny _ _ (typeLookup (.ref C) _) _ _ _
 refine wpAny_typeLookup_tail hC1 hn1 T1 F.mroIs F.init.lookup ?_
 rw [hi]
 refine wpAny_holding (wpAny_bind ?_)
 unfold bindSpecial
 refine wpAny_bind (wpAny_typeOf (T:="function") ⟨_,hf1,hfc⟩ ?_)
 rw [if_pos (by decide)]
 have hm:Heap.MadeExcOf h ((h.push {cls:=.type "tuple",data:=.seq rest.toArray}).push (dw C h.objs.size)) (h.objs.size + 1) (.ref C) rest:=
  ⟨up,Heap.get?_none_of_le (Nat.le_succ _),h.objs.size,he,Heap.get?_none_of_le (Nat.le_refl _),Heap.get?_push_of_some _ (Heap.get?_push_at rfl rfl)⟩
 refine wpAny_pure (wpAny_bind (wpAny_mono (hq _ _ hm (Nat.le_succ _)) (λr s' ⟨hr,hQ⟩=>?_) λ_ _ x=>x))
 subst hr
 wp_walk
 exact hQ
theorem qf (F:ExcBaseFacts B newId initId bmB)(T:OwnTail h bmB bm){mN:Str->Option Value}{rest:List Value}{fI:Addr}{oI:Obj}{Q:Value->Shared->Prop}
 (hC:h.get? C=some (excClassObj nm q C N bs bm hdct sn sub ab col dd k0 k1 k2 k3 k5 newId)) (hn:h.Ns N mN) (hi:mN "__init__"=some (.ref fI)) (hfI:h.get? fI=some oI) (hfc:oI.cls= .type "function")
 (hq:∀h' e,Heap.MadeExcOf h h' e (.ref C) rest->h.objs.size<=e->wpAny (model prog w) (A.under (.builtin "type.__call__" ⟨.ref C::rest,[]⟩)) (call (.ref fI) (.ref e::rest)) (λr s'=>r= .none/\Q (.ref e) s') E ⟨h',g,d,t,os⟩) (hrest:rest.length<=sizeLine):
 wpAny (model prog w) A (call (.ref C) rest) Q E ⟨h,g,d,t,os⟩:=by
 have f1:=tc_lookup
 have f2:=tc_bind (.ref C)
 have hT:(⟨h,g,d,t,os⟩:Shared).TypeIs (.ref C) "type":=⟨_,hC,rfl⟩
 refine wpAny_call (codeAny_of_tree ?_)
 show wpAny _ _ (callAny (.ref C) _) _ _ _
 repeat (any_goals (first
  | assumption
  | with_reducible refine wpAny_loadPart_at hC ?_
  | wp_step))
 exact ⟨rfl,codeAny_call_builtin_at (Code.quiet_builtin _ (by decide +kernel)) entry_typeCall (wpAny_check_type_call_sub hC (qJ F T hC hn hi hfI hfc (λh' e hm hz=>hq h' e hm hz) hrest))⟩
end
theorem nO {M:Model}{A:Around}{E:Value->Shared->Prop}{env:Env}{nm q:Str}{C N:Addr}{bs bm:List Value}{hdct:Bool}{sn:List Str}{sub:List Value}{ab:Bool}{col:Option Bool}{dd:Option Addr}{k0 k1 k2 k3 k5:Option Value}{newId:String}
 {s:Shared} {x:Sem Value} {Q:Flow->Shared->Prop} (hbase:bm.contains (.type "BaseException")=true) (hh:A.handled=none)
 (h:wpAny M A x (λv s₁=>∃e o t,v= .ref e/\s₁.heap.get? C=some (excClassObj nm q C N bs bm hdct sn sub ab col dd k0 k1 k2 k3 k5 newId)/\s₁.heap.get? e=some o/\o.cls= .ref C/\o.data= .fields #[.ref t,.none,.none,.none,.bool false,.none]/\E (.ref e) s₁) E s):
 wpAny M A (raiseStmt env (some x) none) Q E s:=by
 have hcB:(Value.ref C::bm).contains (.type "BaseException")=true:=by rw [List.contains_cons,hbase,Bool.or_true]
 unfold raiseStmt
 refine wpAny_bind (wpAny_mono h (λv s₁ h₁=>?_) λ_ _ x=>x)
 obtain ⟨e,⟨oc,od,odt,osl⟩,t,rfl,hC,he,hc,hd,hE⟩:=h₁
 dsimp only at hc hd
 subst hc hd
 obtain ⟨hp,g,d,tk,os⟩:=s₁
 repeat (first
  | with_reducible refine wpAny_loadPart_at he ?_
  | with_reducible refine wpAny_loadPart_at hC ?_
  | (with_reducible refine wpAny_isSubtype_exc hC ?_;rw [hcB])
  | wp_step)
 exact wpAny_raiseNew_none hh hE
end Fc
namespace Fc
open PySem PySem.W PyProof.Rows
open Builtin Builtin.ObjectAttr
section
variable {prog:Program}{w:World}{A:Around}{E:Value->Shared->Prop}{s:Shared}{K:Frag}{C CE x:Addr}{ox:Obj}{cd:ClassData}{name:Str}{v:Value}
theorem ow (self:Value)(C CE:Addr):refuseLoop self "__setattr__" (.ref C:: .ref CE::ft)=pure ():=by
 rw [refuseLoop_ref,refuseLoop_ref]
 exact PySem.F.store_ValueError.passes self
theorem vn {Q:Unit->Shared->Prop}(X:K.In s.heap)(hx:s.heap.get? x=some ox)(hc:ox.cls= .ref C){vs:Array Value}(hdt:ox.data= .fields vs)(hd:ox.dict=none)
 (hs:findIn K (.ref C) "__setattr__"=some (some (.builtin "object.__setattr__"))) (hk:clsIn K C=some cd) (hm:cd.mro= .ref C:: .ref CE::ft) (hh:cd.hasDict=true) (ha:findIn K (.ref C) name=some none)
 (h:∀h',h'.get? x=some {ox with dict:=some s.heap.objs.size}->(∀b o,b≠x->s.heap.get? b=some o->h'.get? b=some o)->h'.Ns1 s.heap.objs.size (λy=>if y=name then some v else none)->Q () {s with heap:=h',toks:=s.toks + 2}):
 wpAny (model prog w) A (setAttr (.ref x) name v) Q E s:=by
 have I:InstAt s.heap x ox C none:=⟨hx,hc,by unfold notCls;rw [hdt],by rw [hd];trivial⟩
 have SF:=PySem.F.store_object
 refine set_plain X I hs ?_
 have sub:Looks (model prog w) s.heap (isInstance (.ref x) (.type "object")) true:=I.type.andThen (looks_mroIn X (by unfold mroIn;rw [hk,Option.bind_some,hm];rfl))
 refine codeAny_call_builtin SF.slot.plain SF.entry (@check_slot (model prog w) _ _ {s with toks:=s.toks + 1} "object.__setattr__" "object" "__setattr__" (.ref x) [.str name s.toks,v] [] _ SF.kind SF.split sub (SF.args (.ref x) (.str name s.toks) v) ?_)
 have hmr:Looks (model prog w) s.heap (mroOf (.ref C)) cd.mro:=(looks_clsIn X hk).andThen .now
 rw [osa_eq,refuse_eq]
 refine wpAny_bind (wpAny_bind (Looks.here (s:={s with toks:=s.toks + 1}) I.type (wpAny_bind (Looks.here (s:={s with toks:=s.toks + 1}) hmr ?_))))
 rw [hm,ow]
 refine wpAny_pure (wpAny_bind (Looks.here (s:={s with toks:=s.toks + 1}) I.type (wpAny_bind (Looks.here (s:={s with toks:=s.toks + 1}) (looks_findIn X ha) (wpAny_bind (wpAny_pure ?_))))))
 obtain ⟨oc,od,odt,osl⟩:=ox
 dsimp only at hc hd hdt
 subst hc hd hdt
 obtain ⟨hp,g,d,tk,os⟩:=s
 refine wpAny_bind (wpAny_pure (wpAny_bind (wpAny_bind (wpAny_loadPart hx (wpAny_bind (Looks.here (s:=⟨hp,g,d,tk + 1,os⟩) (looks_clsIn X hk) ?_))))))
 rw [hh]
 have hx1:(hp.push {cls:=.type "dict",data:=.dict #[]}).get? x=some ⟨.ref C,none,(.fields vs),osl⟩:=Heap.get?_push_of_some _ hx
 have hxs:x≠hp.objs.size:=Nat.ne_of_lt (Heap.lt_size hx)
 show wpAny (model prog w) A.in1 (alloc {cls:=.type "dict",data:=.dict #[]} >>=λd=>update x (λo=>{o with dict:=some d}) >>=λ_=>pure (some d)) _ _ _
 refine wpAny_bind (wpAny_alloc' (wpAny_bind (wpAny_update' hx1 (wpAny_pure ?_))))
 have hup:((hp.push {cls:=.type "dict",data:=.dict #[]}).update x λo=>{o with dict:=some hp.objs.size}).get? x=some ⟨.ref C,some hp.objs.size,.fields vs,osl⟩:=Heap.get?_update_self _ hx1 rfl
 have hdd:((hp.push {cls:=.type "dict",data:=.dict #[]}).update x λo=>{o with dict:=some hp.objs.size}).get? hp.objs.size=some {cls:=.type "dict",data:=.dict #[]}:=(Heap.get?_update_ne _ _ _ _ hxs.symm).trans (Heap.get?_push_at rfl rfl)
 have hns:((hp.push {cls:=.type "dict",data:=.dict #[]}).update x λo=>{o with dict:=some hp.objs.size}).Ns hp.objs.size (λ_=>none):=⟨_, #[],_,hdd,rfl,λe he=>absurd he (by simp),λ_=>rfl⟩
 show wpAny _ _ (storeInDict hp.objs.size (.str name tk) name v) _ _ _
 unfold storeInDict newKeyGuard
 refine wpAny_bind (wpAny_pure (wpAny_bind (wpAny_nsSet1 (Heap.Ns1.of_empty hns) λh' hn' hs'=>?_)))
 obtain ⟨oD,esD,epD,hoD,hdD,hcD⟩:=hn'.count (PySem.Within.cons name v PySem.Within.nil)
 refine wpAny_bind (wpAny_lookBehind hoD (by rw [hdD];exact pastItsLine_dict (Nat.le_trans hcD (by rw [List.length_cons,List.length_nil,sizeLine_eq];omega))) (wpAny_pure ?_))
 exact h h' ((hs'.2 x hxs).trans hup) (λb o hb e=>(hs'.2 b (Nat.ne_of_lt (Heap.lt_size e))).trans ((Heap.get?_update_ne _ _ _ _ hb).trans (Heap.get?_push_of_some _ e))) hn'
end
end Fc
namespace Fc
open PySem PySem.Spec PySem.W PySem.Calls PySem.Builtin.ObjectAttr PySem.Builtin.Getset_descriptor L2
open PyProof.Rows hiding St
section
variable {prog:Program}{w:World}{A:Around}{E:Value->Shared->Prop}{s:Shared}{K:Frag}{C x:Addr}{ox od:Obj}{cd:ClassData}{name:Str}{v:Value}{ex:Bool}
theorem va {Q:Value->Shared->Prop}(X:K.In s.heap)(e:cx K C=true)(I:InstAt s.heap x ox C (some od))(hk:clsIn K C=some cd)(hh:cd.hasDict=true)(ha:findIn K (.ref C) name=some none)(hl:lookIn name od=some (some v))(hv:handedIn v=true)
 (h:Q v {s with toks:=s.toks + 1}):wpAny (model prog w) A (getAttr (.ref x) name ex) Q E s:=by
 unfold cx at e
 simp only [Bool.and_eq_true,beq_iff_eq] at e
 obtain ⟨⟨⟨⟨⟨⟨⟨hga,hgk⟩,_⟩,hn⟩,htk⟩,hm⟩,hsb⟩,hc⟩:=e
 obtain ⟨hp,g,d,t,os⟩:=s
 have X:K.In hp:=X
 have L0:Looks (model prog w) hp (typeOf (.ref x)) (.ref C):=I.type
 have L1:=looks_findIn (M:=model prog w) X hga
 have L2:=looks_findIn (M:=model prog w) X hgk
 have LB:Looks (model prog w) hp (isSubtype (.ref C) (.type "BaseException")) true:=looks_subIn X hsb
 have F1:Looks (model prog w) hp (find (.ref x) (.ref C) name) (.value v):=looks_find X I (by
  unfold findObj W.ownOf
  rw [hk,ha]
  simp only [Option.bind_some,hh,if_true,hl])
 have hx2:(Value.builtin "BaseException.__getattribute__"==Value.builtin "object.__getattribute__")=false:=by decide +kernel
 have hx1:(onTheHeap (Value.ref C)&&Value.builtin "BaseException.__getattribute__"==Value.builtin "object.__getattribute__")=false:=by rw [hx2];rfl
 unfold getAttr getAttrBy
 refine wpAny_bind (wpAny_mkText (wpAny_holding (wpAny_bind (L0.at (wpAny_bind (L1.at ?_))))))
 dsimp only
 rw [hx1]
 simp only [Bool.false_eq_true,if_false]
 unfold getAttrByItsOwn hookBefore
 have f3:=PySem.F.attr_ValueError.ga.bind (.ref x)
 refine wpAny_bind (L2.at ?_)
 refine wpAny_bind (wpAny_attempt (wpAny_holding ?_))
 have hcg:callGetattribute (.ref x) (.str name t) (.builtin "BaseException.__getattribute__") ex=boundAndCalled (.builtin "BaseException.__getattribute__") (.ref x) (.str name t):=by cases ex<;>rfl
 rw [hcg]
 unfold boundAndCalled
 refine wpAny_bind (wpAny_of_eq f3 ?_)
 have hkd:builtinKind "BaseException.__getattribute__"=some .slot:=by decide +kernel
 have hsplit:splitId "BaseException.__getattribute__"=some ("BaseException","__getattribute__"):=by decide +kernel
 have hargs:=PySem.F.args_bexc_ga (.ref x) (.str name t)
 refine wpAny_call (codeAny_call_builtin PySem.F.attr_ValueError.ga.plain PySem.F.entry_bexc_ga ?_)
 show wpAny _ _ (checkBuiltinCall "BaseException.__getattribute__" ⟨[.ref x,.str name t],[]⟩) _ _ _
 simp only [checkBuiltinCall,hkd,hsplit]
 refine wpAny_bind ?_
 unfold isInstance
 repeat lk
 show wpAny _ _ (handedOut v) _ _ _
 rw [handedOut_of hv]
 exact wpAny_pure h
end
end Fc
namespace Fc
open PySem
section
variable {α:Type}
def xB (f:Obj->Obj):Prop:=∀o,o.isFreed=false->(f o).isFreed=false/\(f o).dict=o.dict
def Tame {α:Type}:Sem α->Prop
 | .pure _=>True
 | .raise _=>True
 | .unsupported _=>True
 | .finish _=>True
 | .rule _ k=>Tame (k ())
 | .at _ k=>Tame (k ())
 | .load _ _ k=>∀o,Tame (k o)
 | .update _ _ f k=>xB f/\Tame (k ())
 | .alloc _ k=>∀a,Tame (k a)
 | .loadIfAlive _ k=>∀o,Tame (k o)
 | .point _ k=>Tame (k ())
 | .fresh k=>∀t,Tame (k t)
 | .ask k=>∀x,Tame (k x)
 | .stack k=>∀x,Tame (k x)
 | _=>False
def dM (h h':Heap):Prop:=∀e o,h.get? e=some o->∃o',h'.get? e=some o'/\o'.dict=o.dict
theorem dM.refl (h:Heap):dM h h:=λe o q=>⟨o,q,rfl⟩
theorem dM.trans {h1 h2 h3:Heap}(a:dM h1 h2)(b:dM h2 h3):dM h1 h3:=λe o q=>by
 obtain ⟨o1,q1,d1⟩:=a e o q
 obtain ⟨o2,q2,d2⟩:=b e o1 q1
 exact ⟨o2,q2,d2.trans d1⟩
theorem oZ (h:Heap)(o:Obj):dM h (h.push o):=λe u q=>⟨u,Heap.get?_push_of_some _ q,rfl⟩
theorem lC {h:Heap}{a:Addr}{f:Obj->Obj}(hf:xB f):dM h (h.update a f):=λe o q=>by
 by_cases z:e=a
 ·subst z
  obtain ⟨h1,h2⟩:=hf o (Heap.get?_some_iff.mp q).2
  exact ⟨f o,Heap.get?_update_self f q h1,h2⟩
 ·exact ⟨o,(Heap.get?_update_ne _ _ _ _ z).trans q,rfl⟩
theorem vF {M:Model}{Γ:Ctx}{Q:α->Pos->Shared->Prop}{E:Value->Pos->Shared->Prop}:∀(t:Sem α) (p:Pos) (s:Shared),Tame t->Sem.wp M Γ t Q E p s->Sem.wp M Γ t (λa p' s'=>Q a p' s'/\dM s.heap s'.heap) E p s:=by
 have key:∀(t:Sem α) (h0:Heap) (p:Pos) (s:Shared),Tame t->dM h0 s.heap->Sem.wp M Γ t Q E p s->Sem.wp M Γ t (λa p' s'=>Q a p' s'/\dM h0 s'.heap) E p s:=by
  intro t h0
  induction t with
  | pure a=>intro p s _ k h;rw [Sem.wp] at h ⊢;exact ⟨h,k⟩
  | raise e=>intro p s _ k h;rw [Sem.wp] at h ⊢;exact h
  | unsupported _=>intro p s _ k h;rw [Sem.wp] at h;exact h.elim
  | finish _=>intro p s _ k h;rw [Sem.wp] at h;exact h.elim
  | rule _ _ ih=>intro p s t k h;rw [Sem.wp] at h ⊢;exact ih () p s t k h
  | «at» p' _ ih=>intro p s t k h;rw [Sem.wp] at h ⊢;exact ih () p' s t k h
  | load a _ _ ih=>intro p s t k h;rw [Sem.wp] at h ⊢;obtain ⟨o,h1,h2⟩:=h;exact ⟨o,h1,ih o p s (t o) k h2⟩
  | update a _ f _ ih=>intro p s t k h;rw [Sem.wp] at h ⊢;exact ⟨h.1,ih () p _ t.2 (k.trans (lC t.1)) h.2⟩
  | alloc o _ ih=>intro p s t k h;rw [Sem.wp] at h ⊢;exact ih _ p _ (t _) (k.trans (oZ _ _)) h
  | loadIfAlive a _ ih=>intro p s t k h;rw [Sem.wp] at h ⊢;exact ih _ p s (t _) k h
  | point _ _ ih=>intro p s t k h;rw [Sem.wp] at h ⊢;exact ih () p s t k h
  | fresh _ ih=>intro p s t k h;rw [Sem.wp] at h ⊢;exact ih _ p _ (t _) k h
  | ask _ ih=>intro p s t k h;rw [Sem.wp] at h ⊢;exact ih _ p s (t _) k h
  | stack _ ih=>intro p s t k h;rw [Sem.wp] at h ⊢;exact ih _ p s (t _) k h
  | register _ _ _=>intro p s t k h;exact t.elim
  | choose _ _ _ _=>intro p s t k h;exact t.elim
  | os _ _ _ _=>intro p s t k h;exact t.elim
  | call _ _ _ _ _ _=>intro p s t k h;exact t.elim
  | handled _ _ _=>intro p s t k h;exact t.elim
  | newGen _ _ _=>intro p s t k h;exact t.elim
  | genState _ _ _=>intro p s t k h;exact t.elim
  | resume _ _ _ _ _=>intro p s t k h;exact t.elim
  | yield _ _ _ _ _=>intro p s t k h;exact t.elim
  | fork _ _ _=>intro p s t k h;exact t.elim
  | thread _ _=>intro p s t k h;exact t.elim
  | await _ _ _ _ _ _=>intro p s t k h;exact t.elim
 exact λt p s ht h=>key t s.heap p s ht (dM.refl _) h
theorem eI {M:Model}{A:Around}{t:Sem α}{Q:α->Shared->Prop}{E:Value->Shared->Prop}{s:Shared}(ht:Tame t)(h:wpAny M A t Q E s):wpAny M A t (λa s'=>Q a s'/\dM s.heap s'.heap) E s:=λΓ p hΓ=>vF t p s ht (h Γ p hΓ)
theorem aW {β:Type}{m:Sem α}{f:α->Sem β}(h1:Tame m)(h2:∀a,Tame (f a)):Tame (m >>=f):=by
 show Tame (m.bind f)
 induction m with
 | pure a=>exact h2 a
 | raise e=>trivial
 | unsupported _=>trivial
 | finish _=>trivial
 | rule _ _ ih=>exact ih () h1
 | «at» p' _ ih=>exact ih () h1
 | load a _ _ ih=>exact λo=>ih o (h1 o)
 | update a _ f _ ih=>exact ⟨h1.1,ih () h1.2⟩
 | alloc o _ ih=>exact λo=>ih o (h1 o)
 | loadIfAlive a _ ih=>exact λo=>ih o (h1 o)
 | point _ _ ih=>exact ih () h1
 | fresh _ ih=>exact λo=>ih o (h1 o)
 | ask _ ih=>exact λo=>ih o (h1 o)
 | stack _ ih=>exact λo=>ih o (h1 o)
 | register _ _ _=>exact h1.elim
 | choose _ _ _ _=>exact h1.elim
 | os _ _ _ _=>exact h1.elim
 | call _ _ _ _ _ _=>exact h1.elim
 | handled _ _ _=>exact h1.elim
 | newGen _ _ _=>exact h1.elim
 | genState _ _ _=>exact h1.elim
 | resume _ _ _ _ _=>exact h1.elim
 | yield _ _ _ _ _=>exact h1.elim
 | fork _ _ _=>exact h1.elim
 | thread _ _=>exact h1.elim
 | await _ _ _ _ _ _=>exact h1.elim
theorem bc (a:α):Tame (pure a:Sem α):=trivial
theorem iC (a:Addr):Tame (load a):=λ_=>trivial
theorem cK (x:String):Tame (unsupported x:Sem α):=trivial
theorem gZ:Tame stack:=λ_=>trivial
theorem mV (v:Value):Tame (fieldsOf v):=by
 unfold fieldsOf
 cases v<;>first | exact cK _ | skip
 refine aW (iC _) λo=>?_
 split
 ·exact bc _
 ·exact cK _
theorem fA (v:Value)(i:Nat):Tame (field v i):=by
 unfold field
 refine aW (mV v) λvs=>?_
 split
 ·exact bc _
 ·exact cK _
theorem nX (f:Array Value->Array Value):xB (Obj.mapFields f):=λo h=>by
 obtain ⟨c,d,dt,sl⟩:=o
 cases dt<;>first | exact ⟨h,rfl⟩ | exact ⟨rfl,rfl⟩
theorem fk (v:Value)(i:Nat)(x:Value):Tame (setField v i x):=by
 unfold setField
 cases v<;>first | exact cK _ | skip
 unfold updateField
 refine aW (iC _) λo=>?_
 split
 ·split
  ·exact ⟨nX _,trivial⟩
  ·exact cK _
 ·exact cK _
theorem eQ (v:Value)(f:Option Addr):Tame (setFlight v f):=by
 unfold setFlight
 refine aW (fA _ _) λtb=>?_
 split
 ·exact fk _ _ _
 ·exact bc _
theorem mS (env:Env)(outer:List Env):Tame (behindIsImport env outer):=by
 unfold behindIsImport
 split
 ·exact bc _
 ·split
  ·exact bc _
  ·exact aW (fA _ _) λ_=>bc _
theorem qA (env:Env)(b:Bool)(l:List Env):Tame (keptBack env b l):=by
 unfold keptBack
 split
 ·split
  ·exact bc _
  ·refine aW ?_ λ_=>bc _
   unfold underTheClaimsCaller
   exact aW gZ λ_=>bc _
 ·exact bc _
theorem jH:∀l:List Env,Tame (readyFrames l)
 | []=>bc _
 | env::outer=>by
   unfold readyFrames
   split
   ·refine aW (iC _) λo=>?_
    split
    ·exact bc _
    ·refine aW (mS _ _) λb=>aW (qA _ _ _) λv=>aW ⟨λo h=>⟨?_,rfl⟩,trivial⟩ λ_=>jH outer
     obtain ⟨c,d,dt,sl⟩:=o
     cases dt<;>first | rfl | exact h
   ·exact cK _
theorem lW (env:Env):Tame (frameOf env):=by
 unfold frameOf frameEnvs
 refine aW (aW gZ λ_=>bc _) λl=>aW ?_ λr=>?_
 ·unfold frameObject
  split
  ·exact bc _
  ·exact aW (jH _) λ_=>bc _
 ·split
  ·exact bc _
  ·exact cK _
theorem oM (f:Addr)(b:Bool):Tame (entryPlaceOf f b):=by
 unfold entryPlaceOf
 refine aW gZ λacts=>?_
 split
 ·exact bc _
 ·first | exact bc _ | exact cK _
theorem jD (o:Obj):Tame (alloc o):=λ_=>trivial
theorem sN (vs:List Value):Tame (newFields "traceback" vs):=by
 unfold newFields newObj newObjAsIs
 dsimp only
 split
 ·exact aW (cK _) λ_=>aW (jD _) λ_=>bc _
 ·exact aW (jD _) λ_=>bc _
theorem kS (e:Value)(env:Env):Tame (noteFrame e env):=by
 unfold noteFrame
 split
 ·refine aW (fA _ _) λhead=>?_
  have jp:∀d:Addr,Tame (do
   let a ← frameOf env
   let b ← entryPlaceOf d (head != Value.none)
   let c ← EntryCells.newEntry head a Value.none (rawInt d) Value.none b
   setField e 1 c):=λd=>by
   refine aW (lW _) λa=>aW (oM _ _) λb=>aW ?_ λc=>fk _ _ _
   exact sN _
  dsimp only
  split
  ·refine aW (fA _ _) λx=>?_
   split
   ·exact bc _
   ·exact aW (fk _ _ _) λ_=>jp _
  ·exact jp _
 ·exact cK _
theorem iO (env:Env)(e:Value):Tame (leaving env e):=by
 unfold leaving
 exact aW (kS _ _) λ_=>eQ _ _
end
end Fc
namespace Fc
open PySem PySem.Spec L2
open PyProof.Rows hiding St
section
variable {H:Hp}{nm:Str}{e:Addr}{o:Obj}{K:PySem.W.Frag}{x:Str}{C fI:Addr}{P:Program}{w:World}{h:Heap}{X:Cx}{pins:List (Addr×Obj)}{σ:St}{s:Shared}
structure hZ (K:PySem.W.Frag) (mg:Str->Option Value) (x nm:Str) (C CE fI:Addr):Prop where
 bound:mg x=some (.ref C)
 lk:∃n bs ns qn sn sub ab col dd k0 k1 k2 k3 k5,K.lookup C=some (excClassObj n qn C ns bs (.ref CE::ft) true sn sub ab col dd k0 k1 k2 k3 k5 "ValueError.__new__")/\PySem.W.nsOkIn K ns=true/\PySem.W.nsIn K ns "__init__"=some (some (.ref fI))
 tl:PySem.W.tailIn K ft (.ref CE::ft)=true
 fn:PySem.W.isFn K (.ref fI)=true
 kp:PySem.W.keepIn K (.ref C)=true
 sa:PySem.W.findIn K (.ref C) "__setattr__"=some (some (.builtin "object.__setattr__"))
 no:PySem.W.findIn K (.ref C) nm=some none
 look:cx K C=true
theorem hZ.cls {mg:Str->Option Value}{CE:Addr}(c:hZ K mg x nm C CE fI):∃cd,PySem.W.clsIn K C=some cd/\cd.mro= .ref C:: .ref CE::ft/\cd.hasDict=true:=by
 obtain ⟨n,bs,ns,qn,sn,sub,ab,col,dd,k0,k1,k2,k3,k5,h,_⟩:=c.lk
 exact ⟨{name:=n,bases:=bs,mro:=.ref C:: .ref CE::ft,ns:=ns,qualname:=qn,hasDict:=true,slotNames:=sn,subclasses:=sub,abstract:=ab,collection:=col,hasDel:=false},by unfold PySem.W.clsIn;rw [h],rfl,rfl⟩
abbrev cY (e:Addr)(o:Obj):HO:=.ext λh=>h.get? e=some o
abbrev fJ (o:Obj)(d:Addr):Obj:={o with dict:=some d}
def lM (C:Addr)(nm:Str):Sp:=λvs H Q _=>∃e n t,vs=[.ref e,.int n]/\H e=some (cY e (dw C t))/\∀dx,H dx=none->dx≠e->Q .non (upd (upd H dx (.xd [(nm,.int n)])) e (cY e (fJ (dw C t) dx)))
theorem lZ (q:h.get? e=some o):br P w H h e (cY e o):=⟨q,⟨o,q⟩,λh1 h2 p k=>k o p⟩
theorem Inv.stored {h':Heap}{n:Int}{tk:Nat}{v:Value}(I:Inv X pins σ H s)(he:H e=some (cY e o))(rv:RelV (.int n) v)(q1:h'.get? e=some (fJ o s.heap.objs.size))(q2:∀b u,b≠e->s.heap.get? b=some u->h'.get? b=some u)(q3:h'.Ns1 s.heap.objs.size (λy=>if y=nm then some v else none)):
 Inv X pins σ (upd (upd H s.heap.objs.size (.xd [(nm,.int n)])) e (cY e (fJ o s.heap.objs.size))) {s with heap:=h',toks:=tk}:=by
 obtain ⟨od,es,ep,hd,rest⟩:=id q3
 have hne:e≠s.heap.objs.size:=λz=>by
  have:=I.hok.fresh (a:=s.heap.objs.size) (Nat.le_refl _)
  rw [← z,he] at this;cases this
 have hnf:od.isFreed=false:=(Heap.get?_some_iff.mp hd).2
 have hm:(s.heap.push od).get? s.heap.objs.size=some od:=Heap.get?_push_size _ hnf
 have I2:Inv X pins σ (upd H s.heap.objs.size (.xd [(nm,.int n)])) {s with heap:=s.heap.push od,toks:=tk}:=I.laid (a:=s.heap.objs.size) (o:=.xd [(nm,.int n)]) (t':=tk) (λb u q=>Heap.get?_push_of_some _ q) (Nat.le_refl _) ⟨_,⟨od,es,ep,hm,rest⟩,λf=>by
  by_cases z:f=nm
  ·subst z
   rw [List.lookup_cons,beq_self_eq_true,if_pos rfl]
   exact rv
  ·rw [List.lookup_cons,show (f==nm)=false by simpa using z,if_neg z]
   trivial⟩
 have he2:upd H s.heap.objs.size (.xd [(nm,.int n)]) e=some (cY e o):=(az hne).trans he
 exact I2.write (x:=e) (e:=e) (o:=cY e (fJ o s.heap.objs.size)) (t':=tk) (by rw [he2];trivial) (.inl rfl) (λb u hb q=>by
  by_cases z:b=s.heap.objs.size
  ·subst z
   have q:(s.heap.push od).get? s.heap.objs.size=some u:=q
   rw [hm] at q;cases q
   exact hd
  ·exact q2 b u hb ((Heap.get?_push_ne _ _ _ z).symm.trans q)) ⟨_,q1⟩ (lZ q1)
theorem vc {mg:Str->Option Value}{base:Heap}{y self pl:Str}{CE:Addr}{st:Stmt}{fd:FuncData}{p1 p2 p3 p4:Pos}(c:hZ K mg x nm C CE fI)(F:bL K "__init__" y st fI fd)(Sc:aR [self,pl] [self,pl] (aq st))(nd:self≠pl)
 (hb:bz st=[.Assign [.Attribute (.Name self p1) nm p2] (.Name pl p3) p4]) (hs:∀env,swapsWith (.Name pl p3) (some (.Attribute (.Name self p1) nm p2)) p4.line env=pure false)
 (hv1:cT (aq st) self) (hv2:cT (aq st) pl) (d1:(self==("__debug__":Str))=false) (d2:(self==("__classdict__":Str))=false) (d3:(pl==("__debug__":Str))=false) (d4:(pl==("__classdict__":Str))=false):
 cq P w K mg base cL 1 fI fd [self,pl] (lM C nm):=by
 obtain ⟨oc,od,kV,doc,pm,an,cdv,ct,osl,rfl,lk,hcd⟩:=F.ex
 refine oY lk hcd Sc (λvs H Q E ⟨_,_,_,e,_⟩=>by rw [e];rfl) (λA outer s H vs Q E hr h=>?_)
 obtain ⟨e,n,t,rfl,he,q⟩:=h
 refine ⟨_,eh,?_⟩
 rw [hb]
 refine nv (kj tG) ?_
 intro pins s1 I
 obtain ⟨cd,hk,hm,hh⟩:=c.cls
 have hp1:=bB (X:=bA cL P w K mg base [self,pl] y (aq st) fI cdv A outer s H E) (i:=1) (x:=pl) (pos:=p3) rfl hv2 d3 d4 pins s1 (L2.start [self,pl] [.ref e,.int n]) H (λu H'=>u= .int n/\H'=H) I ⟨.int n,rfl,rfl,rfl⟩
 refine plainObj_wpAny_Assign_Attribute (aI hp1 λu s2 ⟨y,H1,I1,ry,e1,e2⟩=>?_) (hs _)
 subst e1 e2
 have hp2:=bB (X:=bA cL P w K mg base [self,pl] _ (aq st) fI cdv A outer s H1 E) (i:=0) (x:=self) (pos:=p1) rfl hv1 d1 d2 pins s2 (L2.start [self,pl] [.ref e,.int n]) H1 (λu H'=>u= .ref e/\H'=H1) I1 ⟨.ref e,rfl,rfl,rfl⟩
 refine aI hp2 λov s3 ⟨y2,H2,I2,ry2,e3,e4⟩=>?_
 subst e3 e4
 obtain rfl:ov=Value.ref e:=ry2
 have hobj:s3.heap.get? e=some (dw C t):=(I2.hok e _ he).1
 refine vn (K:=K) (cd:=cd) (CE:=CE) I2.cz hobj rfl rfl rfl c.sa hk hm hh c.no λh' q1 q2 q3=>?_
 have I3:=Inv.stored (nm:=nm) (tk:=s3.toks + 2) I2 he ry q1 q2 q3
 exact ⟨_,_,I3,q _ (I2.hok.fresh (Nat.le_refl _)) λz=>by have:=I2.hok.fresh (a:=s3.heap.objs.size) (Nat.le_refl _);rw [z,he] at this;cases this⟩
theorem bO.drop (k:bO P w (upd H e (cY e o)) h)(h0:H e=none):bO P w H h:=λb u q=>by
 have hb:b≠e:=λz=>by rw [z,h0] at q;cases q
 have q2:upd H e (cY e o) b=some u:=(az hb).trans q
 refine (k b u q2).eP (λc v _ r=>r) (λc r=>?_) λc xs r=>?_
 ·by_cases z:c=e
  ·rw [z,aA] at r;cases r
  ·rw [az z] at r;exact r
 ·by_cases z:c=e
  ·rw [z,aA] at r;cases r
  ·rw [az z] at r;exact r
theorem Inv.drop (I:Inv X pins σ (upd H e (cY e o)) s)(h0:H e=none):Inv X pins σ H s:=by
 have le:∀b,upd H e (cY e o) b=none->H b=none:=λb q=>by
  by_cases z:b=e
  ·rw [z];exact h0
  ·rw [az z] at q;exact q
 have un:∀b u,upd H e (cY e o) b=some u->(∀φ,u≠ .ext φ)->H b=some u:=λb u q n=>by
  by_cases z:b=e
  ·rw [z,aA] at q;cases q;exact absurd rfl (n _)
  ·rw [az z] at q;exact q
 refine ⟨I.ok,I.os,I.bare,⟨I.base.keep,I.base.slot,λb u q n x=>le b (I.base.free b u q n x),I.base.there,λb xs q=>un b _ (I.base.tups b xs q) (λ_ z=>by cases z),λb o' u q=>un b _ (I.base.frzs b o' u q) (λ_ z=>by cases z),λb ps q=>?_⟩,I.loc,I.cell,le _ I.free,λx c q=>le _ (I.freeC x c q),λp hp=>?_,bO.drop I.hok h0,I.len⟩
 ·obtain ⟨more,r⟩:=I.base.tbls b ps q
  exact ⟨more,un b _ r (λ_ z=>by cases z)⟩
 ·obtain ⟨a1,a2,a3⟩:=I.pin p hp
  exact ⟨a1,le _ a2,a3⟩
theorem vY {N:Addr}{m:Str->Option Value}{n:Str}{v:Value}(X:K.In h)(G:h.Ns N m)(e:PySem.W.nsIn K N n=some (some v)):m n=some v:=by
 obtain ⟨o,es,ep,ho,hd,_,hf⟩:=G
 unfold PySem.W.nsIn at e
 split at e
 ·rename_i oc od es' n' sl hl
  have z:=(X _ _ hl).symm.trans ho
  cases z
  cases hd
  split at e
  ·rename_i en hfind
   cases e
   rw [← hf n]
   unfold nsFind findBy
   rw [← Array.find?_toList,hfind];rfl
  ·split at e<;>cases e
 ·cases e
theorem vh {self pl:Str}{CE:Addr}{fd:FuncData}{n:Int}{u:Value}{Q:Value->Shared->Prop}{Ex:Value->Shared->Prop}(c:hZ X.K X.mg x nm C CE fI)(FI:cq X.prog X.w X.K X.mg X.base cL 1 fI fd [self,pl] (lM C nm))(hb:Binds X.K fd [self,pl] [])(hr:bg 2 X.A)(I:Inv X pins σ H s)(rv:RelV (.int n) u)
 (h:∀e dx t s',H e=none->H dx=none->dx≠e->s.heap.get? e=none->s'.heap.get? e=some (fJ (dw C t) dx)->Inv X pins σ (upd H dx (.xd [(nm,.int n)])) s'->Q (.ref e) s'):wpAny (model X.prog X.w) X.A (call (.ref C) [u]) Q Ex s:=by
 obtain ⟨nm',bs,ns,qn,sn,sub,ab,col,dd,k0,k1,k2,k3,k5,hC,hok,hni⟩:=c.lk
 have KX:=I.cz
 obtain ⟨hp,g,d,t,os⟩:=s
 have hN:hp.Ns ns (hp.nsMap ns):=.of_isNs (PySem.W.isNs_of_in KX hok)
 have hini:hp.nsMap ns "__init__"=some (.ref fI):=vY KX hN hni
 obtain ⟨oI,hfI,hfc⟩:∃oI,hp.get? fI=some oI/\oI.cls= .type "function":=by
  have q:PySem.W.typeIn X.K (.ref fI)=some (.type "function"):=beq_iff_eq.mp c.fn
  obtain ⟨o,ho,hc⟩:=Option.map_eq_some_iff.mp q
  exact ⟨o,KX _ _ ho,hc⟩
 refine qf PySem.F.excBase_ValueError (PySem.W.tail_of_in KX c.tl) (KX _ _ hC) hN hini hfI hfc (λh' e hm hz=>?_) (by show 1<=sizeLine;decide)
 obtain ⟨tt,he,htn,ht⟩:=hm.there
 have fe:H e=none:=I.hok.fresh hz
 have I1:Inv X pins σ (upd H e (cY e (dw C tt))) ⟨h',g,d,t,os⟩:=I.laid (a:=e) (o:=cY e (dw C tt)) (t':=t) hm.keeps hz (lZ he)
 have r2:Vals [V.ref e,V.int n] [Value.ref e,u]:=.cons rfl (.cons rv .nil)
 have sp:lM C nm [V.ref e,V.int n] (upd H e (cY e (dw C tt))) (λv H2=>v= .non/\∃dx,(upd H e (cY e (dw C tt))) dx=none/\dx≠e/\H2=upd (upd (upd H e (cY e (dw C tt))) dx (.xd [(nm,.int n)])) e (cY e (fJ (dw C tt) dx))) (λ_ _ _=>False):=⟨e,n,tt,rfl,aA,λdx h1 h2=>⟨rfl,dx,h1,h2,rfl⟩⟩
 refine wpAny_call (codeAny_mono (FI.run _ X.stack ⟨h',g,d,t,os⟩ _ ⟨[Value.ref e,u],[]⟩ [Value.ref e,u] _ _ _ ((hr.make C [u] [])) (I1.oW.make C [u] []) (hb _ [Value.ref e,u] I1.cz rfl) r2 sp) λr s' hq=>?_)
 cases r with
 | error ev=>exact False.elim hq
 | ok fl=>
   cases fl with
   | ret v=>
     obtain ⟨y,H2,I3,ry,rfl,dx,g1,g2,rfl⟩:=I1.after hq
     have g1:H dx=none:=by rw [az g2] at g1;exact g1
     have e3:upd (upd (upd H e (cY e (dw C tt))) dx (.xd [(nm,.int n)])) e (cY e (fJ (dw C tt) dx))=upd (upd H dx (.xd [(nm,.int n)])) e (cY e (fJ (dw C tt) dx)):=by
      funext b
      by_cases z:b=e
      ·subst z;rw [aA,aA]
      ·rw [az z,az z]
       by_cases z2:b=dx
       ·subst z2;rw [aA,aA]
       ·rw [az z2,az z2,az z]
     rw [e3] at I3
     refine ⟨ry,h e dx tt s' fe g1 g2 hm.new ((I3.hok e _ aA).1) (Inv.drop I3 ((az (Ne.symm g2)).trans fe))⟩
   | next=>exact False.elim hq
   | brk=>exact False.elim hq
   | cont=>exact False.elim hq
def dA (P:Program)(w:World):gI:=λouter H s E ev s'=>∃e T cls dx H',ev= .ref e/\s'.os=s.os/\AllBare s'.gens/\Un (bo outer) [] H H' s.heap s'.heap/\bO P w H' s'.heap/\nz s.heap s'.heap H' e T cls/\(∃oe,s'.heap.get? e=some oe/\oe.dict=some dx)/\E cls (some dx) H'
end
section
variable {P:Program}{w:World}{K:PySem.W.Frag}{mg:Str->Option Value}{base:Heap}{N:List Str}{qual:Str}{scope:Scope}{f:Addr}{cd:Value}{A:Around}{outer:List Env}{s:Shared}{H:Hp}{E:XK}
theorem lh {pins:List (Addr×Obj)}{σ:St}{H1 H2:Hp}{s1 s2:Shared}{e dx t C:Addr}(I1:Inv (bA (dA P w) P w K mg base N qual scope f cd A outer s H E) pins σ H1 s1)(ne:s1.heap.get? e=none)(fe:H2 e=none)
 (I2:Inv (bA (dA P w) P w K mg base N qual scope f cd A outer s H E) pins σ H2 s2) (he:s2.heap.get? e=some (fJ (dw C t) dx)) (q:E (.ref C) (some dx) H2):(bA (dA P w) P w K mg base N qual scope f cd A outer s H E).xe (.ref e) s2:=by
 have hst:s2.heap.FunFrames base (envOfC qual scope s.heap.objs.size f cd::outer):=I2.stack
 have hfs:∀b∈bo (envOfC qual scope s.heap.objs.size f cd::outer),H2 b=none:=I2.fM
 have hff:s2.heap.FunFrames (PySem.W.hideAll s2.heap (e::bo (envOfC qual scope s.heap.objs.size f cd::outer))) (envOfC qual scope s.heap.objs.size f cd::outer):=gK hst λb hb=>List.mem_cons_of_mem _ hb
 show wpAny (model P w) (A.deeper (envOfC qual scope s.heap.objs.size f cd)) (leaving (envOfC qual scope s.heap.objs.size f cd) (.ref e)) _ _ _
 refine wpAny_mono (eI (iO _ _) (wpAny_leaving_firstW (Q:=λ_ s'=>∃h',s'={s2 with heap:=h'}/\Heap.LeftW (PySem.W.hideAll s2.heap (e::bo (envOfC qual scope s.heap.objs.size f cd::outer))) (envOfC qual scope s.heap.objs.size f cd::outer) e (.ref C) (.ref t) s2.heap h') (a0:=.ref t) I2.ok.frames hff rfl he (λb o z=>PySem.W.of_hideAll _ z) (PySem.W.hideAll_none _ List.mem_cons_self) rfl rfl rfl λh' hL=>⟨h',rfl,hL⟩)) (λ_ s' hq=>?_) λ_ _ z=>z
 obtain ⟨⟨h',rfl,st,hfr,⟨oe,vs,T,oT,ts,he2,hc,hd,h1,hnT,hTe,hT,hdT,h3⟩,up⟩,kd⟩:=hq
 have keep:∀b o,s2.heap.get? b=some o->b∉bo (envOfC qual scope s.heap.objs.size f cd::outer)->b≠e->h'.get? b=some o:=λb o r hb n=>st b o (PySem.W.hideAll_get _ r λz=>by
  rcases List.mem_cons.mp z with z | z
  ·exact n z
  ·exact hb z)
 have upF:∀b o,s2.heap.get? b=some o->b∈bo (envOfC qual scope s.heap.objs.size f cd::outer)->∃sl,h'.get? b=some {o with slots:=sl}:=λb o r hb=>by
  obtain ⟨_,o2,r2,nf⟩:=hff.mem hb
  rw [r] at r2;cases r2
  exact up b o r nf
 have b1:Un (bo outer) [] H H1 s.heap s1.heap:=I1.base
 have b2:Un (bo outer) [] H H2 s.heap s2.heap:=I2.base
 have ne0:s.heap.get? e=none:=dh b1 ne
 have nb:∀b o,s.heap.get? b=some o->b≠e:=λb o r z=>by rw [z,ne0] at r;cases r
 have nfr:∀b o,s.heap.get? b=some o->b∉bo outer->b∉bo (envOfC qual scope s.heap.objs.size f cd::outer):=λb o r hb z=>by
  have z':b∈(envOfC qual scope s.heap.objs.size f cd::outer).filterMap (·.frame):=z
  rw [List.filterMap_cons] at z'
  rcases List.mem_cons.mp z' with y | y
  ·have:=Heap.lt_size r
   rw [y] at this
   exact absurd this (Nat.lt_irrefl _)
  ·exact hb y
 have sub:∀b,b∈bo outer->b∈bo (envOfC qual scope s.heap.objs.size f cd::outer):=λb z=>by
  show b∈(envOfC qual scope s.heap.objs.size f cd::outer).filterMap (·.frame)
  rw [List.filterMap_cons]
  exact List.mem_cons_of_mem _ z
 have un2:Un (bo outer) [] H H2 s.heap h':=⟨λb o r n hb hx=>keep b o (b2.keep b o r n hb hx) (nfr b o r hb) (nb b o r),λb o r n hb hx=>by
  obtain ⟨sl,r2⟩:=b2.slot b o r n hb hx
  obtain ⟨sl',r3⟩:=upF b _ r2 (sub b hb)
  exact ⟨sl',r3⟩,b2.free,λb o r hx=>by
  obtain ⟨o',r2⟩:=b2.there b o r hx
  by_cases z:b∈bo (envOfC qual scope s.heap.objs.size f cd::outer)
  ·obtain ⟨sl,r3⟩:=upF b o' r2 z
   exact ⟨_,r3⟩
  ·exact ⟨o',keep b o' r2 z (nb b o r)⟩,b2.tups,b2.frzs,b2.tbls⟩
 have hok2:bO P w H2 h':=λb x qx=>by
  refine (I2.hok b x qx).eP (λc v hc' r=>?_) (λ_ r=>r) λ_ _ r=>r
  have hcn:H2 c≠none:=by
   rcases hc' with rfl | hc'
   ·rw [qx];exact Option.some_ne_none _
   ·rw [hc'];exact Option.some_ne_none _
  exact keep c v r (λz=>hcn (hfs c z)) λz=>hcn (z▸fe)
 obtain ⟨oe',r1,r2⟩:=kd e _ he
 have nT2:s2.heap.get? T=none:=by
  cases r:s2.heap.get? T with
  | none=>rfl
  | some o=>
    exfalso
    by_cases z:T∈e::bo (envOfC qual scope s.heap.objs.size f cd::outer)
    ·rcases List.mem_cons.mp z with z | z
     ·exact hTe z
     ·obtain ⟨_,o2,r3,nf⟩:=hff.mem z
      rw [r] at r3;cases r3
      obtain ⟨sl,r4⟩:=upF T o r z
      rw [hT] at r4;cases r4
      exact nf ts hdT
    ·rw [PySem.W.hideAll_get _ r z] at hnT;cases hnT
 exact ⟨e,T,.ref C,dx,H2,rfl,I2.os,I2.bare,un2,hok2,⟨⟨oe,vs,oT,ts,_,he2,hc,hd,h1,hTe,hT,hdT,h3⟩,ne0,dh b2 nT2,fe,bO.none_of I2.hok nT2⟩,⟨oe',r1,r2⟩,q⟩
end
inductive sD
 | ret (T:RT)
 | exc (cls:Value) (fs:List (Str×V))
abbrev iS:=PySem.W.Frag->List Pk->sD->Prop
def sD.meets (H R:Hp)(Q:VK)(E:XK):sD->Prop
 | .ret T=>∀v H' R',Ext H R H' R'->T H v H' R'->Q v H'
 | .exc c fs=>∀H' R' dx,Ext H R H' R'->H dx=none->R' dx=some (.xd fs)->E c (some dx) H'
def gT (S:iS)(K:PySem.W.Frag):Sp:=λvs H Q E=>∃R ps o,aj R H/\fu K R vs ps/\S K ps o/\o.meets H R Q E
structure fq (P:Program) (w:World) (K:PySem.W.Frag) (mg:Str->Option Value) (base:Heap) (x:Str) (k:Nat) (sp:Sp):Prop where
 ex:∃f fd ps,cq P w K mg base (dA P w) k f fd ps sp/\mg x=some (.ref f)/\PySem.W.keepIn K (.ref f)=true/\Binds K fd ps []
section
variable {P:Program}{w:World}{K:PySem.W.Frag}{mg:Str->Option Value}{base:Heap}
theorem mB {S:iS}{x qual:Str}{st:Stmt}{f:Addr}{fd:FuncData}{N ps:List Str}{k:Nat}(F:bL K x qual st f fd)(Sc:aR N ps (aq st))(hm:mg x=some (.ref f))(hb:Binds K fd ps [])(len:∀qs o,S K qs o->qs.length=ps.length)(hno:∀qs T,¬S K qs (.ret T))
 (hexc:∀(cdv:Value) (A:Around) (outer:List Env) (s:Shared) (H R:Hp) (E:XK) (qs:List Pk) (c:Value) (fs:List (Str×V)),bg k (A.deeper (envOfC qual (aq st) s.heap.objs.size f cdv))->S K qs (.exc c fs)->(∀H' R' dx,Ext H R H' R'->H dx=none->R' dx=some (.xd fs)->E c (some dx) H')->
  RS (bA (dA P w) P w K mg base N qual (aq st) f cdv A outer s H E) H R (bz st) (eG qs N.length)):fq P w K mg base x (k + 1) (gT S K):=by
 obtain ⟨oc,od,kV,doc,pm,an,cdv,ct,osl,rfl,lk,hcd⟩:=F.ex
 refine ⟨f,_,ps,?_,hm,F.kp,hb⟩
 refine oY lk hcd Sc (λvs H Q E h=>?_) (λA outer s H vs Q E hr h=>?_)
 ·obtain ⟨R,qs,o,_,p,hS,_⟩:=h
  rw [p.length];exact len qs o hS
 ·obtain ⟨R,qs,o,sR,p,hS,q⟩:=h
  have hl:qs.length<=N.length:=by
   rw [len qs o hS]
   have:=congrArg List.length Sc.pre
   rw [List.length_take] at this
   omega
  cases o with
  | ret T=>exact absurd hS (hno qs T)
  | exc c fs=>exact ⟨_,eh,hexc cdv A outer s H R E qs c fs hr hS q (L2.start N vs) H R (fj sR p hl) _⟩
end
section
variable {P:Program}{w:World}{K:PySem.W.Frag}{mg:Str->Option Value}{base:Heap}{N:List Str}{qual:Str}{scope:Scope}{f:Addr}{cd:Value}{A:Around}{outer:List Env}{s:Shared}{H R:Hp}{E:XK}{Γ Γ1:Ga}
theorem kG {x nm self pl:Str}{C CE fI:Addr}{fdI:FuncData}{np cp pos:Pos}{a:Expr}{n:Int}{rest:List Stmt}(c:hZ K mg x nm C CE fI)(FI:cq P w K mg base cL 1 fI fdI [self,pl] (lM C nm))(hb:Binds K fdI [self,pl] [])(hr:bg 2 (A.deeper (envOfC qual scope s.heap.objs.size f cd)))
 (ha:HA (bA (dA P w) P w K mg base N qual scope f cd A outer s H E).cD [a] Γ [⟨ae,n⟩] Γ1) (q:∀H' R' dx,Ext H R H' R'->H dx=none->R' dx=some (.xd [(nm,.int n)])->E (.ref C) (some dx) H')
 (hg:Gl (bA (dA P w) P w K mg base N qual scope f cd A outer s H E) x:=by rfl) (hdb:(x==("__debug__":Str))=false:=by decide) (he:starEach [a] (bA (dA P w) P w K mg base N qual scope f cd A outer s H E).env=(false,eval a (bA (dA P w) P w K mg base N qual scope f cd A outer s H E).env)::starEach [] (bA (dA P w) P w K mg base N qual scope f cd A outer s H E).env:=by rfl):
 RS (bA (dA P w) P w K mg base N qual scope f cd A outer s H E) H R (.Raise (some (.Call (.Name x np) [a] [] cp)) none pos::rest) Γ:=λσ H1 R1 EO D pins s1 I=>by
 refine wpAny_execs_cons ?_
 obtain ⟨nm',bs,ns,qn,sn,sub,ab,col,dd,k0,k1,k2,k3,k5,hC,hok,hni⟩:=c.lk
 rw [arm_exec_Raise]
 simp only [evalOpt,Option.map]
 refine wpAny_bind (wpAny_standAt (nO (C:=C) (bm:=.ref CE::ft) (hdct:=true) (newId:="ValueError.__new__") (nm:=nm') (q:=qn) (N:=ns) (bs:=bs) (sn:=sn) (sub:=sub) (ab:=ab) (col:=col) (dd:=dd) (k0:=k0) (k1:=k1) (k2:=k2) (k3:=k3) (k5:=k5) (by rw [List.contains_cons,show ft.contains (.type "BaseException")=true by decide,Bool.or_true]) (I.ok.hd rfl) (wpAny_bind (wpAny_mono ?_ (λv s3 h3=>wpAny_bind (wpAny_standAt (wpAny_pure h3))) λ_ _ x=>x))))
 refine wpAny_Call_Name_kw (eR I hg c.bound ?_ hdb)
 refine PySem.W.callWith_K (h₀:=base) I.ok.mod.kin c.kp (aI (iQ.cD (ha σ H R H1 R1 EO (λvs H2=>∃R2,aw K σ H R H2 R2 Γ1/\aj R1 R2/\fu K R2 vs [⟨ae,n⟩]) λvs H2 R2 E2 s2 p2=>⟨R2,E2,s2,p2⟩) _ cp pins s1 I) λus s2 ⟨vs,H2,I2,r,R2,E2,sR,p2⟩=>⟨I2.cz,?_⟩) he rfl
 cases p2 with
 | cons a2 t2=>
   cases t2
   cases a2
   obtain ⟨u,rfl,ru⟩:=vals1 r
   refine vh (X:=bA (dA P w) P w K mg base N qual scope f cd A outer s H E) c FI hb hr I2 ru λe dx t s' fe fd nde ne he' I3=>?_
   refine ⟨e,_,t,rfl,I3.cz _ _ hC,he',rfl,rfl,?_⟩
   exact lh I2 ne ((az (Ne.symm nde)).trans fe) I3 he' (q _ (upd R2 dx (.xd [(nm,.int n)])) dx (E2.ext.trans (Ext.fresh E2.sub fd _)) (E2.ext.h.free fd) aA)
theorem lO {pins:List (Addr×Obj)}{σ:St}{H1 H':Hp}{s1 s':Shared}{e T dx:Addr}{cls:Value}(I1:Inv (bA (dA P w) P w K mg base N qual scope f cd A outer s H E) pins σ H1 s1)
 (ho:s'.os=s1.os) (bare:AllBare s'.gens) (un:Un (bo (bA (dA P w) P w K mg base N qual scope f cd A outer s H E).stack) [] H1 H' s1.heap s'.heap) (hok:bO P w H' s'.heap) (fly:nz s1.heap s'.heap H' e T cls) (hdx:∃oe,s'.heap.get? e=some oe/\oe.dict=some dx) (q:E cls (some dx) H'):
 (bA (dA P w) P w K mg base N qual scope f cd A outer s H E).xe (.ref e) s':=by
 have hst:s1.heap.FunFrames base (envOfC qual scope s.heap.objs.size f cd::outer):=I1.stack
 have hfree:∀b∈bo (envOfC qual scope s.heap.objs.size f cd::outer),H1 b=none:=I1.fM
 have un:Un (bo (envOfC qual scope s.heap.objs.size f cd::outer)) [] H1 H' s1.heap s'.heap:=un
 have hfs:∀b∈bo (envOfC qual scope s.heap.objs.size f cd::outer),H' b=none:=λb hb=>by
  obtain ⟨_,o,r,_⟩:=hst.mem hb
  exact un.free b o r (hfree b hb) List.not_mem_nil
 have hsl:∀b∈bo (envOfC qual scope s.heap.objs.size f cd::outer),∀o,s1.heap.get? b=some o->∃sl,s'.heap.get? b=some {o with slots:=sl}:=λb hb o r=>un.slot b o r (hfree b hb) hb List.not_mem_nil
 have hff:s'.heap.FunFrames (PySem.W.hideAll s'.heap (e::T::bo (envOfC qual scope s.heap.objs.size f cd::outer))) (envOfC qual scope s.heap.objs.size f cd::outer):=
  gj (h0:=s'.heap) (fs:=e::T::bo (envOfC qual scope s.heap.objs.size f cd::outer)) hst hsl λb hb=>List.mem_cons_of_mem _ (List.mem_cons_of_mem _ hb)
 obtain ⟨oe,vs,oT,ts,a0,he,hc,hd,h1,hTe,hT,hdT,h3⟩:=fly.ex
 have hfl:Heap.FlyingW (PySem.W.hideAll s'.heap (e::T::bo (envOfC qual scope s.heap.objs.size f cd::outer))) (envOfC qual scope s.heap.objs.size f cd::outer) e cls a0 s'.heap:=
  ⟨λb o z=>PySem.W.of_hideAll _ z,PySem.W.hideAll_none _ List.mem_cons_self,hff,oe,vs,T,oT,ts,he,hc,hd,h1,PySem.W.hideAll_none _ (List.mem_cons_of_mem _ List.mem_cons_self),hTe,hT,hdT,h3⟩
 show wpAny (model P w) (A.deeper (envOfC qual scope s.heap.objs.size f cd)) (leaving (envOfC qual scope s.heap.objs.size f cd) (.ref e)) _ _ _
 refine wpAny_mono (eI (iO _ _) (wpAny_leaves_onW (Q:=λ_ s2=>∃h',s2={s' with heap:=h'}/\Heap.FlyingW (PySem.W.hideAll s'.heap (e::T::bo (envOfC qual scope s.heap.objs.size f cd::outer))) outer e cls a0 h'/\s'.heap.UpToSlots h') I1.ok.frames rfl hfl λh' fl up=>⟨h',rfl,fl,up⟩)) (λ_ s2 hq=>?_) λ_ _ z=>z
 obtain ⟨⟨h',rfl,⟨st,hen,hfr,oe2,vs2,T2,oT2,ts2,he2,hc2,hd2,h12,hnT2,hTe2,hT2,hdT2,h32⟩,up⟩,kd⟩:=hq
 have upF:∀b o,s'.heap.get? b=some o->b∈bo (envOfC qual scope s.heap.objs.size f cd::outer)->∃sl,h'.get? b=some {o with slots:=sl}:=λb o r hb=>by
  obtain ⟨_,o2,r2,nf⟩:=hff.mem hb
  rw [r] at r2;cases r2
  exact up b o r nf
 obtain ⟨u2,ok2⟩:=lB un hok fly hfs st upF
 have base0:Un (bo outer) [] H H1 s.heap s1.heap:=I1.base
 have un2:Un (bo outer) [] H H' s.heap h':=by
  refine Un.shrink ((base0.mono (fs':=bo (envOfC qual scope s.heap.objs.size f cd::outer)) (λb z=>?_) λ_ z=>z).trans u2) λb o r z=>?_
  ·show b∈(envOfC qual scope s.heap.objs.size f cd::outer).filterMap (·.frame)
   rw [List.filterMap_cons]
   exact List.mem_cons_of_mem _ z
  ·have z':b∈(envOfC qual scope s.heap.objs.size f cd::outer).filterMap (·.frame):=z
   rw [List.filterMap_cons] at z'
   rcases List.mem_cons.mp z' with y | y
   ·have:=Heap.lt_size r
    rw [y] at this
    exact absurd this (Nat.lt_irrefl _)
   ·exact y
 have tc:T2=T∨s'.heap.get? T2=none:=by
  cases r:s'.heap.get? T2 with
  | none=>exact .inr rfl
  | some o=>
    left
    by_cases z:T2∈e::T::bo (envOfC qual scope s.heap.objs.size f cd::outer)
    ·rcases List.mem_cons.mp z with z | z
     ·exact absurd z hTe2
     ·rcases List.mem_cons.mp z with z | z
      ·exact z
      ·exfalso
       obtain ⟨_,o2,r2,nf⟩:=hff.mem z
       rw [r] at r2;cases r2
       obtain ⟨sl,r3⟩:=upF T2 o r z
       rw [hT2] at r3;cases r3
       exact nf ts2 hdT2
    ·rw [PySem.W.hideAll_get _ r z] at hnT2;cases hnT2
 have nT2:s.heap.get? T2=none:=by
  rcases tc with z | z
  ·rw [z];exact dh base0 fly.nT
  ·exact dh base0 (dh un z)
 have fT2:H' T2=none:=by
  rcases tc with z | z
  ·rw [z];exact fly.fT
  ·exact bO.none_of hok z
 obtain ⟨oeD,g1,g2⟩:=hdx
 obtain ⟨o',r1,r2⟩:=kd e _ g1
 exact ⟨e,T2,cls,dx,H',rfl,ho.trans I1.os,bare,un2,ok2,⟨⟨oe2,vs2,oT2,ts2,a0,he2,hc2,hd2,h12,hTe2,hT2,hdT2,h32⟩,dh base0 fly.ne,nT2,fly.fe,fT2⟩,⟨o',r1,r2.trans g2⟩,q⟩
end
theorem kT {X:Cx}{S:iS}{x:Str}{k:Nat}{e:Expr}{es:List Expr}{p pos:Pos}{ps:List Pk}{cls:Value}{fs:List (Str×V)}{σ:St}{H0 R0 H R:Hp}{Γ Γ1:Ga}{pins:List (Addr×Obj)}{s:Shared}{Q:Value->Shared->Prop}{Ex:Value->Shared->Prop}
 (C:fq X.prog X.w X.K X.mg X.base x k (gT S X.K)) (hr:bg k X.A) (ha:HA X.cD (e::es) Γ ps Γ1) (hS:S X.K ps (.exc cls fs)) (E:aw X.K σ H0 R0 H R Γ) (I:Inv X pins σ H s)
 (q:∀s1 H1 ea T dx H' R' s',Inv X pins σ H1 s1->s'.os=s1.os->AllBare s'.gens->Un (bo X.stack) [] H1 H' s1.heap s'.heap->bO X.prog X.w H' s'.heap->nz s1.heap s'.heap H' ea T cls->(∃oe,s'.heap.get? ea=some oe/\oe.dict=some dx)->H0 dx=none->R' dx=some (.xd fs)->aw X.K σ H0 R0 H' R' Γ1->aj R R'->Ex (.ref ea) s')
 (hg:Gl X x) (hdb:(x==("__debug__":Str))=false) (he:starEach (e::es) X.env=(false,eval e X.env)::starEach es X.env) (hpl:(backTo pos (starEach es X.env)).any (·.1)=false):
 wpAny (model X.prog X.w) X.A (eval (.Call (.Name x p) (e::es) [] pos) X.env) Q Ex s:=by
 obtain ⟨f,fd,pn,F,hm,hk,hb⟩:=C.ex
 refine wpAny_Call_Name_kw (eR I hg hm ?_ hdb)
 refine PySem.W.callWith_K (h₀:=X.base) I.ok.mod.kin hk (aI (iQ.cD (ha σ H0 R0 H R E (λvs H1=>∃R1,aw X.K σ H0 R0 H1 R1 Γ1/\aj R R1/\fu X.K R1 vs ps) λvs H1 R1 E1 s1 p1=>⟨R1,E1,s1,p1⟩) Ex pos pins s I) λus s1 ⟨vs,H1,I1,r,R1,E1,sR,p1⟩=>⟨I1.cz,?_⟩) he hpl
 have r2:Vals (vs++[]) (us++[]):=by rw [List.append_nil,List.append_nil];exact r
 have sp:gT S X.K (vs++[]) H1 (λ_ _=>False) (λc od H'=>c=cls/\∃dx R',od=some dx/\Ext H1 R1 H' R'/\H1 dx=none/\R' dx=some (.xd fs)):=⟨R1,ps,.exc cls fs,E1.sub,by rw [List.append_nil];exact p1,hS,λH' R' dx xx h1 h2=>⟨rfl,dx,R',rfl,xx,h1,h2⟩⟩
 have hl:(us++[]).length=pn.length:=by rw [← r2.length];exact F.len _ _ _ _ sp
 refine wpAny_call (codeAny_mono (F.run X.A X.stack s1 H1 ⟨us,[]⟩ (us++[]) (vs++[]) _ _ hr I1.oW (hb s1 us I1.cz hl) r2 sp) λr s' hq=>?_)
 cases r with
 | error ev=>
   obtain ⟨ea,T,c,dx,H',rfl,ho,bare,un,hok,fly,hdx,rfl,dx',R',e1,xx,h1,h2⟩:=hq
   cases e1
   exact q s1 H1 ea T dx H' R' s' I1 ho bare un hok fly hdx (E1.ext.h.free h1) h2 (E1.grow xx) (sR.trans xx.r)
 | ok fl=>
   cases fl with
   | ret u=>obtain ⟨_,_,_,_,_,_,_,z⟩:=hq;exact z.elim
   | next=>exact False.elim hq
   | brk=>exact False.elim hq
   | cont=>exact False.elim hq
section
variable {P:Program}{w:World}{K:PySem.W.Frag}{mg:Str->Option Value}{base:Heap}{N:List Str}{qual:Str}{scope:Scope}{f:Addr}{cd:Value}{A:Around}{outer:List Env}{s:Shared}{H R:Hp}{E:XK}{Γ Γ1:Ga}
theorem lS {S:iS}{x:Str}{k:Nat}{e:Expr}{es:List Expr}{p pos:Pos}{ps:List Pk}{cls:Value}{fs:List (Str×V)}(C:fq P w K mg base x k (gT S K))(hr:bg k (A.deeper (envOfC qual scope s.heap.objs.size f cd)))(ha:HA (bA (dA P w) P w K mg base N qual scope f cd A outer s H E).cD (e::es) Γ ps Γ1)(hS:S K ps (.exc cls fs))(q:∀H' R' dx,Ext H R H' R'->H dx=none->R' dx=some (.xd fs)->E cls (some dx) H')
 (hg:Gl (bA (dA P w) P w K mg base N qual scope f cd A outer s H E) x:=by rfl) (hdb:(x==("__debug__":Str))=false:=by decide) (he:starEach (e::es) (bA (dA P w) P w K mg base N qual scope f cd A outer s H E).env=(false,eval e (bA (dA P w) P w K mg base N qual scope f cd A outer s H E).env)::starEach es (bA (dA P w) P w K mg base N qual scope f cd A outer s H E).env:=by rfl)
 (hpl:(backTo pos (starEach es (bA (dA P w) P w K mg base N qual scope f cd A outer s H E).env)).any (·.1)=false:=by rfl):RX (bA (dA P w) P w K mg base N qual scope f cd A outer s H E) H R (.Call (.Name x p) (e::es) [] pos) Γ:=λσ H1 R1 EO Q pins s1 I=>
 kT (X:=bA (dA P w) P w K mg base N qual scope f cd A outer s H E) C hr ha hS EO I (λs2 H2 ea T dx H' R' s' I2 ho bare un hok fly hdx h1 h2 E' sR=>lO I2 ho bare un hok fly hdx (q H' R' dx E'.ext h1 h2)) hg hdb he hpl
end
section
variable {X:Cx}{σ:St}
theorem Inv.zm {pins:List (Addr×Obj)}{H:Hp}{s:Shared}{e:Addr}{o:Obj}{vs:Array Value}(I:Inv X pins σ H s)(h0:H e=none)(he:s.heap.get? e=some o)(hd:o.data= .fields vs)(hx:X.s₀.heap.get? e=none)(hl:e≠X.env.locals)(hp:∀p∈X.pn++pins,p.1≠e):Inv X pins σ (upd H e (cY e o)) s:=by
 have ne:∀b,b≠e->H b=none->upd H e (cY e o) b=none:=λb z q=>(az z).trans q
 have up:∀b u,H b=some u->upd H e (cY e o) b=some u:=λb u q=>(az λz=>by rw [z,h0] at q;cases q).trans q
 refine ⟨I.ok,I.os,I.bare,⟨I.base.keep,I.base.slot,λb u q n x=>ne b (λz=>by rw [z,hx] at q;cases q) (I.base.free b u q n x),I.base.there,λb xs q=>up _ _ (I.base.tups b xs q),λb o' u q=>up _ _ (I.base.frzs b o' u q),λb ps q=>?_⟩,I.loc,I.cell,ne _ (Ne.symm hl) I.free,λx c q=>ne _ (λz=>?_) (I.freeC x c q),λp hp'=>?_,λb u q=>?_,I.len⟩
 ·obtain ⟨more,r⟩:=I.base.tbls b ps q
  exact ⟨more,up _ _ r⟩
 ·obtain ⟨v,ho⟩:=I.cell x c q
  obtain ⟨ob,hob,hcl⟩:=ho
  rw [z,he] at hob
  cases hob
  rw [hd] at hcl
  cases hcl
 ·obtain ⟨a1,a2,a3⟩:=I.pin p hp'
  exact ⟨a1,ne _ (hp p hp') a2,a3⟩
 ·by_cases z:b=e
  ·subst z
   rw [aA] at q
   cases q
   exact lZ he
  ·rw [az z] at q
   exact (I.hok b u q).eP (λc v _ r=>r) (λc r=>up _ _ r) λc xs r=>up _ _ r
theorem vo {cls:Value}{H1 H':Hp}{pins:List (Addr×Obj)}{s1 s':Shared}{e T dx:Addr}{Q:Flow->Shared->Prop}{ce n y:Str}{CE:Addr}{np p1 p2 p3 hp:Pos}{i j:Nat}
 (I1:Inv X pins σ H1 s1) (ho:s'.os=s1.os) (bare:AllBare s'.gens) (un:Un (bo X.stack) [] H1 H' s1.heap s'.heap) (hok:bO X.prog X.w H' s'.heap) (fly:nz s1.heap s'.heap H' e T cls) (hdx:∃oe,s'.heap.get? e=some oe/\oe.dict=some dx)
 (hst:X.stack=X.env::X.outer) (hef:X.env.frame=some X.env.locals) (hm:X.mg ce=some (.ref CE)) (hx:PySem.W.exmOne X.K cls (.ref CE)=some true) (hg:Gl X ce) (hdb:(ce==("__debug__":Str))=false)
 (hN:X.N.Nodup) (hi:X.N[i]?=some n) (hj:X.N[j]?=some y) (hin:X.env.scope.names.lookup n=some .local) (hjy:X.env.scope.names.lookup y=some .local)
 (hs:swapsWith (.Name n p2) (some (.Name y p1)) p3.line X.env=pure false) (hnd:(n==("__debug__":Str))=false) (hnc:(n==("__classdict__":Str))=false)
 (q:∀oe vs s6,oe.cls=cls->oe.data= .fields vs->oe.dict=some dx->s6.heap.get? e=some oe->e≠X.env.locals->Inv X pins (((σ.set i (some (.ref e))).set j (some (.ref e))).set i none) H' s6->Q .next s6):
 wpAny (model X.prog X.w) X.A (noteFrame (.ref e) X.env) (λ_ s₂=>wpAny (model X.prog X.w) X.A (setFlight (.ref e) none) (λ_ s₃=>
  wpAny (model X.prog X.w) X.A (handleBy (.ref e) X.env [.ExceptHandler (some (.Name ce np)) (some n) [.Assign [.Name y p1] (.Name n p2) p3] hp]) Q X.xe s₃) X.xe s₂) X.xe s':=by
 have hA:X.A.frames=some (X.env::X.outer):=by rw [← hst];exact I1.ok.frames
 have hfs:∀b∈bo X.stack,H' b=none:=λb hb=>by
  obtain ⟨_,o,r,_⟩:=I1.stack.mem hb
  exact un.free b o r (I1.fM b hb) List.not_mem_nil
 have hsl:∀b∈bo X.stack,∀o,s1.heap.get? b=some o->∃sl,s'.heap.get? b=some {o with slots:=sl}:=λb hb o r=>un.slot b o r (I1.fM b hb) hb List.not_mem_nil
 have hff:s'.heap.FunFrames (PySem.W.hideAll s'.heap (e::T::bo X.stack)) (X.env::X.outer):=by
  have:=gj (h0:=s'.heap) (fs:=e::T::bo X.stack) I1.stack hsl λb hb=>List.mem_cons_of_mem _ (List.mem_cons_of_mem _ hb)
  rw [hst] at this ⊢;exact this
 obtain ⟨oe,vs,oT,ts,a0,he,hc,hd,h1,hTe,hT,hdT,h3⟩:=fly.ex
 have hfl:Heap.FlyingW (PySem.W.hideAll s'.heap (e::T::bo X.stack)) (X.env::X.outer) e cls a0 s'.heap:=
  ⟨λb o z=>PySem.W.of_hideAll _ z,PySem.W.hideAll_none _ List.mem_cons_self,hff,oe,vs,T,oT,ts,he,hc,hd,h1,PySem.W.hideAll_none _ (List.mem_cons_of_mem _ List.mem_cons_self),hTe,hT,hdT,h3⟩
 have upF:∀{h2:Heap},s'.heap.UpToSlots h2->∀b o,s'.heap.get? b=some o->b∈bo X.stack->∃sl,h2.get? b=some {o with slots:=sl}:=λ{h2} up b o r hb=>by
  have hb':b∈(X.env::X.outer).filterMap (·.frame):=by rw [← hst];exact hb
  obtain ⟨_,o2,r2,nf⟩:=hff.mem hb'
  rw [r] at r2;cases r2
  exact up b o r nf
 have nL:e≠X.env.locals:=λz=>by
  obtain ⟨m,⟨o,_,_,r,_⟩,_⟩:=id I1.loc
  rw [← z,fly.ne] at r;cases r
 have nF:e∉X.fs:=λz=>by
  have z':e∈bo X.stack:=by
   rw [hst]
   show e∈(X.env::X.outer).filterMap (·.frame)
   rw [List.filterMap_cons,hef];exact List.mem_cons_of_mem _ z
  obtain ⟨_,o,r,_⟩:=I1.stack.mem z'
  rw [fly.ne] at r;cases r
 refine wpAny_mono (eI (kS _ _) (wpAny_looks_onW (Q:=λ_ s₂=>∃h4,s₂={s' with heap:=h4}/\Heap.HeldW (PySem.W.hideAll s'.heap (e::T::bo X.stack)) (X.env::X.outer) e cls a0 X.env.locals h4/\s'.heap.UpToSlots h4) hA hef hfl λh4 held4 up4=>⟨h4,rfl,held4,up4⟩)) (λ_ s₂ hq4=>?_) λ_ _ z=>z
 obtain ⟨⟨h4,rfl,held4,up4⟩,kd4⟩:=hq4
 refine wpAny_mono (eI (eQ _ _) (wpAny_landsW (Q:=λ_ s₃=>∃h5,s₃={s' with heap:=h5}/\Heap.FlyingW (PySem.W.hideAll s'.heap (e::T::bo X.stack)) (X.env::X.outer) e cls a0 h5/\h4.UpToSlots h5) held4 λh5 fl5 up5=>⟨h5,rfl,fl5,up5⟩)) (λ_ s₃ hq5=>?_) λ_ _ z=>z
 obtain ⟨⟨h5,rfl,fl5,up5⟩,kd5⟩:=hq5
 obtain ⟨u5,ok5⟩:=lB un hok fly hfs fl5.1 (upF (up4.trans up5))
 have I5:Inv X pins σ H' {s' with heap:=h5}:=Inv.nU (ch:=[]) (s':={s' with heap:=h5}) I1 ho u5 ok5 bare λb z=>absurd z List.not_mem_nil
 refine wpAny_handleBy_cons (codeAny_handlers_test (eR (Inv.marked I5 (.ref e)) hg hm ?_ hdb)) (by intro q;cases q)
 obtain ⟨oe5,vs5,he5,hc5,hd5,_⟩:=fl5.first
 have LT:PySem.W.Looks (model X.prog X.w) h5 (typeOf (.ref e)) cls:=hc5▸(PySem.W.Looks.ld he5).andThen .now
 refine (PySem.W.exm_one (M:=model X.prog X.w) (show X.K.In h5 from I5.cz) LT hx).here ?_
 refine codeAny_handlers_suite_as (wpAny_mono (eI (eQ _ _) (lands_againW (Q:=λ_ s₆=>∃h6,s₆={s' with heap:=h6}/\Heap.FlyingW (PySem.W.hideAll s'.heap (e::T::bo X.stack)) (X.env::X.outer) e cls a0 h6/\h5.UpToSlots h6) fl5 λh6 fl6 up6=>⟨h6,rfl,fl6,up6⟩)) (λ_ s₆ hq6=>?_) λ_ _ z=>z)
 obtain ⟨⟨h6,rfl,fl6,up6⟩,kd6⟩:=hq6
 obtain ⟨u6,ok6⟩:=lB un hok fly hfs fl6.1 (upF ((up4.trans up5).trans up6))
 have I6:Inv X pins σ H' {s' with heap:=h6}:=Inv.nU (ch:=[]) (s':={s' with heap:=h6}) I1 ho u6 ok6 bare λb z=>absurd z List.not_mem_nil
 obtain ⟨oe6,vs6,he6,hc6,hd6,_⟩:=fl6.first
 have hdict:oe6.dict=some dx:=by
  obtain ⟨o0,g0,d0⟩:=hdx
  obtain ⟨o4,g4,d4⟩:=kd4 e o0 g0
  obtain ⟨o5,g5,d5⟩:=kd5 e o4 g4
  obtain ⟨o6,g6,d6⟩:=kd6 e o5 g5
  have g6:h6.get? e=some o6:=g6
  rw [he6] at g6
  cases g6
  rw [d6,d5,d4,d0]
 have I6p:Inv (iN X e oe6) pins σ H' {s' with heap:=h6}:=Inv.pinned I6 ⟨he6,fly.fe,nL,nF,λv z=>by rw [hd6] at z;cases z⟩
 refine jn (X:=iN X e oe6) I6p hN hi (.inl hin) (v:=.ref e) rfl (λs7 I7=>?_) (.inr hin)
 have P7:=(iy (X:=markX (iN X e oe6) (.ref e)) (i:=j) (pos:=p3) hN hj (.inl hjy) (bB (i:=i) (pos:=p2) hi (.inl hin) hnd hnc) hs (.inr hjy)) pins s7 _ H' {nx:=λσ' H2=>σ'=(σ.set i (some (.ref e))).set j (some (.ref e))/\H2=H',rt:=λ_ _=>False} (Inv.marked I7 (.ref e))
  ⟨.ref e,List.getElem?_set_self (by rw [I1.len];exact (List.getElem?_eq_some_iff.mp hi).1),rfl,rfl⟩
 refine wpAny_execs_cons (wpAny_mono P7 (λf s8 z=>?_) λ_ _ z=>False.elim z)
 cases f with
 | next=>
   obtain ⟨σ',H2,I8,rfl,rfl⟩:=z
   refine wpAny_execs_nil ?_
   exact qo (X:=iN X e oe6) (Inv.unmarked (λ_=>I6p.ok.hd (by assumption)) I8) hN hi hin λs9 I9=>q oe6 vs6 s9 hc6 hd6 hdict (I9.pin _ (List.mem_append_left _ List.mem_cons_self)).1 nL (Inv.fV I9)
 | brk=>obtain ⟨_,_,_,z⟩:=z;exact z.elim
 | cont=>obtain ⟨_,_,_,z⟩:=z;exact z.elim
 | ret u=>obtain ⟨_,_,_,_,_,z⟩:=z;exact z.elim
def gM (C:Addr)(nm:Str):Rep Int:=⟨λ_ R v n=>∃e oe vs dx,v= .ref e/\R e=some (cY e oe)/\oe.cls= .ref C/\oe.data= .fields vs/\oe.dict=some dx/\R dx=some (.xd [(nm,.int n)]),λs ⟨e,oe,vs,dx,a,b,c,d,f,g⟩=>⟨e,oe,vs,dx,a,s _ _ b,c,d,f,s _ _ g⟩⟩
def TD (X:Cx)(sts:List Stmt)(Γ:Ga)(cls:Value)(fs:List (Str×V)):Prop:=∀(σ:St) (H0 R0 H R:Hp),aw X.K σ H0 R0 H R Γ->∀(pins:List (Addr×Obj)) (s:Shared),Inv X pins σ H s->∀Ex:Value->Shared->Prop,
 (∀s1 H1 ea T dx H' R' s',Inv X pins σ H1 s1->s'.os=s1.os->AllBare s'.gens->Un (bo X.stack) [] H1 H' s1.heap s'.heap->bO X.prog X.w H' s'.heap->nz s1.heap s'.heap H' ea T cls->(∃oe,s'.heap.get? ea=some oe/\oe.dict=some dx)->R' dx=some (.xd fs)->aw X.K σ H0 R0 H' R' Γ->aj R R'->Ex (.ref ea) s')->
 wpAny (model X.prog X.w) X.A (execs sts X.env) (λ_ _=>False) Ex s
theorem fW.yG {e:Expr}{Q:Bool->Hp->Prop}{H:Hp}(h:fW X.cD e σ H Q)(Ex:Value->Shared->Prop):∀(pins:List (Addr×Obj)) (s:Shared),Inv X pins σ H s->wpAny (model X.prog X.w) X.A (isTrue e X.env (eval e X.env)) (TP X pins σ Q) Ex s:=λpins s I=>
 wpAny_mono (h pins s (I.ei _)) (λ_ _ ⟨H',I',q⟩=>⟨H',I'.dc,q⟩) λ_ _ z=>False.elim z
end
section
variable {X:Cx}{Γ:Ga}{N:Ga->Prop}{T:RT}{cls:Value}{fs:List (Str×V)}
variable {rest:List Stmt}
theorem kr {c:Expr}{a:List Stmt}{ip:Pos}(hc:TV X.cD c Γ false Γ)(h:TD X rest Γ cls fs):TD X (.If c a [] ip::rest) Γ cls fs:=λσ H0 R0 H R E pins s I Ex q=>by
 refine wpAny_execs_cons (PySem.wpAny_If (aI (fW.yG (hc σ H0 R0 H R E (λb H'=>b=false/\∃R',aw X.K σ H0 R0 H' R' Γ/\aj R R') λH' R' E' s'=>⟨rfl,R',E',s'⟩) _ pins s I) λb s1 ⟨H',I',hb,R',E',sR⟩=>?_))
 subst hb
 rw [if_neg Bool.false_ne_true]
 refine wpAny_execs_nil ?_
 exact h σ H0 R0 H' R' E' pins s1 I' Ex λs1 H1 ea T dx H2 R2 s' a1 a2 a3 a4 a5 a6 a7 a8 a9 a10=>q s1 H1 ea T dx H2 R2 s' a1 a2 a3 a4 a5 a6 a7 a8 a9 (sR.trans a10)
theorem j5 {S:iS}{c:Expr}{f:Str}{k:Nat}{e0:Expr}{es:List Expr}{p pos ep ip:Pos}{ps:List Pk}(C:fq X.prog X.w X.K X.mg X.base f k (gT S X.K))(hr:bg k X.A)(hc:TV X.cD c Γ true Γ)(ha:HA X.cD (e0::es) Γ ps Γ)(hS:S X.K ps (.exc cls fs))
 (hg:Gl X f:=by rfl) (hsc:swapsWith (.Call (.Name f p) (e0::es) [] pos) none ep.line X.env=pure false:=by rfl) (he:starEach (e0::es) X.env=(false,eval e0 X.env)::starEach es X.env:=by rfl) (hpl:(backTo pos (starEach es X.env)).any (·.1)=false:=by rfl) (d2:(f==("__debug__":Str))=false:=by decide):
 TD X (.If c [.Expr (.Call (.Name f p) (e0::es) [] pos) ep] [] ip::rest) Γ cls fs:=λσ H0 R0 H R E pins s I Ex q=>by
 refine wpAny_execs_cons (PySem.wpAny_If (aI (fW.yG (hc σ H0 R0 H R E (λb H'=>b=true/\∃R',aw X.K σ H0 R0 H' R' Γ/\aj R R') λH' R' E' s'=>⟨rfl,R',E',s'⟩) _ pins s I) λb s1 ⟨H',I',hb,R',E',sR⟩=>?_))
 subst hb
 rw [if_pos rfl]
 refine wpAny_execs_cons (wpAny_Expr_any ?_ I'.quiet hsc)
 exact kT C hr ha hS E' I' (λs1 H1 ea T dx H2 R2 s' a1 a2 a3 a4 a5 a6 a7 _ a8 a9 a10=>q s1 H1 ea T dx H2 R2 s' a1 a2 a3 a4 a5 a6 a7 a8 a9 (sR.trans a10)) hg d2 he hpl
theorem uz {nm:Str}{m:Int}{sts:List Stmt}{ce n y:Str}{np p1 p2 p3 p4 p5 hp tp:Pos}{D CE:Addr}{Pd:Int->Prop}(i j:Nat)(hb:TD X sts Γ (.ref D) [(nm,.int m)])(hPd:Pd m)(hm:X.mg ce=some (.ref CE))(hx:PySem.W.exmOne X.K (.ref D) (.ref CE)=some true)(hij:i≠j)(hex:X.ex=[]:=by rfl)
 (hst:X.stack=X.env::X.outer:=by rfl) (hef:X.env.frame=some X.env.locals:=by rfl) (hN:X.N.Nodup:=by first | assumption | decide) (hi:X.N[i]?=some n:=by rfl) (hj:X.N[j]?=some y:=by rfl)
 (hin:X.env.scope.names.lookup n=some .local:=by rfl) (hjy:X.env.scope.names.lookup y=some .local:=by rfl) (hg:Gl X ce:=by rfl)
 (hs:swapsWith (.Name n p2) (some (.Name y p1)) p3.line X.env=pure false:=by rfl)
 (d1:(ce==("__debug__":Str))=false:=by decide) (d3:(n==("__debug__":Str))=false:=by decide) (d4:(n==("__classdict__":Str))=false:=by decide) (d5:(y==("__debug__":Str))=false:=by decide) (d6:(y==("__classdict__":Str))=false:=by decide):
 WS X [.Try sts [.ExceptHandler (some (.Name ce np)) (some n) [.Assign [.Name y p1] (.Name n p2) p3] hp] [] [] tp,.Return (some (.Name y p4)) p5] Γ N (cB X.K (gM D nm) Pd):=by
 intro σ H0 R0 H R E Dn dn dr pins s I
 refine wpAny_execs_cons (wpAny_Try_except (wpAny_mono (hb σ H0 R0 H R E pins s I _ λs1 H1 ea T dx H' R' s' I1 ho bare un hok fly hdx hR E' sR=>?_) (λ_ _ z=>z.elim) λ_ _ z=>z))
 refine vo I1 ho bare un hok fly hdx hst hef hm hx hg d1 hN hi hj hin hjy hs d3 d4 λoe vs s6 hc hd hdict he6 nL I6=>?_
 have hx0:X.s₀.heap.get? ea=none:=dh (show Un X.fs [] X.H₀ H1 X.s₀.heap s1.heap from hex▸I1.base) fly.ne
 have I7:=Inv.zm I6 fly.fe he6 hd hx0 nL λp hp z=>by
  have:=(I1.pin p hp).1
  rw [z,fly.ne] at this;cases this
 have hjl:j < σ.length:=by rw [I1.len];exact (List.getElem?_eq_some_iff.mp hj).1
 have hσ:(((σ.set i (some (V.ref ea))).set j (some (V.ref ea))).set i none)[j]?=some (some (.ref ea)):=by
  rw [List.getElem?_set_ne hij,List.getElem?_set_self (by rw [List.length_set];exact hjl)]
 refine aI ((kj (eF (bB (X:=X) (i:=j) (pos:=p4) hj (.inl hjy) d5 d6))) pins s6 _ _ Dn I7 ⟨.ref ea,hσ,?_⟩) λf s7 z=>z
 have x8:=Ext.fresh E'.sub fly.fe (cY ea oe)
 have hne:dx≠ea:=λz=>by rw [z] at hR;have:=fly.fe;rw [E'.sub _ _ hR] at this;cases this
 exact dr _ _ _ (E'.ext.trans x8) ⟨m,⟨ea,oe,vs,dx,rfl,aA,hc,hd,hdict,(az hne).trans hR⟩,hPd⟩
theorem rY {N1:Ga->Prop}{body:List Stmt}{hd:ExceptHandler}{tp:Pos}(h:WS X.cD body Γ N1 (λ_ _ _ _=>False))(hrest:∀Γ',N1 Γ'->WS X rest Γ' N T):WS X (.Try body [hd] [] [] tp::rest) Γ N T:=by
 intro σ H0 R0 H R E D dn dr pins s I
 refine wpAny_execs_cons (wpAny_Try_except (wpAny_mono (h σ H0 R0 H R E {nx:=λσ' H'=>∃R' Γ',aw X.K σ' H0 R0 H' R' Γ'/\aj R R'/\N1 Γ',rt:=λ_ _=>False,bk:=λ_ _=>False,ct:=λ_ _=>False} (λσ' H' R' Γ' E' s' n=>⟨R',Γ',E',s',n⟩) (λ_ _ _ _ z=>z) pins s (I.ei _)) (λf s1 z=>?_) λ_ _ z=>False.elim z))
 have z:=SP.dc z
 cases f with
 | next=>
   obtain ⟨σ',H',I',R',Γ',E',s',n⟩:=z
   refine wpAny_execs_nil ?_
   exact hrest Γ' n σ' H0 R0 H' R' E' D (λσ2 H2 R2 Γ2 E2 s2=>dn σ2 H2 R2 Γ2 E2 (s'.trans s2)) dr pins s1 I'
 | brk=>obtain ⟨_,_,_,q⟩:=z;exact q.elim
 | cont=>obtain ⟨_,_,_,q⟩:=z;exact q.elim
 | ret u=>obtain ⟨_,_,_,_,_,q⟩:=z;exact q.elim
end
end Fc
namespace Fc
open PySem PySem.Spec PySem.W L2
open PyProof.Rows hiding St
section
variable {X:Cx}{Γ Γ1:Ga}
variable {pos:Pos}{nm:Str}{D:Addr}{n:Int}{y:Str}{a:Expr}{p:Pos}{b:Bool}
theorem l9:dz X (.builtin "isinstance") (λxs H Q=>∃ea oe D c cv b,xs=[.ref ea,c]/\H ea=some (cY ea oe)/\oe.cls= .ref D/\cx X.K D=true/\(∀u,RelV c u->u=cv)/\kitOne X.K (.ref D) cv=some b/\Q (.bl b) H):=by
 intro pins s σ H xs us Q I r h
 obtain ⟨ea,oe,D,c,cv,b,rfl,ha,hc,el,hu,e,q⟩:=h
 obtain ⟨u,u2,rfl,r1,r2⟩:=vals2 r
 cases (show u=Value.ref ea from r1)
 cases hu u2 r2
 exact kia_one (mI el) I.cz ⟨oe,(I.hok ea _ ha).1,hc⟩ e (λz=>nomatch z) λtk=>⟨.bl b,H,I.tok tk,rfl,q⟩
theorem tu:dz X (.builtin "isinstance") (λxs H Q=>∃(ea:Addr) (oe:Obj) (D a:Addr) (cs:List Addr) (b:Bool),xs=[.ref ea,.ref a]/\H ea=some (cY ea oe)/\oe.cls= .ref D/\cx X.K D=true/\H a=some (.tup (cs.map V.ref))/\kitAny X.K (.ref D) (cs.map Value.ref)=some b/\Q (.bl b) H):=by
 intro pins s σ H xs us Q I r h
 obtain ⟨ea,oe,D,a,cs,b,rfl,hea,hc,el,ha,e,q⟩:=h
 obtain ⟨u,u2,rfl,r1,r2⟩:=vals2 r
 cases (show u=Value.ref ea from r1)
 cases (show u2=Value.ref a from r2)
 obtain ⟨_,its,vs,tp⟩:=(show br X.prog X.w H s.heap a (.tup (cs.map V.ref)) from I.hok a _ ha)
 have hi:its=cs.map Value.ref:=by
  have key:∀{cs:List Addr} {its:List Value},Vals (cs.map V.ref) its->its=cs.map Value.ref:=by
   intro cs
   induction cs with
   | nil=>intro its v;cases v;rfl
   | cons c cs ih=>
     intro its v
     cases v with
     | cons h t=>rw [ih t];cases (show _=Value.ref c from h);rfl
  exact key vs
 subst hi
 obtain ⟨o,h1,h2,n,h3⟩:=tp
 obtain ⟨oc,od,odt,osl⟩:=o
 dsimp only at h2 h3
 subst h2 h3
 exact kia_tup (mI el) I.cz ⟨oe,(I.hok ea _ hea).1,hc⟩ h1 e (λz=>nomatch z) λtk=>⟨.bl b,H,I.tok tk,rfl,q⟩
def rD:Rep Addr:=⟨λ_ _ v C=>v= .ref C,λ_ h=>h⟩
theorem cG {C:Addr}(hm:X.mg y=some (.ref C))(hg:Gl X y:=by rfl)(hd:(y==("__debug__":Str))=false:=by decide):EV X (.Name y pos) Γ rD C Γ:=λ_ _ _ _ _ E _ q=>eS (eO (v:=.ref C) hg hm rfl hd) (q _ _ _ E (aj.refl _) rfl)
theorem nj {K:Frag}{R:Hp}:∀{vs:List V} {cs:List Addr},PySem.Paired (rD.R K R) vs cs->vs=cs.map V.ref
 | _,_,.nil=>rfl
 | _,_,.cons h t=>by cases h;rw [nj t];rfl
theorem xt {p2:Pos}{C:Addr}(el:cx X.K D=true)(hm:X.mg "isinstance"=none)(ha:EV X a Γ (gM D nm) n Γ1)(hmy:X.mg y=some (.ref C))(ht:kitOne X.K (.ref D) (.ref C)=some b)
 (hs:starEach [a,.Name y p2] X.env=(false,eval a X.env)::starEach [.Name y p2] X.env:=by rfl) (hg:Gl X "isinstance":=by rfl) (hgy:Gl X y:=by rfl) (hdy:(y==("__debug__":Str))=false:=by decide):
 EV X (.Call (.Name "isinstance" p) [a,.Name y p2] [] pos) Γ bq b Γ1:=by
 intro σ H0 R0 H R E Q q
 refine eS (cj l9 hg hm PyProof.Rows.boot_isinstance (aE aL (aE (eO (v:=.ref C) hgy hmy rfl hdy) bt rfl) hs) (by decide) (by decide) hs rfl) (ha σ H0 R0 H R E _ λv H1 R1 E1 s1 e1=>?_)
 obtain ⟨e,oe,vs,dx,rfl,h1,h2,_⟩:=e1
 exact ⟨e,oe,D,.ref C,.ref C,b,rfl,E1.sub _ _ h1,h2,el,λu h=>h,ht,q _ H1 R1 E1 s1 rfl⟩
theorem wY {p2:Pos}{c:String}(el:cx X.K D=true)(hm:X.mg "isinstance"=none)(ha:EV X a Γ (gM D nm) n Γ1)(hmy:X.mg y=none)(hvy:bootBuiltins y=some (.type c))(ht:kitOne X.K (.ref D) (.type c)=some b)
 (hs:starEach [a,.Name y p2] X.env=(false,eval a X.env)::starEach [.Name y p2] X.env:=by rfl) (hg:Gl X "isinstance":=by rfl) (hgy:Gl X y:=by rfl) (hny:y≠"__name__":=by decide) (hdy:(y==("__debug__":Str))=false:=by decide):
 EV X (.Call (.Name "isinstance" p) [a,.Name y p2] [] pos) Γ bq b Γ1:=by
 intro σ H0 R0 H R E Q q
 refine eS (cj l9 hg hm PyProof.Rows.boot_isinstance (aE aL (aE (mY (v:=.ty c) hgy hmy hvy rfl hny hdy) bt rfl) hs) (by decide) (by decide) hs rfl) (ha σ H0 R0 H R E _ λv H1 R1 E1 s1 e1=>?_)
 obtain ⟨e,oe,vs,dx,rfl,h1,h2,_⟩:=e1
 exact ⟨e,oe,D,.ty c,.type c,b,rfl,E1.sub _ _ h1,h2,el,λu h=>h,ht,q _ H1 R1 E1 s1 rfl⟩
theorem rh {es:List Expr}{tp:Pos}{k:Nat}{cs:List Addr}(el:cx X.K D=true)(hm:X.mg "isinstance"=none)(ha:EV X a Γ (gM D nm) n Γ)(hes:EA X es Γ rD cs Γ)(hz:cs.length<=sizeLine)(ht:kitAny X.K (.ref D) (cs.map Value.ref)=some b)
 (hs:starEach [a,.Tuple es k tp] X.env=(false,eval a X.env)::starEach [.Tuple es k tp] X.env:=by rfl) (hg:Gl X "isinstance":=by rfl):
 EV X (.Call (.Name "isinstance" p) [a,.Tuple es k tp] [] pos) Γ bq b Γ:=by
 intro σ H0 R0 H R E Q q
 refine eS (cj tu hg hm PyProof.Rows.boot_isinstance (aE aL (aE (gu gN) bt rfl) hs) (by decide) (by decide) hs rfl) (ha σ H0 R0 H R E _ λv H1 R1 E1 s1 e1=>?_)
 obtain ⟨e,oe,vs,dx,rfl,h1,h2,_⟩:=e1
 refine hes σ H0 R0 H1 R1 E1 _ λws H2 R2 E2 s2 p2=>?_
 have ew:=nj p2
 subst ew
 refine ⟨by rw [List.length_map];exact hz,λt ht'=>⟨e,oe,D,t,cs,b,rfl,(az λz=>?_).trans (E2.sub _ _ (s2 _ _ h1)),h2,el,aA,ht,?_⟩⟩
 ·rw [z] at h1
  rw [E2.sub _ _ (s2 _ _ h1)] at ht';cases ht'
 ·exact q _ _ (upd R2 t (.tup (cs.map V.ref))) (E2.grow (Ext.fresh E2.sub ht' _)) (s1.trans (s2.trans (aj.fresh (E2.sub.free ht') _))) rfl
theorem pW {o:Expr}{cd:ClassData}(el:cx X.K D=true)(hk:clsIn X.K D=some cd)(hh:cd.hasDict=true)(hn:findIn X.K (.ref D) nm=some none)(ha:EV X o Γ (gM D nm) n Γ1)(hbase:attributeBase o nm X.env (eval o X.env)=eval o X.env:=by rfl):EV X (.Attribute o nm pos) Γ ae n Γ1:=by
 intro σ H0 R0 H R E Q q pins s I
 refine m9 hbase (aI (ha σ H0 R0 H R E (λv H1=>∃R1,aw X.K σ H0 R0 H1 R1 Γ1/\aj R R1/\(gM D nm).R X.K R1 v n) (λv H1 R1 E1 s1 e1=>⟨R1,E1,s1,e1⟩) pins s I) λu s1 ⟨v,H1,I1,rv,R1,E1,sR,e1⟩=>?_)
 obtain ⟨e,oe,vs,dx,rfl,h1,h2,h3,h4,h5⟩:=e1
 obtain rfl:u=Value.ref e:=rv
 have he:s1.heap.get? e=some oe:=(I1.hok e _ (E1.sub _ _ h1)).1
 obtain ⟨mA,hns,hrel⟩:=(show br X.prog X.w H1 s1.heap dx (.xd [(nm,.int n)]) from I1.hok dx _ (E1.sub _ _ h5))
 obtain ⟨od,hod,hl⟩:=kP hns
 obtain ⟨u',hu,ru⟩:=dW.some_of (v:=V.int n) (o:=mA nm) (by have:=hrel nm;rw [List.lookup_cons,beq_self_eq_true] at this;exact this)
 refine va (K:=X.K) (cd:=cd) (od:=od) I1.cz el ⟨he,h2,by unfold notCls;rw [h3],by rw [h4];exact hod⟩ hk hh hn (by rw [hl,hu]) (kJ ru) ?_
 exact ⟨.int n,H1,I1.tok _,ru,q _ H1 R1 E1 sR rfl⟩
end
end Fc
namespace K1
open PySem L2 Fc
open PySem.Spec hiding Row
open PyProof.Rows hiding St
section
variable {K:PySem.W.Frag}
theorem fO (R H:Hp)(v:V)(_:aj R H)(h:ak.R K R v .non):cy K H v (.type "NoneType"):=by cases h;exact .non
theorem eY {b:Bool}(R H:Hp)(v:V)(_:aj R H)(h:ak.R K R v (.bl b)):cy K H v (.type "bool"):=by cases h;exact .bl _
theorem eu {n:Int}(R H:Hp)(v:V)(_:aj R H)(h:ak.R K R v (.int n)):cy K H v (.type "int"):=by cases h;exact .int _
theorem fL {x:Str}(R H:Hp)(v:V)(_:aj R H)(h:ak.R K R v (.str x)):cy K H v (.type "str"):=by cases h;exact .str _
def yR:PV->Bool
 | .int _=>true
 | _=>false
def isS:PV->Bool
 | .str _=>true
 | _=>false
def isT:PV->Bool
 | .tup _=>true
 | _=>false
end
section
variable {P:Program}{w:World}{K:PySem.W.Frag}{mg:Str->Option Value}{base:Heap}{f:Addr}{fd:FuncData}{C:Addr}
def nP:cE:=λK ps T=>∃x:PV,ps=[⟨ak,x⟩]/\T=cB K bq (· =yR x)
theorem yB (M:bU K mg)(F:bL K "is_whole" "is_whole" rf f fd)(hm:mg "is_whole"=some (.ref f))(hb:Binds K fd ["value"] []):aU P w K mg base "is_whole" 1 (aZ nP K):=by
 have nd:=oi.nd
 refine cI F oi hm hb (λqs T ⟨x,e,_⟩=>by rw [e];rfl) (λcdv A outer s H E qs T hr hS=>?_)
 obtain ⟨x,rfl,rfl⟩:=hS
 change WS _ _ [.im ak x] _ _
 cases x with
 | non=>exact ah (aT (cC (y:=true) (aF (b:=false) M.isinstance M.int PyProof.Rows.boot_int (aa 0 rfl) fO) (λh=>absurd h (by decide))) rfl)
 | bl b=>exact ah (aT (cC (aF (b:=true) M.isinstance M.int PyProof.Rows.boot_int (aa 0 rfl) eY) (λ_=>dD (gJ (aF (b:=true) M.isinstance M.bool boot_bool (aa 0 rfl) eY)))) rfl)
 | int n=>exact ah (aT (cC (aF (b:=true) M.isinstance M.int PyProof.Rows.boot_int (aa 0 rfl) eu) (λ_=>dD (gJ (aF (b:=false) M.isinstance M.bool boot_bool (aa 0 rfl) eu)))) rfl)
 | str s=>exact ah (aT (cC (y:=true) (aF (b:=false) M.isinstance M.int PyProof.Rows.boot_int (aa 0 rfl) fL) (λh=>absurd h (by decide))) rfl)
 | tup xs=>exact ah (aT (cC (y:=true) (aF (b:=false) M.isinstance M.int PyProof.Rows.boot_int (aa 0 rfl) dY) (λh=>absurd h (by decide))) rfl)
 | lst xs=>exact ah (aT (cC (y:=true) (aF (b:=false) M.isinstance M.int PyProof.Rows.boot_int (aa 0 rfl) fN) (λh=>absurd h (by decide))) rfl)
def fo (x:PV)(k:Str)(n:Int):Bool:=match x with
 | .int i=>cR i k n
 | _=>false
def xh:cE:=λK ps T=>∃(v:PV) (x:Str) (n:Int),ps=[⟨ak,v⟩,⟨bS,x⟩,⟨ae,n⟩]/\T=cB K bq (· =fo v x n)
theorem xp (M:bU K mg)(CI:aU P w K mg base "is_whole" 1 (aZ nP K))(F:bL K "is_number_of" "is_number_of" qd f fd)(hm:mg "is_number_of"=some (.ref f))(hb:Binds K fd tI []):aU P w K mg base "is_number_of" 2 (aZ xh K):=by
 have nd:=pf.nd
 refine cI F pf hm hb (λqs T ⟨_,_,_,e,_⟩=>by rw [e];rfl) (λcdv A outer s H E qs T hr hS=>?_)
 obtain ⟨v,x,n,rfl,rfl⟩:=hS
 change WS _ _ [.im ak v,.im bS x,.im ae n] _ _
 refine ao (aD (aX (aV (bK CI hr (au (aa 0 rfl) aG) ⟨_,rfl,rfl⟩))) (λh=>ah (aT bY ?_)) (λh=>aJ ?_))
 ·cases v<;>first | rfl | exact absurd (show (!true)=true from h) (by decide)
 obtain ⟨i,rfl⟩:∃i,v= .int i:=by cases v<;>first | exact ⟨_,rfl⟩ | exact absurd (show (!false)=false from h) (by decide)
 refine ao (aD (av aY (aa 1 rfl) cA) (λh=>ah (aT bY (by show true=cR i x n;rw [cR,if_pos (of_decide_eq_true h)]))) (λh=>aJ ?_))
 refine ah (aT (cC (f9 jm (EV.iP (n:=i) (aa 0 rfl)) ag) (λ_=>dD (uh (f9 oQ (aa 1 rfl) cA) (λ_=>dD (f9 iu (EV.iP (n:=i) (aa 0 rfl)) (aa 2 rfl)))))) ?_)
 show _=cR i x n
 rw [cR,if_neg (of_decide_eq_false h)]
def bR (x:PV)(n:Int):Bool:=match x with
 | .tup (.str k::xs)=>(match dZ cw k with
   | some fm=>decide (xs.length=fm.length)&&((xs.zip fm).all λq=>fo q.1 q.2 n)
   | none=>false)
 | _=>false
theorem fits_str (k:Str)(xs:List PV)(n:Int):bR (.tup (.str k::xs)) n=(match dZ cw k with | some fm=>decide (xs.length=fm.length)&&((xs.zip fm).all λq=>fo q.1 q.2 n) | none=>false):=rfl
def dS:PV->Nat
 | .tup xs=>xs.length
 | _=>0
def wR:cE:=λK ps T=>∃(x:PV) (n:Int),ps=[⟨ak,x⟩,⟨ae,n⟩]/\dS x<=100/\T=cB K bq (· =bR x n)
theorem xf (M:bU K mg)(FO:g9 P w K mg "FORMS" cw)(CN:aU P w K mg base "is_number_of" 2 (aZ xh K))(F:bL K "is_tuple_of_code" "is_tuple_of_code" iX f fd)(hm:mg "is_tuple_of_code"=some (.ref f))(hb:Binds K fd ["told","size"] []):aU P w K mg base "is_tuple_of_code" 3 (aZ wR K):=by
 have nd:=og.nd
 have ndc:List.Nodup [("value":Str),"wanted","size"]:=by decide
 refine cI F og hm hb (λqs T ⟨_,_,e,_⟩=>by rw [e];rfl) (λcdv A outer s H E qs T hr hS=>?_)
 obtain ⟨x,n,rfl,hlen,rfl⟩:=hS
 change WS _ _ [.im ak x,.im ae n,.no] _ _
 have no:∀(T:Value),(∀K:PySem.W.Frag,PySem.W.kitOne K T (.type "tuple")=some false)->(∀R H v,aj R H->ak.R K R v x->cy K H v T)->bR x n=false->WS (bA cL P w K mg base p7 "is_tuple_of_code" (aq iX) f cdv A outer s H E).cD (bz iX) [.im ak x,.im ae n,.no] (λ_=>False) (cB K bq (· =bR x n)):=λT h1 ty hf=>by
  refine ao (aD (TW.tv (bG (y:=false) (aX (aV (aF M.isinstance M.tuple PyProof.Rows.boot_tuple (aa 0 rfl) ty h1))) (λh=>absurd h (by decide)))) (λh=>ah (aT bY hf.symm)) (λh=>absurd h (by decide)))
 cases x with
 | non=>exact no (.type "NoneType") (λ_=>rfl) fO rfl
 | bl b=>exact no (.type "bool") (λ_=>rfl) eY rfl
 | int i=>exact no (.type "int") (λ_=>rfl) eu rfl
 | str s=>exact no (.type "str") (λ_=>rfl) fL rfl
 | lst xs=>exact no (.type "list") (λ_=>rfl) fN rfl
 | tup ys=>
   cases ys with
   | nil=>exact ao (aD (TW.tv (bG (aX (aV (aF (b:=true) M.isinstance M.tuple PyProof.Rows.boot_tuple (aa 0 rfl) dY))) (λ_=>cc (av cu (eW M.len (aa 0 rfl)) ag)))) (λh=>ah (aT bY rfl)) (λh=>absurd (show (false ||decide ((0:Int)=0))=false from h) (by decide)))
   | cons y xs=>
     have hlen:xs.length + 1<=100:=hlen
     refine ao (aD (TW.tv (bG (aX (aV (aF M.isinstance M.tuple PyProof.Rows.boot_tuple (aa 0 rfl) dY))) (λ_=>cc (av cu (eW M.len (aa 0 rfl)) ag)))) (λh=>?_) (λh=>aJ ?_))
     ·rw [List.length_cons] at h
      have h2:(false ||decide (((xs.length + 1:Nat):Int)=(0:Int)))=true:=h
      simp at h2
      omega
     have nos:∀(T:Value),(∀K:PySem.W.Frag,PySem.W.kitOne K T (.type "str")=some false)->(∀R H v,aj R H->ak.R K R v y->cy K H v T)->bR (.tup (y::xs)) n=false->WS (bA cL P w K mg base p7 "is_tuple_of_code" (aq iX) f cdv A outer s H E).cD ((bz iX).drop 1) [.im ak (.tup (y::xs)),.im ae n,.no] (λ_=>False) (cB K bq (· =bR (.tup (y::xs)) n)):=λT h1 ty hf=>by
      refine ao (aD (TW.tv (bG (y:=false) (aX (aV (aF M.isinstance M.str PyProof.Rows.boot_str (aP (aa 0 rfl) ag eJ) ty h1))) (λh=>absurd h (by decide)))) (λh=>ah (aT bY hf.symm)) (λh=>absurd h (by decide)))
     cases y with
     | non=>exact nos (.type "NoneType") (λ_=>rfl) fO rfl
     | bl b=>exact nos (.type "bool") (λ_=>rfl) eY rfl
     | int i=>exact nos (.type "int") (λ_=>rfl) eu rfl
     | tup zs=>exact nos (.type "tuple") (λ_=>rfl) dY rfl
     | lst zs=>exact nos (.type "list") (λ_=>rfl) fN rfl
     | str k=>
       refine ao (aD (TW.tv (bG (aX (aV (aF M.isinstance M.str PyProof.Rows.boot_str (aP (aa 0 rfl) ag eJ) fL))) (λ_=>cc (kN FO (EV.sP (x:=k) (aP (aa 0 rfl) ag eJ)))))) (λh=>ah (aT bY ?_)) (λh=>aJ ?_))
       ·have h2:(false || !(dZ cw k).isSome)=true:=h
        show false=bR _ n
        rw [fits_str]
        cases e:dZ cw k with
        | none=>rfl
        | some fm=>rw [e] at h2;cases h2
       obtain ⟨fm,hfm⟩:∃fm,dZ cw k=some fm:=by
        have h2:(false || !(dZ cw k).isSome)=false:=h
        cases e:dZ cw k with
        | none=>rw [e] at h2;cases h2
        | some fm=>exact ⟨fm,rfl⟩
       have hfit:bR (.tup (.str k::xs)) n=(decide (xs.length=fm.length)&&((xs.zip fm).all λq=>fo q.1 q.2 n)):=by
        rw [fits_str,hfm]
       refine ao (bQ 2 (nD FO (EV.sP (x:=k) (aP (aa 0 rfl) ag eJ)) hfm) ?_)
       change WS _ _ [.im ak (.tup (.str k::xs)),.im ae n,.im lN fm] _ _
       refine ao (aD (av rO (eW M.len (aa 0 rfl)) (cP (md M.len (aa 2 rfl)) ag)) (λh=>ah (aT bY ?_)) (λh=>aJ ?_))
       ·rw [List.length_cons] at h
        show false=bR _ n
        rw [hfit,decide_eq_false,Bool.false_and]
        intro e
        rw [e] at h
        simp at h
       have hl:xs.length=fm.length:=by
        rw [List.length_cons] at h
        simp at h
        omega
       have hsl:¬(HT.sIx (PV.str k::xs).length 0 (some 1)=0/\HT.sIx (PV.str k::xs).length (PV.str k::xs).length none=(PV.str k::xs).length):=λh=>by
        have h1:=h.1
        unfold HT.sIx at h1
        rw [List.length_cons] at h1
        simp at h1
       have hcut:cut (PV.str k::xs) (some 1) none=xs:=by
        unfold cut HT.sIx
        simp
       refine ah (aT (jG M.all (bW.im (h9 (own:=["value","wanted"]) (fr:=["size"]) (ix:=[1]) (ra:=i0 ak bS) (p:=λ_=>true) (f:=λq=>fo q.1 q.2 n) (eD (so:=aq iX) (N0:=p7) rfl rfl (λx h=>cW h) (by decide +kernel)) (nh M.zip (hcut▸jN (aa 0 rfl) (dF ag) dH hsl) (aa 2 rfl) (Nat.le_trans (show xs.length<=100 by omega) (by decide)))
        (λC s H ex=>gH 0 1) (λx=>⟨.inr rfl,.inr rfl,.inl rfl,trivial⟩) (λC s H ex x hx=>gc) (λC s H ex q hq _=>bK CN hr (au (aa 0 rfl) (au (aa 1 rfl) (au (aa 2 rfl) aG))) ⟨_,_,_,rfl,rfl⟩)))) ?_)
       show _=bR _ n
       rw [hfit,decide_eq_true hl,Bool.true_and,List.filter_eq_self.mpr (λ_ _=>rfl),List.all_map];rfl
end
end K1
namespace Fc
open PySem PySem.Spec L2
open PyProof.Rows hiding St
section
variable {X:Cx}{Γ Γ1:Ga}{H0 R0:Hp}{α:Type}
theorem yS {tg iter:Expr}{body rest:List Stmt}{pos:Pos}{r:Rep α}{xs:List α}{bf:α->Ga->Ga}(I:Nat->Ga->Prop)(k:Nat){y:α}(hit:IV X tg iter Γ r xs Γ1)(hb:BG X tg r bf)(h0:I 0 Γ1)(hy:xs[k]?=some y)
 (hstep:∀(i:Nat) (x:α) (Γ:Ga),i < k->xs[i]?=some x->I i Γ->WS X body (bf x Γ) (I (i + 1)) (λ_ _ _ _=>False)) (hk:∀Γ:Ga,I k Γ->RS X H0 R0 body (bf y Γ)) (hp:PassesOwn (model X.prog X.w) X.A X.env X.xe) (hc:X.calm=true:=by rfl) (hs:∀x,foldedSetIterable iter X.env x=pure x:=by intro _;rfl):
 RS X H0 R0 (.For tg iter body [] pos::rest) Γ:=λσ H R E D=>by
 obtain ⟨wi,hi,hit⟩:=hit
 refine nv (jl (qU hp hc hi AQ eh hs) eh) ?_
 refine hit σ H0 R0 H R E _ λJ H1 R1 E1 s1 hz src=>?_
 refine ⟨λi m σ' H'=>m=k + 1 - i/\i<=k/\∃R' Γ',aw X.K σ' H0 R0 H' R' Γ'/\aj R1 R'/\I i Γ',⟨_,rfl,Nat.zero_le _,R1,Γ1,E1,aj.refl _,h0⟩,?_⟩
 rintro i m σ' H' ⟨rfl,hle,R',Γ',E',s',hI⟩
 obtain ⟨sgo,sstop⟩:=src H' R' s' E'.sub i
 by_cases hlt:i < k
 ·have hil:i < xs.length:=Nat.lt_trans hlt (List.getElem?_eq_some_iff.mp hy).1
  obtain ⟨go,yl⟩:=sgo _ (List.getElem?_eq_getElem hil)
  refine .inr ⟨go,λσ' H'=>i + 1<=k/\∃R' Γ',aw X.K σ' H0 R0 H' R' Γ'/\aj R1 R'/\I (i + 1) Γ',λσ2 H2 h=>⟨k + 1 - (i + 1),by omega,rfl,h.1,h.2⟩,λv H2 hy'=>?_⟩
  obtain ⟨R2,x2,hr⟩:=yl v H2 hy'
  refine hb σ' H0 R0 H2 R2 Γ' v _ (E'.grow x2) hr _ λσ2 E2=>?_
  exact hstep i _ Γ' hlt (List.getElem?_eq_getElem hil) hI σ2 H0 R0 H2 R2 E2 _ (λσ3 H3 R3 Γ3 E3 s3 h3=>⟨hlt,R3,Γ3,E3,s'.trans (x2.r.trans s3),h3⟩) λ_ _ _ _ z=>z.elim
 ·have e:i=k:=by omega
  subst e
  obtain ⟨go,yl⟩:=sgo _ hy
  refine .inr ⟨go,λ_ _=>False,λ_ _ h=>h.elim,λv H2 hy'=>?_⟩
  obtain ⟨R2,x2,hr⟩:=yl v H2 hy'
  refine hb σ' H0 R0 H2 R2 Γ' v _ (E'.grow x2) hr _ λσ2 E2=>?_
  exact hk Γ' hI σ2 H2 R2 E2 _
end
end Fc
set_option maxHeartbeats 1000000
namespace K1
open PySem L2 Fc
open PySem.Spec hiding Row
open PyProof.Rows hiding St
def qQ (xs:List PV)(k:Nat):Prop:=(xs=[]/\k=0)∨∃x,xs[k]?=some x/\bR x xs.length=false/\∀i y,i < k->xs[i]?=some y->bR y xs.length=true
section
variable {P:Program}{w:World}{K:PySem.W.Frag}{mg:Str->Option Value}{base:Heap}{f:Addr}{fd:FuncData}{C CE fI:Addr}{fdI:FuncData}
def nZ (C:Addr):iS:=λK ps o=>∃(xs:List PV) (k:Nat),ps=[⟨ai ak,xs⟩]/\(∀x∈xs,dS x<=100)/\qQ xs k/\o= .exc (.ref C) [("place",.int k)]
theorem xy (M:bU K mg)(ci:hZ K mg "NoCode" "place" C CE fI)(FI:cq P w K mg base cL 1 fI fdI ["self","place"] (lM C "place"))(hbi:Binds K fdI ["self","place"] [])(CT:aU P w K mg base "is_tuple_of_code" 3 (aZ wR K))(F:bL K "look_code" "look_code" pD f fd)(hm:mg "look_code"=some (.ref f))(hb:Binds K fd ["code"] []):fq P w K mg base "look_code" 4 (gT (nZ C) K):=by
 have nd:=pw.nd
 refine mB F pw hm hb (λqs o ⟨_,_,e,_⟩=>by rw [e];rfl) (λqs T ⟨_,_,_,_,_,e⟩=>by cases e) (λcdv A outer s H R E qs c fs hr hS q=>?_)
 obtain ⟨xs,k,rfl,hlen,hbad,e⟩:=hS
 cases e
 have hr2:=hr.mono (show 2<=3 by decide)
 change RS _ H R _ [.im (ai ak) xs,.no,.no]
 cases xs with
 | nil=>
   have hk:k=0:=by
    rcases hbad with ⟨_,e⟩ | ⟨x,e,_⟩
    ·exact e
    ·simp at e
   subst hk
   exact tK (TV.cast (b':=true) (TW.tv (bG (aX (aV (aF M.isinstance M.list PyProof.Rows.boot_list (aa 0 rfl) ty_list))) (λ_=>cc (aX (ot 0 rfl))))) rfl) (kG ci FI hbi hr2 (au ag aG) q)
 | cons x0 rest=>
   obtain ⟨y,hy,hf,hbefore⟩:∃y,(x0::rest)[k]?=some y/\bR y (x0::rest).length=false/\∀i y,i < k->(x0::rest)[i]?=some y->bR y (x0::rest).length=true:=by
    rcases hbad with ⟨e,_⟩ | h
    ·cases e
    ·exact h
   generalize hxs:x0::rest=xs at *
   refine vE (N1:=λΓ=>Γ=[.im (ai ak) xs,.no,.no]) (aD (TV.cast (b':=false) (TW.tv (bG (aX (aV (aF M.isinstance M.list PyProof.Rows.boot_list (aa 0 rfl) ty_list))) (λ_=>cc (aX (ot 0 rfl))))) (by rw [← hxs];rfl)) (λh=>absurd h (by decide)) (λ_=>aJ rfl)) ?_
   rintro _ rfl
   refine yS (λ_ Γ=>∃e1 e2,Γ=[.im (ai ak) xs,e1,e2]) k (y:=((k:Int),y)) (m3 M.enumerate (aa 0 rfl)) (gH 1 2) ⟨_,_,rfl⟩ ?_ (λi x Γ hi hx hΓ=>?_) (λΓ hΓ=>?_) (by exact PassesOwn.leaving)
   ·unfold nums
    rw [List.getElem?_map,List.getElem?_zipIdx,hy]
    simp
   ·obtain ⟨e1,e2,rfl⟩:=hΓ
    obtain ⟨_,hx2⟩:=j8 hx
    obtain ⟨x1,x2⟩:=x
    have hx2:xs[i]?=some x2:=hx2
    change WS _ _ [.im (ai ak) xs,.im ae x1,.im ak x2] _ _
    refine ah (aD (aX (aV (bK CT hr (au (aa 2 rfl) (au (gi M.len (aa 0 rfl)) aG)) ⟨x2,_,rfl,hlen x2 (List.mem_of_getElem? hx2),rfl⟩))) (λh=>?_) (λh=>aJ ⟨_,_,rfl⟩))
    rw [hbefore i x2 hi hx2] at h
    cases h
   ·obtain ⟨e1,e2,rfl⟩:=hΓ
    change RS _ H R _ [.im (ai ak) xs,.im ae (k:Int),.im ak y]
    refine tK (TV.cast (b':=true) (aX (aV (bK CT hr (au (aa 2 rfl) (au (gi M.len (aa 0 rfl)) aG)) ⟨y,_,rfl,hlen y (List.mem_of_getElem? hy),rfl⟩))) (by rw [hf];rfl)) (kG ci FI hbi hr2 (au (aa 1 rfl) aG) q)
def xN (C:Addr):iS:=λK ps o=>∃(xs:List PV) (st:PV) (ans:List Int) (bound:Int) (k:Nat),ps=[⟨ai ak,xs⟩,⟨ak,st⟩,⟨ai ae,ans⟩,⟨ae,bound⟩]/\(∀x∈xs,dS x<=100)/\qQ xs k/\o= .exc (.ref C) [("place",.int k)]
theorem yg (CL:fq P w K mg base "look_code" 4 (gT (nZ C) K))(F:bL K "step" "step" p6 f fd)(hm:mg "step"=some (.ref f))(hb:Binds K fd ["code","state","answers","bound"] []):fq P w K mg base "step" 5 (gT (xN C) K):=by
 have nd:=nQ.nd
 refine mB F nQ hm hb (λqs o ⟨_,_,_,_,_,e,_⟩=>by rw [e];rfl) (λqs T ⟨_,_,_,_,_,_,_,_,e⟩=>by cases e) (λcdv A outer s H R E qs c fs hr hS q=>?_)
 obtain ⟨xs,st,ans,bound,k,rfl,hlen,hbad,e⟩:=hS
 cases e
 change RS _ H R _ [.im (ai ak) xs,.im ak st,.im (ai ae) ans,.im ae bound,.no,.no]
 exact nA (lS CL hr (au (aa 0 rfl) aG) ⟨xs,k,rfl,hlen,hbad,rfl⟩ q)
def yv (C:Addr):iS:=λK ps o=>∃(xs:List PV) (ans:List Int) (bound:Int) (k:Nat),ps=[⟨ai ak,xs⟩,⟨ai ae,ans⟩,⟨ae,bound⟩]/\(∀x∈xs,dS x<=100)/\qQ xs k/\o= .exc (.ref C) [("place",.int k)]
theorem wN (CL:fq P w K mg base "look_code" 4 (gT (nZ C) K))(F:bL K "run_code" "run_code" pQ f fd)(hm:mg "run_code"=some (.ref f))(hb:Binds K fd ["code","answers","bound"] []):fq P w K mg base "run_code" 5 (gT (yv C) K):=by
 have nd:=nS.nd
 refine mB F nS hm hb (λqs o ⟨_,_,_,_,e,_⟩=>by rw [e];rfl) (λqs T ⟨_,_,_,_,_,_,_,e⟩=>by cases e) (λcdv A outer s H R E qs c fs hr hS q=>?_)
 obtain ⟨xs,ans,bound,k,rfl,hlen,hbad,e⟩:=hS
 cases e
 change RS _ H R _ [.im (ai ak) xs,.im (ai ae) ans,.im ae bound,.no,.no]
 exact nA (lS CL hr (au (aa 0 rfl) aG) ⟨xs,k,rfl,hlen,hbad,rfl⟩ q)
end
section
variable {code:List Ln}
theorem len_sub {l l':List Int}(nd:l.Nodup)(h:∀x∈l,x∈l'):l.length<=l'.length:=by
 induction l generalizing l' with
 | nil=>exact Nat.zero_le _
 | cons a t ih=>
   have nd':=List.nodup_cons.mp nd
   have ha:=h a List.mem_cons_self
   have:=ih (l':=l'.erase a) nd'.2 λx hx=>(List.mem_erase_of_ne (λe:x=a=>nd'.1 (by rw [← e];exact hx))).mpr (h x (List.mem_cons_of_mem _ hx))
   rw [List.length_erase_of_mem ha] at this
   have hp:=List.length_pos_of_mem ha
   rw [List.length_cons]
   omega
abbrev gR (D:List (Int×Int)):List Int:=D.map (·.1)
theorem qt {D:List (Int×Int)}{b v:Int}:gR (dP b v D)=if b∈gR D then gR D else gR D++[b]:=by
 have hany:(D.any λp=>decide (p.1=b))=true↔b∈gR D:=by
  rw [List.any_eq_true]
  constructor
  ·rintro ⟨p,hp,e⟩
   exact List.mem_map.mpr ⟨p,hp,of_decide_eq_true e⟩
  ·intro h
   obtain ⟨p,hp,e⟩:=List.mem_map.mp h
   exact ⟨p,hp,decide_eq_true e⟩
 unfold dP
 by_cases h:(D.any λp=>decide (p.1=b))=true
 ·rw [if_pos h,if_pos (hany.mp h)]
  unfold gR
  rw [List.map_map]
  refine List.map_congr_left λp _=>?_
  show (if p.1=b then (p.1,v) else p).1=p.1
  split<;>rfl
 ·rw [if_neg h,if_neg λz=>h (hany.mpr z)]
  unfold gR
  rw [List.map_append];rfl
def cntK:Ln->Int
 | .count b=>b
 | _=>0
structure J0 (code:List Ln) (k:Nat) (m:bP):Prop where
 a0:0<=m.at_
 a1:m.at_<=code.length
 u:m.used=0
 r:m.rows=[]
 f:∃f0,m.frames=[f0]
 t:m.told.length<=k
 nd:(gR m.boxes).Nodup
 b:∀x∈gR m.boxes,x∈code.map cntK
 i:m.idle=k
theorem J0.good {k:Nat}{m:bP}(h:J0 code k m)(hk:k<=1000)(hc:code.length<=20):Good code m:=by
 obtain ⟨f0,hf⟩:=h.f
 have ht:=h.t
 have hb:=len_sub h.nd h.b
 rw [List.length_map,List.length_map] at hb
 exact ⟨h.a0,h.a1,by rw [h.u];exact Int.le_refl _,⟨by rw [h.r];decide,by rw [hf];show 1 < 100000;decide,by omega,by omega,by rw [hf];simp⟩,h.nd,by omega⟩
theorem J0.next {k:Nat}{m:bP}(ck:fc code)(h:J0 code k m)(hs:bj code [] 0 m=none):J0 code (k + 1) (nextM code [] m):=by
 obtain ⟨f0,hf⟩:=h.f
 have a0:=h.a0
 have a1:=h.a1
 unfold bj at hs
 by_cases c1:m.at_=code.length∨m.idle≥1000
 ·rw [if_pos c1] at hs;cases hs
 rw [if_neg c1] at hs
 have hlt:m.at_ < code.length:=by omega
 have hmem:lnAt code m∈code:=by
  unfold lnAt
  rw [List.getD_eq_getElem?_getD,List.getElem?_eq_getElem (by omega)]
  exact List.getElem_mem _
 have hok:=ck.ok _ hmem
 unfold nextM
 have hs:gq (lnAt code m) [] 0 m=none:=hs
 generalize lnAt code m=ln at hs hmem hok
 have hr:(m.rows.length:Int)≥0:=by omega
 have ng:iF ln=false:=by
  cases e:iF ln with
  | false=>rfl
  | true=>unfold gq at hs;rw [e,if_pos ⟨rfl,hr⟩] at hs;cases hs
 have hi:=h.i
 have ht:=h.t
 cases ln with
 | row p=>exact absurd (show true=false from ng) (by decide)
 | ask p q j=>exact absurd (show true=false from ng) (by decide)
 | call p j n=>exact absurd (show true=false from ng) (by decide)
 | jump j=>
   have hj:cR j "tuple" code.length=true:=hok (.int j,"tuple") (by show _∈[(PV.int j,("tuple":Str))];exact List.mem_singleton.mpr rfl)
   have hj2:0<=j/\j < (code.length:Int):=by
    unfold cR at hj
    rw [if_neg (by decide)] at hj
    simp at hj
    exact hj
   exact ⟨hj2.1,by show j<=_;omega,h.u,h.r,h.f,by show m.told.length<=k + 1;omega,h.nd,h.b,by show m.idle + 1=_;rw [hi];push_cast;rfl⟩
 | back=>
   exfalso
   unfold gq at hs
   rw [if_neg (by rw [ng];simp),if_neg (λz=>absurd (show ("back":Str)="ask" from z.1) (by decide)),if_pos ⟨rfl,by rw [hf];rfl⟩] at hs
   cases hs
 | count b=>
   refine ⟨by show 0<=m.at_ + 1;omega,by show m.at_ + 1<=_;omega,h.u,h.r,h.f,by show m.told.length<=k + 1;omega,?_,?_,by show m.idle + 1=_;rw [hi];push_cast;rfl⟩
   ·show (gR (dP b _ m.boxes)).Nodup
    rw [qt]
    by_cases q:b∈gR m.boxes
    ·rw [if_pos q];exact h.nd
    ·rw [if_neg q]
     exact List.nodup_append.mpr ⟨h.nd,by simp,λx hx y hy e=>q (by rw [List.mem_singleton.mp hy] at e;exact e▸hx)⟩
   ·show∀x∈gR (dP b _ m.boxes),_
    rw [qt]
    intro x hx
    by_cases q:b∈gR m.boxes
    ·rw [if_pos q] at hx;exact h.b x hx
    ·rw [if_neg q] at hx
     rcases List.mem_append.mp hx with hx | hx
     ·exact h.b x hx
     ·rw [List.mem_singleton.mp hx]
      exact List.mem_map.mpr ⟨_,hmem,rfl⟩
 | add n=>exact ⟨by show 0<=m.at_ + 1;omega,by show m.at_ + 1<=_;omega,h.u,h.r,⟨_,by show m.frames.dropLast++[_]=_;rw [hf];rfl⟩,by show m.told.length<=k + 1;omega,h.nd,h.b,by show m.idle + 1=_;rw [hi];push_cast;rfl⟩
 | tell p n=>exact ⟨by show 0<=m.at_ + 1;omega,by show m.at_ + 1<=_;omega,h.u,h.r,⟨_,by show m.frames.dropLast++[_]=_;rw [hf];rfl⟩,by show (m.told++[_]).length<=k + 1;rw [List.length_append,List.length_singleton];omega,h.nd,h.b,by show m.idle + 1=_;rw [hi];push_cast;rfl⟩
theorem xq:J0 code 0 m0:=⟨by decide,by show (0:Int)<=_;omega,rfl,rfl,⟨_,rfl⟩,Nat.le_refl _,List.nodup_nil,λx (hx:x∈([]:List Int))=>(List.not_mem_nil hx).elim,rfl⟩
theorem lp {code:List Ln}(ck:fc code):∀k,(∀i,i < k->bj code [] 0 (dQ code [] i)=none)->J0 code k (dQ code [] k)
 | 0,_=>xq
 | k + 1,h=>(lp ck k λi hi=>h i (by omega)).next ck (h k (by omega))
theorem jg {code:List Ln}:∀m,(∀k,k < m->bj code [] 0 (dQ code [] k)=none)∨∃n x,n < m/\(∀k,k < n->bj code [] 0 (dQ code [] k)=none)/\bj code [] 0 (dQ code [] n)=some x
 | 0=>.inl λk hk=>absurd hk (Nat.not_lt_zero _)
 | m + 1=>by
   rcases jg (code:=code) m with h | ⟨n,x,h1,h2,h3⟩
   ·cases e:bj code [] 0 (dQ code [] m) with
    | none=>
      refine .inl λk hk=>?_
      by_cases z:k=m
      ·rw [z];exact e
      ·exact h k (by omega)
    | some x=>exact .inr ⟨m,x,Nat.lt_succ_self _,h,e⟩
   ·exact .inr ⟨n,x,by omega,h2,h3⟩
theorem By (ck:fc code)(hc:code.length<=20):∃(n:Nat) (x:Str),(∀k,k<=n->Good code (dQ code [] k))/\(∀k,k < n->bj code [] 0 (dQ code [] k)=none)/\bj code [] 0 (dQ code [] n)=some x:=by
 rcases jg (code:=code) 1000 with h | ⟨n,x,h1,h2,h3⟩
 ·refine ⟨1000,"astray",λk hk=>(lp ck k λi hi=>h i (by omega)).good hk hc,h,?_⟩
  have j:=lp ck 1000 h
  unfold bj
  rw [if_pos (.inr (by rw [j.i];decide))]
 ·exact ⟨n,x,λk hk=>(lp ck k λi hi=>h2 i (by omega)).good (by omega) hc,h2,h3⟩
end
end K1
namespace Fc.ZT
open PySem PySem.Spec PyProof.Rows
abbrev SI (h:Heap)(i:Addr)(x:Str)(t:Tok)(k:Nat):Prop:=h.IsStrIter i "str_ascii_iterator" x t k
section
variable {prog:Program}{w:World}{A:Around}{E:Value->Shared->Prop}{s:Shared}
section
variable {z TI TO i1 i2 l1:Addr}{k1 k2:Nat}{xs:Array Value}{x a b:Value}{S1:Nat->Heap->Prop}{x2:Str}{t2:Tok}{y:Nat}
theorem rE {Q:Value->Shared->Prop}(D:ZipApart z TI TO i1 i2 l1 l1)(d1:Dr prog w A i1 l1 xs S1)(hh:A.handled=none)
 (hz:IsZip s.heap z TI TO .none) (hTI:IsPair s.heap TI (.ref i1) (.ref i2)) (hTO:IsPair s.heap TO a b) (h1:S1 k1 s.heap) (h2:SI s.heap i2 x2 t2 k2) (hx:xs[k1]?=some x) (hy:x2.cps[k2]?=some y)
 (hQ:∀h' tk u,IsZip h' z TI TO (rawInt s.heap.objs.size)->IsPair h' TO x (.str ⟨#[y]⟩ u)->S1 (k1 + 1) h'->SI h' i2 x2 t2 (k2 + 1)->IsPair h' s.heap.objs.size x (.str ⟨#[y]⟩ u)->(∀c o,c≠z->c≠TO->c≠i1->c≠i2->s.heap.get? c=some o->h'.get? c=some o)->Q (.ref s.heap.objs.size) {s with heap:=h',toks:=tk}):
 wpAny (model prog w) A (Builtin.«zip.__next__» ⟨[.ref z],[]⟩) (λfin s'=>∃v,fin= .done (.ret v)/\Q v s') E s:=by
 show wpAny _ _ (field (.ref z) 2 >>=_) _ _ _
 refine wpAny_bind (wpAny_field hz rfl (x:=.bool false) rfl ?_)
 show wpAny _ _ (field (.ref z) 3 >>=_) _ _ _
 refine wpAny_bind (wpAny_field hz rfl (x:=.ref TI) rfl (wpAny_bind (wpAny_seqItems hTI rfl ?_)))
 show wpAny _ _ (Builtin.SmallTypes.ownedTupleIsFree (.ref z) >>=_) _ _ _
 refine wpAny_bind ?_
 unfold Builtin.SmallTypes.ownedTupleIsFree
 refine wpAny_bind (wpAny_field hz rfl (x:=.none) rfl (wpAny_pure ?_))
 simp only [if_true]
 refine wpAny_bind (wpAny_rule (wpAny_bind (wpAny_field hz rfl (x:=.ref TO) rfl (wpAny_bind (wpAny_setField_rec hz (by simp) λha hza hsa=>?_)))))
 replace hza:IsZip ha z TI TO .ellipsis:=hza
 refine wpAny_bind ?_
 simp only [List.zipIdx_cons,List.zipIdx_nil,List.forIn_cons,List.forIn_nil]
 refine wpAny_bind (wpAny_bind (wpAny_onRaise ?_))
 show wpAny _ _ (Builtin.SmallTypes.nextOf (.ref i1) >>=_) _ _ _
 have g1:S1 k1 ha:=up1 d1 h1 hsa.extBut D.i1z D.l1z
 have g2:SI ha i2 x2 t2 k2:=h2.extBut hsa.extBut D.i2z
 refine wpAny_bind (d1.item g1 hx λhb n1 hsb=>wpAny_pure ?_)
 have tb:IsPair hb TO a b:=hsb.extBut _ _ D.TOi1 (hsa.extBut _ _ D.TOz hTO)
 refine wpAny_bind (wpAny_seqItems tb rfl (wpAny_bind (wpAny_updateSeq_pair tb λhc tc hsc=>?_)))
 replace tc:IsPair hc TO x b:=tc
 refine wpAny_bind (wpAny_letGo (wpAny_pure ?_))
 refine wpAny_bind (wpAny_bind (wpAny_onRaise ?_))
 show wpAny _ _ (Builtin.SmallTypes.nextOf (.ref i2) >>=_) _ _ _
 have g2c:SI hc i2 x2 t2 k2:=(g2.extBut hsb.extBut D.i12.symm).extBut hsc.extBut D.TOi2.symm
 refine wpAny_bind (wpAny_nextOf_ascii_item g2c hy λhd n2 hsd=>wpAny_pure ?_)
 have td:IsPair hd TO x b:=hsd.extBut _ _ D.TOi2 tc
 refine wpAny_bind (wpAny_seqItems td rfl (wpAny_bind (wpAny_updateSeq_pair td λhe te hse=>?_)))
 replace te:IsPair he TO x (.str ⟨#[y]⟩ s.toks):=te
 refine wpAny_bind (wpAny_letGo (wpAny_pure (wpAny_pure ?_)))
 refine wpAny_bind (wpAny_seqItems te rfl (wpAny_bind (wpAny_newTuple ?_)))
 have hsz:he.objs.size=s.heap.objs.size:=by rw [hse.1,hsd.1,hsc.1,hsb.1,hsa.1]
 have ze:IsZip he z TI TO .ellipsis:=hse.extBut _ _ D.TOz.symm (hsd.extBut _ _ D.i2z.symm (hsc.extBut _ _ D.TOz.symm (hsb.extBut _ _ D.i1z.symm hza)))
 have ke:∀c o,c≠z->c≠TO->c≠i1->c≠i2->s.heap.get? c=some o->he.get? c=some o:=λc o c1 c2 c3 c4 e=>
  hse.extBut _ _ c2 (hsd.extBut _ _ c4 (hsc.extBut _ _ c2 (hsb.extBut _ _ c3 (hsa.extBut _ _ c1 e))))
 have m1:S1 (k1 + 1) he:=up1 d1 (up1 d1 (up1 d1 n1 hsc.extBut D.TOi1.symm D.l1TO) hsd.extBut D.i12 D.l1i2) hse.extBut D.TOi1.symm D.l1TO
 have m2:SI he i2 x2 t2 (k2 + 1):=n2.extBut hse.extBut D.TOi2.symm
 have hzlt:z < he.objs.size:=Heap.lt_size ze
 show wpAny _ _ (Builtin.SmallTypes.ownedTupleHandOut (.ref z) (.ref he.objs.size) >>=_) _ _ _
 refine wpAny_bind ?_
 unfold Builtin.SmallTypes.ownedTupleHandOut
 have zf:IsZip (he.push {cls:=.type "tuple",data:=.seq #[x,.str ⟨#[y]⟩ s.toks]}) z TI TO .ellipsis:=Heap.get?_push_of_some _ ze
 refine wpAny_bind (wpAny_setField_rec zf (by simp) λhg zg hsg=>?_)
 replace zg:IsZip hg z TI TO (rawInt he.objs.size):=zg
 refine wpAny_setField_rec zg (by simp) λhj zj hsj=>?_
 replace zj:IsZip hj z TI TO (rawInt he.objs.size):=zj
 have up:∀c o,c≠z->he.get? c=some o->hj.get? c=some o:=λc o c1 e=>hsj.extBut _ _ c1 (hsg.extBut _ _ c1 (Heap.get?_push_of_some _ e))
 have tj:IsPair hj he.objs.size x (.str ⟨#[y]⟩ s.toks):=hsj.extBut _ _ (Nat.ne_of_gt hzlt) (hsg.extBut _ _ (Nat.ne_of_gt hzlt) (Heap.get?_push_size _ rfl))
 rw [hsz] at zj tj
 refine wpAny_pure ⟨_,rfl,?_⟩
 show Q (.ref he.objs.size) _
 rw [hsz]
 exact hQ hj _ _ zj (up _ _ D.TOz te) (d1.up m1 λc hc o e=>up c o (hc.elim (λq=>by rw [q];exact D.i1z) λq=>by rw [q];exact D.l1z) e) (m2.imp λo q=>⟨up _ o D.i2z q.1,q.2⟩) tj λc o c1 c2 c3 c4 e=>up c o c1 (ke c o c1 c2 c3 c4 e)
theorem uB {Q:PySem.Fin->Shared->Prop}(D:ZipApart z TI TO i1 i2 l1 l1)(d1:Dr prog w A i1 l1 xs S1)(hh:A.handled=none)
 (hz:IsZip s.heap z TI TO .none) (hTI:IsPair s.heap TI (.ref i1) (.ref i2)) (hTO:IsPair s.heap TO a b) (h1:S1 k1 s.heap) (h2:SI s.heap i2 x2 t2 k2) (hend:xs[k1]?=none∨x2.cps[k2]?=none)
 (hE:∀h' e,(∀c o,c≠z->c≠TO->c≠i1->c≠i2->s.heap.get? c=some o->h'.get? c=some o)->(∃o,h'.get? e=some o/\o.cls= .type "StopIteration")->E (.ref e) {s with heap:=h'}):
 wpAny (model prog w) A (Builtin.«zip.__next__» ⟨[.ref z],[]⟩) Q E s:=by
 show wpAny _ _ (field (.ref z) 2 >>=_) _ _ _
 refine wpAny_bind (wpAny_field hz rfl (x:=.bool false) rfl ?_)
 show wpAny _ _ (field (.ref z) 3 >>=_) _ _ _
 refine wpAny_bind (wpAny_field hz rfl (x:=.ref TI) rfl (wpAny_bind (wpAny_seqItems hTI rfl ?_)))
 show wpAny _ _ (Builtin.SmallTypes.ownedTupleIsFree (.ref z) >>=_) _ _ _
 refine wpAny_bind ?_
 unfold Builtin.SmallTypes.ownedTupleIsFree
 refine wpAny_bind (wpAny_field hz rfl (x:=.none) rfl (wpAny_pure ?_))
 simp only [if_true]
 refine wpAny_bind (wpAny_rule (wpAny_bind (wpAny_field hz rfl (x:=.ref TO) rfl (wpAny_bind (wpAny_setField_rec hz (by simp) λha hza hsa=>?_)))))
 replace hza:IsZip ha z TI TO .ellipsis:=hza
 refine wpAny_bind ?_
 simp only [List.zipIdx_cons,List.zipIdx_nil,List.forIn_cons,List.forIn_nil]
 refine wpAny_bind (wpAny_bind (wpAny_onRaise ?_))
 show wpAny _ _ (Builtin.SmallTypes.nextOf (.ref i1) >>=_) _ _ _
 have g1:S1 k1 ha:=up1 d1 h1 hsa.extBut D.i1z D.l1z
 have g2:SI ha i2 x2 t2 k2:=h2.extBut hsa.extBut D.i2z
 cases hx:xs[k1]? with
 | none=>
   refine wpAny_bind (d1.done g1 hx λhb e hsb he=>?_)
   obtain ⟨oe,hoe,hce⟩:=he
   have zb:IsZip hb z TI TO .ellipsis:=hsb _ _ D.i1z.symm hza
   have hez:e≠z:=λq=>by subst q;rw [zb] at hoe;cases hoe;simp at hce
   exact wpAny_setField_rec zb (by simp) λhc _ hsc=>hE hc e (λc o c1 _ c3 _ q=>hsc.extBut _ _ c1 (hsb _ _ c3 (hsa.extBut _ _ c1 q))) ⟨oe,hsc.extBut _ _ hez hoe,hce⟩
 | some x=>
   have hy:x2.cps[k2]?=none:=by rcases hend with q | q;rw [hx] at q;cases q;exact q
   refine wpAny_bind (d1.item g1 hx λhb n1 hsb=>wpAny_pure ?_)
   have tb:IsPair hb TO a b:=hsb.extBut _ _ D.TOi1 (hsa.extBut _ _ D.TOz hTO)
   refine wpAny_bind (wpAny_seqItems tb rfl (wpAny_bind (wpAny_updateSeq_pair tb λhc tc hsc=>?_)))
   refine wpAny_bind (wpAny_letGo (wpAny_pure ?_))
   refine wpAny_bind (wpAny_bind (wpAny_onRaise ?_))
   show wpAny _ _ (Builtin.SmallTypes.nextOf (.ref i2) >>=_) _ _ _
   have g2c:SI hc i2 x2 t2 k2:=(g2.extBut hsb.extBut D.i12.symm).extBut hsc.extBut D.TOi2.symm
   refine wpAny_bind (wpAny_nextOf_ascii_end hh g2c hy λhd e hsd he=>?_)
   obtain ⟨oe,hoe,hce⟩:=he
   have zd:IsZip hd z TI TO .ellipsis:=hsd _ _ D.i2z.symm (hsc.extBut _ _ D.TOz.symm (hsb.extBut _ _ D.i1z.symm hza))
   have hez:e≠z:=λq=>by subst q;rw [zd] at hoe;cases hoe;simp at hce
   exact wpAny_setField_rec zd (by simp) λhe _ hse=>hE he e (λc o c1 c2 c3 c4 q=>hse.extBut _ _ c1 (hsd _ _ c4 (hsc.extBut _ _ c2 (hsb.extBut _ _ c3 (hsa.extBut _ _ c1 q))))) ⟨oe,hse.extBut _ _ hez hoe,hce⟩
theorem sV {Q:Option Value->Shared->Prop}(D:ZipApart z TI TO i1 i2 l1 l1)(d1:Dr prog w A.in1 i1 l1 xs S1)(hh:A.in1.handled=none)
 (hz:IsZip s.heap z TI TO .none) (hTI:IsPair s.heap TI (.ref i1) (.ref i2)) (hTO:IsPair s.heap TO a b) (h1:S1 k1 s.heap) (h2:SI s.heap i2 x2 t2 k2) (hx:xs[k1]?=some x) (hy:x2.cps[k2]?=some y)
 (hQ:∀h' tk u,IsZip h' z TI TO (rawInt s.heap.objs.size)->IsPair h' TO x (.str ⟨#[y]⟩ u)->S1 (k1 + 1) h'->SI h' i2 x2 t2 (k2 + 1)->IsPair h' s.heap.objs.size x (.str ⟨#[y]⟩ u)->(∀c o,c≠z->c≠TO->c≠i1->c≠i2->s.heap.get? c=some o->h'.get? c=some o)->Q (some (.ref s.heap.objs.size)) {s with heap:=h',toks:=tk}):
 wpAny (model prog w) A (pyNext (.ref z)) Q E s:=by
 have hT:s.TypeIs (.ref z) "zip":=⟨_,hz,rfl⟩
 unfold pyNext
 exact wpAny_bind (wpAny_attempt (wpAny_callSpecial?_slot (name:=Str.ofString "__next__") hT F.slot_zip_next (wpAny_call_entry F.slot_zip_next hT F.entry_zip_next (rE D d1 hh hz hTI hTO h1 h2 hx hy λh' tk u a1 a2 a3 a4 a5 a6=>wpAny_pure (hQ h' tk u a1 a2 a3 a4 a5 a6)) (F.args_zip_next_1 _))))
theorem uX {Q:Option Value->Shared->Prop}(D:ZipApart z TI TO i1 i2 l1 l1)(d1:Dr prog w A.in1 i1 l1 xs S1)(hh:A.in1.handled=none)
 (hz:IsZip s.heap z TI TO .none) (hTI:IsPair s.heap TI (.ref i1) (.ref i2)) (hTO:IsPair s.heap TO a b) (h1:S1 k1 s.heap) (h2:SI s.heap i2 x2 t2 k2) (hend:xs[k1]?=none∨x2.cps[k2]?=none)
 (hQ:∀h',(∀c o,c≠z->c≠TO->c≠i1->c≠i2->s.heap.get? c=some o->h'.get? c=some o)->Q none {s with heap:=h'}):wpAny (model prog w) A (pyNext (.ref z)) Q E s:=by
 have hT:s.TypeIs (.ref z) "zip":=⟨_,hz,rfl⟩
 unfold pyNext
 refine wpAny_bind (wpAny_attempt (wpAny_callSpecial?_slot (name:=Str.ofString "__next__") hT F.slot_zip_next (wpAny_call_entry F.slot_zip_next hT F.entry_zip_next (uB D d1 hh hz hTI hTO h1 h2 hend λh' e hk he=>?_) (F.args_zip_next_1 _))))
 obtain ⟨o,ho,hc⟩:=he
 exact wpAny_bind (wpAny_isInstance (T:="StopIteration") (b:=true) ⟨o,ho,hc⟩ isSubtype_stop (wpAny_pure (hQ _ hk)))
end
end
abbrev zhS (h:Heap)(l1:Addr)(x2:Str)(t2:Tok):Heap:=((((h.push {cls:=.type "tuple_iterator",data:=.fields #[.ref l1,.int 0 0]}).push {cls:=.type "str_ascii_iterator",data:=.fields #[.str x2 t2,.int 0 0]}).push {cls:=.type "tuple",data:=.seq #[.ref h.objs.size,.ref (h.objs.size + 1)]}).push {cls:=.type "tuple",data:=.seq #[.none,.none]}).push {cls:=.type "zip",data:=.fields #[.none,.bool false,.bool false,.ref (h.objs.size + 2),.ref (h.objs.size + 3)]}
theorem sU (l1:Addr)(xs:Array Value)(x2:Str)(t2:Tok)(ha:x2.cps.all (· < 128)=true):Meets (Builtin.«zip.__new__» ⟨[.type "zip",.ref l1,.str x2 t2],[]⟩) (λ_ R s=>s.heap.IsTuple l1 xs/\R (.ok (.ret (.ref (s.heap.objs.size + 4)))) {s with heap:=zhS s.heap l1 x2 t2}):=
 .of_wp λprog w A R s h=>by
  obtain ⟨hp,g,d,tk,os⟩:=s;obtain ⟨hl1,h⟩:=h
  have hsub:isSubtype (.type "zip") (.type "zip")=pure true:=by rw [isSubtype_type];kernel_rfl
  have hL1:Heap.IsTuple (Shared.heap ⟨hp,g,d,tk,os⟩) l1 xs:=hl1
  wp_walk using wpAny_pyIter_tuple hL1,wpAny_pyIter_ascii ha
  refine ⟨_,rfl,?_⟩
  simp only [Heap.size_push]
  exact h
section
variable {prog:Program}{w:World}{A:Around}{E:Value->Shared->Prop}{s:Shared}
theorem qC {l1:Addr}{xs:Array Value}{x2:Str}{t2:Tok}{Q:Value->Shared->Prop}(ha:x2.cps.all (· < 128)=true)(hl1:s.heap.IsTuple l1 xs)
 (h:∀h',IsZip h' (s.heap.objs.size + 4) (s.heap.objs.size + 2) (s.heap.objs.size + 3) .none->IsPair h' (s.heap.objs.size + 2) (.ref s.heap.objs.size) (.ref (s.heap.objs.size + 1))->IsPair h' (s.heap.objs.size + 3) .none .none->h'.IsTupleIter s.heap.objs.size l1 0->SI h' (s.heap.objs.size + 1) x2 t2 0->
  (∀c o,s.heap.get? c=some o->h'.get? c=some o)->Q (.ref (s.heap.objs.size + 4)) {s with heap:=h'}):wpAny (model prog w) A (call (.type "zip") [.ref l1,.str x2 t2]) Q E s:=by
 refine callType_new F.called_zip (by decide) (F.typeCall_zip_2 _ _) (F.newCall_zip_2 _ _) (λobj=>F.args_object_init_3 obj _ _) F.entry_zip_new (sU l1 xs x2 t2 ha) ⟨hl1,?_⟩
 have at_:∀(h:Heap) (o:Obj) (n:Nat),h.objs.size=n->o.isFreed=false->(h.push o).get? n=some o:=λh o n e f=>by subst e;exact Heap.get?_push_size _ f
 have g5:=at_ ((((s.heap.push {cls:=.type "tuple_iterator",data:=.fields #[.ref l1,.int 0 0]}).push {cls:=.type "str_ascii_iterator",data:=.fields #[.str x2 t2,.int 0 0]}).push {cls:=.type "tuple",data:=.seq #[.ref s.heap.objs.size,.ref (s.heap.objs.size + 1)]}).push {cls:=.type "tuple",data:=.seq #[.none,.none]}) {cls:=.type "zip",data:=.fields #[.none,.bool false,.bool false,.ref (s.heap.objs.size + 2),.ref (s.heap.objs.size + 3)]} (s.heap.objs.size + 4) (by simp [Heap.size_push]) rfl
 have g4:=at_ (((s.heap.push {cls:=.type "tuple_iterator",data:=.fields #[.ref l1,.int 0 0]}).push {cls:=.type "str_ascii_iterator",data:=.fields #[.str x2 t2,.int 0 0]}).push {cls:=.type "tuple",data:=.seq #[.ref s.heap.objs.size,.ref (s.heap.objs.size + 1)]}) {cls:=.type "tuple",data:=.seq #[.none,.none]} (s.heap.objs.size + 3) (by simp [Heap.size_push]) rfl
 have g3:=at_ ((s.heap.push {cls:=.type "tuple_iterator",data:=.fields #[.ref l1,.int 0 0]}).push {cls:=.type "str_ascii_iterator",data:=.fields #[.str x2 t2,.int 0 0]}) {cls:=.type "tuple",data:=.seq #[.ref s.heap.objs.size,.ref (s.heap.objs.size + 1)]} (s.heap.objs.size + 2) (by simp [Heap.size_push]) rfl
 have g2:=at_ (s.heap.push {cls:=.type "tuple_iterator",data:=.fields #[.ref l1,.int 0 0]}) {cls:=.type "str_ascii_iterator",data:=.fields #[.str x2 t2,.int 0 0]} (s.heap.objs.size + 1) (by simp [Heap.size_push]) rfl
 have g1:=at_ s.heap {cls:=.type "tuple_iterator",data:=.fields #[.ref l1,.int 0 0]} s.heap.objs.size rfl rfl
 have p:=@Heap.get?_push_of_some
 exact ⟨⟨_,g5,rfl⟩,h _ g5 (p _ (p _ g3)) (p _ g4) ⟨_,p _ (p _ (p _ (p _ g1))),rfl,rfl⟩ ⟨_,p _ (p _ (p _ g2)),rfl,rfl⟩ λc o x=>p _ (p _ (p _ (p _ (p _ x))))⟩
end
end Fc.ZT
namespace Fc
open PySem PySem.Spec L2
open PyProof.Rows hiding St
section
variable {X:Cx}{Γ Γ1 Γ2 Γ3:Ga}{α β γ δ:Type}{N:Ga->Prop}{T:RT}
variable {es:List Expr}{tp:Pos}
def fw (x:Str):List Str:=x.cps.toList.map λc=>⟨#[c]⟩
def y1 (K:PySem.W.Frag)(a:Addr)(x2:Str):It:=
 ⟨λi H=>∃xs x c,bH K H a xs/\xs[i]?=some x/\x2.cps[i]?=some c,
  λi H v H'=>∃p x c,H p=none/\v= .ref p/\H'=upd H p (.tup [x,.str ⟨#[c]⟩])/\(∀xs,bH K H a xs->xs[i]?=some x)/\x2.cps[i]?=some c,
  λi H=>∃xs,bH K H a xs/\(xs.length<=i∨x2.cps.size<=i)⟩
def Aw (z TI TO i1 i2 a:Addr)(x2:Str)(t2:Tok)(i:Nat)(h:Heap):Prop:=
 IsZip h z TI TO .none/\IsPair h TI (.ref i1) (.ref i2)/\(∃u v,IsPair h TO u v)/\h.IsTupleIter i1 a i/\ZT.SI h i2 x2 t2 i/\a≠TO
theorem AY {h:Heap}{z TI TO i1 i2 a:Addr}{x2:Str}{t2:Tok}{i:Nat}{xs:Array Value}(F:lV z TI TO i1 i2)(st:Aw z TI TO i1 i2 a x2 t2 i h)(pa:IsTup h a xs):ZipApart z TI TO i1 i2 a a:=by
 obtain ⟨hz,_,⟨u,v,hTO⟩,⟨o1,e1,c1,_⟩,⟨o2,e2,c2,_⟩,n1⟩:=st
 exact ⟨F.TIz,F.TOz,F.i1z,F.i2z,F.TITO,F.TIi1,F.TIi2,F.TOi1,F.TOi2,F.i12,
  tup_ne pa hz (by simp),n1,tup_ne pa e1 (by rw [c1];simp),tup_ne pa e2 (by rw [c2];simp),
  tup_ne pa hz (by simp),n1,tup_ne pa e1 (by rw [c1];simp),tup_ne pa e2 (by rw [c2];simp)⟩
theorem qg {P:Program}{w:World}{K:PySem.W.Frag}{k:Nat}(a:Addr)(x2:Str)(t2:Tok)(z TI TO i1 i2:Addr)(F:lV z TI TO i1 i2):Turn P w K (.Tuple es k tp) (y1 K a x2) [z,TI,TO,i1,i2] z (Aw z TI TO i1 i2 a x2 t2) where
 mem:=by simp
 obj:=λi h st c hc=>by
  obtain ⟨hz,hTI,⟨u,v,hTO⟩,⟨o1,e1,c1,d1⟩,⟨o2,e2,c2,d2⟩,_⟩:=st
  simp only [List.mem_cons,List.not_mem_nil,or_false] at hc
  rcases hc with rfl | rfl | rfl | rfl | rfl
  ·exact ⟨_,hz,λv q=>by cases q⟩
  ·exact ⟨_,hTI,λv q=>by cases q⟩
  ·exact ⟨_,hTO,λv q=>by cases q⟩
  ·exact ⟨o1,e1,λv q=>by rw [d1] at q;cases q⟩
  ·exact ⟨o2,e2,λv q=>by rw [d2] at q;cases q⟩
 keep:=λi h h' st kk=>by
  obtain ⟨hz,hTI,⟨u,v,hTO⟩,h1,h2,n1⟩:=st
  exact ⟨kk z (by simp) _ hz,kk TI (by simp) _ hTI,⟨u,v,kk TO (by simp) _ hTO⟩,h1.imp λo q=>⟨kk i1 (by simp) o q.1,q.2⟩,h2.imp λo q=>⟨kk i2 (by simp) o q.1,q.2⟩,n1⟩
 item:=by
  intro X hP hw hK hc i pins s σ H E I hf st hg
  subst hP hw hK
  obtain ⟨xs,x,y,hq,hx,hy⟩:=hg
  obtain ⟨its,r,pl,hz⟩:=I.tuple hq
  obtain ⟨u,hu,rx⟩:=r.get hx
  have D:=AY F st pl
  have hh:=I.ok.hd hc
  obtain ⟨hz0,hTI,⟨c,d,hTO⟩,h1,h2,n1⟩:=st
  have hn:H s.heap.objs.size=none:=I.hok.fresh (Nat.le_refl _)
  refine ZT.sV D (ZT.eM (A:=X.A.in1) hh (Ne.symm D.l1i1)) hh hz0 hTI hTO ⟨h1,pl⟩ h2 (x:=u) (y:=y) (by simpa using hu) hy λh' tk u' a1 a2 a3 a4 a5 hk=>?_
  refine ⟨_,rfl,?_⟩
  refine wpAny_letOwnedTupleGo_zip (s:={s with heap:=h',toks:=tk}) a1 λh3 hz3 hs3=>?_
  have lt:∀{c o},s.heap.get? c=some o->c≠s.heap.objs.size:=λe=>Nat.ne_of_lt (Heap.lt_size e)
  have hk2:∀b o,b∉[z,TI,TO,i1,i2]->s.heap.get? b=some o->h3.get? b=some o:=λb o hb q=>by
   simp only [List.mem_cons,List.not_mem_nil,or_false,not_or] at hb
   exact hs3.extBut b o hb.1 (hk b o hb.1 hb.2.2.1 hb.2.2.2.1 hb.2.2.2.2 q)
  have I1:Inv X pins σ H {s with heap:=h3,toks:=tk}:=fK I hk2 hf
  have hT2:h3.get? s.heap.objs.size=some {cls:=.type "tuple",data:=.seq #[u,.str ⟨#[y]⟩ u']}:=hs3.extBut _ _ (Ne.symm (lt hz0)) a5
  have I2:Inv X pins σ (upd H s.heap.objs.size (.tup [x,.str ⟨#[y]⟩])) {s with heap:=h3,toks:=tk}:=
   adopt I1 (I.ia (Nat.le_refl _) hn) (I.sz) ⟨by show 2<=sizeLine;decide,[u,.str ⟨#[y]⟩ u'],.cons rx (.cons ⟨u',rfl⟩ .nil),⟨_,hT2,rfl,_,rfl⟩⟩
  refine ⟨.ref s.heap.objs.size,_,I2,rfl,⟨s.heap.objs.size,x,y,hn,rfl,rfl,λzs hzs=>?_,hy⟩,⟨hz3,?_,⟨_,_,hs3.extBut _ _ F.TOz a2⟩,a3.1.extBut hs3.extBut F.i1z,a4.extBut hs3.extBut F.i2z,n1⟩,λb hb=>?_⟩
  ·rw [I.iM hzs hq];exact hx
  ·exact hs3.extBut _ _ F.TIz (hk _ _ F.TIz F.TITO F.TIi1 F.TIi2 hTI)
  ·have hlt:b≠s.heap.objs.size:=by
    simp only [List.mem_cons,List.not_mem_nil,or_false] at hb
    rcases hb with rfl | rfl | rfl | rfl | rfl
    ·exact lt hz0
    ·exact lt hTI
    ·exact lt hTO
    ·obtain ⟨_,e,_⟩:=h1;exact lt e
    ·obtain ⟨_,e,_⟩:=h2;exact lt e
   rw [az hlt]
   exact (hf b hb).1
 done:=by
  intro X hP hw hK hc i pins s σ H E I hf st hg
  subst hP hw hK
  obtain ⟨xs,hq,hx⟩:=hg
  obtain ⟨its,r,pl,hz⟩:=I.tuple hq
  have D:=AY F st pl
  have hh:=I.ok.hd hc
  obtain ⟨hz0,hTI,⟨c,d,hTO⟩,h1,h2,n1⟩:=st
  have l1:=r.length
  refine ZT.uX D (ZT.eM (A:=X.A.in1) hh (Ne.symm D.l1i1)) hh hz0 hTI hTO ⟨h1,pl⟩ h2 (hx.imp (λq=>by simp;omega) λq=>by simp;omega) λh' hk=>⟨rfl,?_⟩
  refine fK (t':=s.toks) I (λb o hb q=>?_) hf
  simp only [List.mem_cons,List.not_mem_nil,or_false,not_or] at hb
  exact hk b o hb.1 hb.2.2.1 hb.2.2.2.1 hb.2.2.2.2 q
 self:=λ_ _ _ _ _ st h=>wpAny_pyIter_zip st.1 h
def zq (K:PySem.W.Frag)(ta:TA):TI:=λσ H R=>ta σ H λvs H1=>∃a x2 xs,vs=[.ref a,.str x2]/\x2.cps.all (· < 128)=true/\bH K H1 a xs/\R (y1 K a x2) H1
theorem vq {a b:Expr}{ta:TA}{p pos:Pos}{k:Nat}(hg:Gl X "zip")(hm:X.mg "zip"=none)(ha:PA X [a,b] ta)(hs:starEach [a,b] X.env=[(false,eval a X.env),(false,eval b X.env)]:=by rfl)(hs2:starEach [b] X.env=[(false,eval b X.env)]:=by rfl):PI X (.Tuple es k tp) (.Call (.Name "zip" p) [a,b] [] pos) (zq X.K ta):=by
 intro pins s σ H R I h
 refine Call_ (gr I hg hm boot_zip (PyProof.Rows.callWith_type1 (aI (ha pos pins s σ H _ I h) λus s1 ⟨vs,H1,I1,r1,q1⟩=>?_) (by rw [hs,hs2]) (by rw [hs2];rfl)))
 obtain ⟨l,x2,xs,e,hasc,hq,q⟩:=q1
 subst e
 cases r1 with
 | cons r rr=>
   cases rr with
   | cons r' rr=>
     cases rr
     cases r
     obtain ⟨t2,rfl⟩:=r'
     obtain ⟨its,_,pl,_⟩:=I1.tuple hq
     have ll:l < s1.heap.objs.size:=by obtain ⟨o,e,_⟩:=pl;exact Heap.lt_size e
     refine ZT.qC hasc pl λh' a1 a2 a3 a4 a5 hk=>?_
     refine wpAny_pyIter_zip a1 ?_
     have I2:Inv X pins σ H1 {s1 with heap:=h'}:=I1.kept (t':=s1.toks) hk
     have ff:∀b,s1.heap.objs.size<=b->gf X pins H1 b:=λb hb=>I1.ia hb (I1.hok.fresh hb)
     refine ⟨s1.heap.objs.size + 4,[s1.heap.objs.size + 4,s1.heap.objs.size + 2,s1.heap.objs.size + 3,s1.heap.objs.size,s1.heap.objs.size + 1],_,_,H1,rfl,I2,qg l x2 t2 _ _ _ _ _ (yy _),⟨a1,a2,⟨_,_,a3⟩,a4,a5,Nat.ne_of_lt (Nat.lt_of_lt_of_le ll (Nat.le_add_right _ 3))⟩,λb hb=>?_,q⟩
     simp only [List.mem_cons,List.not_mem_nil,or_false] at hb
     rcases hb with rfl | rfl | rfl | rfl | rfl
     ·exact ff _ (Nat.le_add_right _ 4)
     ·exact ff _ (Nat.le_add_right _ 2)
     ·exact ff _ (Nat.le_add_right _ 3)
     ·exact ff _ (Nat.le_refl _)
     ·exact ff _ (Nat.le_add_right _ 1)
theorem uP {a b:Expr}{p pos:Pos}{k:Nat}{xs:List PV}{x2:Str}(hm:X.mg "zip"=none)(ha:EV X a Γ ak (.tup xs) Γ1)(hb:EV X b Γ1 bS x2 Γ2)(hasc:x2.cps.all (· < 128)=true)(hz:xs.length<=sizeLine)(hs:starEach [a,b] X.env=[(false,eval a X.env),(false,eval b X.env)]:=by rfl)(hs2:starEach [b] X.env=[(false,eval b X.env)]:=by rfl)(hg:Gl X "zip":=by rfl):
 IV X (.Tuple es k tp) (.Call (.Name "zip" p) [a,b] [] pos) Γ (i0 ak bS) (xs.zip (fw x2)) Γ2:=by
 refine ⟨_,vq hg hm (aE aL (aE aL bt hs2) (by rw [hs,hs2])) hs hs2,λσ H0 R0 H R E Rq q=>ha σ H0 R0 H R E _ λv H1 R1 E1 s1 e1=>hb σ H0 R0 H1 R1 E1 _ λv' H2 R2 E2 s2 e2=>?_⟩
 cases e2
 cases ak.mono (K:=X.K) s2 e1 with
 | @tup a vs _ hp pp=>
   refine ⟨a,x2,vs,rfl,hasc,bH.of (E2.sub _ _ hp),q _ H2 R2 E2 (s1.trans s2) (by rw [List.length_zip];exact Nat.le_trans (Nat.min_le_left _ _) hz) λH' R' sR sH i=>⟨λy hy=>?_,λhi=>?_⟩⟩
   ·have hq:bH X.K H' a vs:=bH.of (sH _ _ (sR _ _ hp))
    obtain ⟨e1,e2⟩:=qq hy
    obtain ⟨v,hv,hr⟩:=cV pp.pair e1
    obtain ⟨c,hc,he⟩:∃c,x2.cps[i]?=some c/\(⟨#[c]⟩:Str)=y.2:=by
     unfold fw at e2
     rw [List.getElem?_map,Array.getElem?_toList] at e2
     cases h:x2.cps[i]? with
     | none=>rw [h] at e2;cases e2
     | some c=>rw [h] at e2;exact ⟨c,rfl,by injection e2⟩
    refine ⟨⟨vs,v,c,hq,hv,hc⟩,λv2 H3 hyl=>?_⟩
    obtain ⟨p,x,c',hpn,rfl,rfl,hy,hc'⟩:=hyl
    have t1:=hy vs hq
    rw [hv] at t1
    rw [hc] at hc'
    cases t1
    cases hc'
    have s3:aj R' (upd R' p (.tup [v,.str ⟨#[c]⟩])):=aj.fresh (sH.free hpn) _
    exact ⟨upd R' p (.tup [v,.str ⟨#[c]⟩]),Ext.fresh sH hpn _,p,_,_,rfl,aA,(hr.mono sR).mono s3,by rw [← he];rfl⟩
   ·refine ⟨vs,bH.of (sH _ _ (sR _ _ hp)),?_⟩
    rw [List.length_zip] at hi
    unfold fw at hi
    rw [List.length_map] at hi
    have hl:x2.cps.toList.length=x2.cps.size:=rfl
    rw [pp.pair.length]
    omega
end
end Fc
namespace HT
open PySem PySem.Spec PyProof.Rows
section
variable {prog:Program}{w:World}{A:Around}{E:Value->Shared->Prop}{s:Shared}
theorem i8 {t sl:Addr}{items:Array Value}{vl vu:Value}{lo hi:Option Int}{Q:Value->Shared->Prop}(ht:IsTup s.heap t items)(hs:s.heap.IsSliceOf sl vl vu .none)(pl:IsPart vl lo)(pu:IsPart vu hi)
 (hw:sIx items.size 0 lo=0/\sIx items.size items.size hi=items.size)
 (h:Q (.ref t) s):wpAny (model prog w) A (getItem (.ref t) (.ref sl)) Q E s:=by
 obtain ⟨os,hos,hcs,hds⟩:=id hs
 have hTs:s.TypeIs (.ref sl) "slice":=⟨os,hos,hcs⟩
 unfold getItem
 try with_reducible refine wpAny_holding ?_
 first | refine wpAny_bind (wpAny_pure ?_) | skip
 refine wpAny_bind (wpAny_sequenceKey ht.typeIs (by decide) ?_)
 refine wpAny_bind (wpAny_callSpecial?_slot (name:=Str.ofString "__getitem__") ht.typeIs PyProof.Rows.slot_tuple_getitem
  (wpAny_call_entry PyProof.Rows.slot_tuple_getitem ht.typeIs entry_tuple_getitem ?_ (args_tuple_getitem _ _)))
 show wpAny _ _ (Builtin.Tuple.tupleItemsOf (.ref t) >>=_) _ _ s
 refine wpAny_bind (tupleItemsOf_ ht ?_)
 refine wpAny_bind (wpAny_typeOf hTs ?_)
 rw [if_pos (by decide)]
 refine wpAny_bind (f6 hs pl pu ?_)
 have hyes:(((sIx items.size 0 lo:Nat):Int)==0&&(1:Int)==1&&(sIx items.size items.size hi - sIx items.size 0 lo)==items.size)=true:=by
  rw [hw.1,hw.2];simp
 show wpAny _ _ (if (((sIx items.size 0 lo:Nat):Int)==0&&(1:Int)==1&&(sIx items.size items.size hi - sIx items.size 0 lo)==items.size)=true then _ else _) _ _ s
 rw [if_pos hyes]
 refine wpAny_bind ?_
 unfold Builtin.Tuple.tupleIsExact
 refine wpAny_bind (wpAny_typeOf ht.typeIs (wpAny_pure ?_))
 rw [if_pos (by decide)]
 exact wpAny_bind (wpAny_rule (wpAny_pure ⟨_,rfl,wpAny_pure h⟩))
end
end HT
namespace Fc
open PySem PySem.Spec L2
open PyProof.Rows hiding St
section
variable {X:Cx}{Γ Γ1 Γ2 Γ3:Ga}{α β γ δ:Type}{N:Ga->Prop}{T:RT}
variable {pos:Pos}{a:Expr}{xs:List PV}{D:List (Str×Str)}{x:Str}{r:Rep α}{r':Rep β}
def Bu (K:PySem.W.Frag):V->Option Int->Option Int->Hp->VK->Prop:=λx lo hi H Q=>∃a xs,x= .ref a/\bH K H a xs/\
 (HT.sIx xs.length 0 lo=0/\HT.sIx xs.length xs.length hi=xs.length)/\Q x H
theorem yb:xG X (Bu X.K):=by
 intro pins s σ H x v vl vu lo hi sl Q I rx hs pl pu h
 obtain ⟨a,xs,rfl,hx,hw,q⟩:=h
 cases rx
 obtain ⟨its,r,ht,hz⟩:=I.tuple hx
 have hlen:its.toArray.size=xs.length:=by rw [List.size_toArray];exact r.length.symm
 refine ⟨"tuple",_,PyProof.Rows.slot_tuple_getitem.lookup,ht.typeIs,?_⟩
 exact HT.i8 ht hs pl pu (by rw [hlen];exact hw) ⟨.ref a,H,I,rfl,q⟩
theorem yD {lo hi:Option Expr}{p2:Pos}{l h:Option Int}(ha:EV X a Γ ak (.tup xs) Γ)(hl:OV X lo Γ l)(hh:OV X hi Γ h)(hw:HT.sIx xs.length 0 l=0/\HT.sIx xs.length xs.length h=xs.length):EV X (.Subscript a (.Slice lo hi none p2) pos) Γ ak (.tup xs) Γ:=by
 intro σ H0 R0 H R E Q q
 obtain ⟨tl,pl,kl⟩:=hl
 obtain ⟨th,ph,kh⟩:=hh
 refine eS (lL yb aL pl ph) (ha σ H0 R0 H R E _ λv H1 R1 E1 s1 e1=>kl σ H0 R0 H1 R1 E1 _ λH2 R2 E2 s2=>kh σ H0 R0 H2 R2 E2 _ λH3 R3 E3 s3=>?_)
 cases ak.mono (K:=X.K) (s2.trans s3) e1 with
 | @tup a' vs' _ hp pp=>
   exact ⟨_,_,rfl,bH.of (E3.sub _ _ hp),by rw [pp.pair.length];exact hw,q _ _ _ E3 (s1.trans (s2.trans s3)) (.tup hp pp)⟩
theorem gF {lo hi:Option Expr}{p2:Pos}{l h:Option Int}(ha:EV X a Γ ak (.tup xs) Γ)(hl:OV X lo Γ l)(hh:OV X hi Γ h):EV X (.Subscript a (.Slice lo hi none p2) pos) Γ ak (.tup (cut xs l h)) Γ:=by
 by_cases hw:HT.sIx xs.length 0 l=0/\HT.sIx xs.length xs.length h=xs.length
 ·have e:cut xs l h=xs:=by
   unfold cut
   rw [hw.1,hw.2]
   simp
  rw [e]
  exact yD ha hl hh hw
 ·exact jN ha hl hh hw
theorem eN {b:Expr}{ys:List PV}(ha:EV X a Γ ak (.tup xs) Γ1)(hb:EV X b Γ1 ak (.tup ys) Γ2)(hx:xs≠[])(hz:xs.length + ys.length<=sizeLine):EV X (.BinOp a .Add b pos) Γ ak (.tup (xs++ys)) Γ2:=by
 by_cases hy:ys=[]
 ·subst hy
  rw [List.append_nil]
  intro σ H0 R0 H R E Q q
  refine eS (oh nC aL aL) (ha σ H0 R0 H R E _ λv H1 R1 E1 s1 e1=>hb σ H0 R0 H1 R1 E1 _ λu H2 R2 E2 s2 e2=>?_)
  cases ak.mono (K:=X.K) s2 e1 with
  | @tup a1 v1 _ hp pp=>
    cases e2 with
    | @tup a2 v2 _ hp2 pp2=>
      have l1:=pp.pair.length
      have l2:=pp2.pair.length
      refine ⟨_,_,_,_,rfl,rfl,bH.of (E2.sub _ _ hp),bH.of (E2.sub _ _ hp2),λz=>hx ?_,by rw [l1,l2];exact hz,λz=>?_,λz=>absurd ?_ z⟩
      ·rw [z] at l1;exact List.length_eq_zero_iff.mp l1.symm
      ·exact q _ _ _ E2 (s1.trans s2) (.tup hp pp)
      ·exact List.length_eq_zero_iff.mp l2
 ·exact vJ ha hb hx hy hz
theorem qY {p:Pos}(hm:X.mg "list"=none)(ha:EV X a Γ ak (.tup xs) Γ1)(hz:xs.length<=sizeLine)(hs:starEach [a] X.env=[(false,eval a X.env)]:=by rfl)(hg:Gl X "list":=by rfl):bW X (.Call (.Name "list" p) [a] [] pos) Γ ak xs Γ1:=by
 intro σ H0 R0 H R E Q q
 refine eS (gz fR hg hm PyProof.Rows.boot_list (aE aL bt hs) (by decide) (by decide) hs) (ha σ H0 R0 H R E _ λv H1 R1 E1 s1 e1=>?_)
 cases e1 with
 | @tup p vs _ hp pp=>exact ⟨p,vs,rfl,.inr (bH.of (E1.sub _ _ hp)),λl hl=>q l vs _ R1 (E1.grow (Ext.dX E1.sub hl _)) s1 aA (E1.sub.free hl) (E1.ext.h.free hl) (E1.off hl) pp.pair hz⟩
theorem u9 {b:Expr}{y:Str}(ha:EV X a Γ bS x Γ1)(hb:EV X b Γ1 bS y Γ2)(hz:x.length + y.length<=sizeLine):EV X (.BinOp a .Add b pos) Γ bS (x++y) Γ2:=fC ou ha hb λR v u H Q e1 e2 q=>⟨x,y,e1,e2,hz,q _ rfl⟩
theorem sx:x5 X "str.upper" (λx xs H Q=>∃z,x= .str z/\xs=[]/\Builtin.Str.tooLong (Txt.upper z).length=false/\Q (.str (Txt.upper z)) H):=by
 intro pins s σ H x xs v us Q I rx r h
 obtain ⟨z,rfl,rfl,hz,q⟩:=h
 obtain ⟨t,rfl⟩:=rx
 cases r
 exact PySem.SC.upper hz ⟨.str (Txt.upper z),H,I.tok _,⟨_,rfl⟩,q⟩
theorem rM {ap:Pos}(ha:EV X a Γ bS x Γ1)(hz:Builtin.Str.tooLong (Txt.upper x).length=false)(hbase:attributeBase a "upper" X.env (eval a X.env)=eval a X.env:=by rfl)(hline:(ap.endLine==pos.line)=true:=by rfl):EV X (.Call (.Attribute a "upper" ap) [] [] pos) Γ bS (Txt.upper x) Γ1:=by
 intro σ H0 R0 H R E Q q
 refine eS (rq PySem.F.plainAttrs_str PySem.F.slot_str_upper PySem.F.type_str_upper sx aL hbase hline) (ha σ H0 R0 H R E _ λv H1 R1 E1 s1 e1=>?_)
 cases e1
 exact ⟨rfl,x,rfl,rfl,hz,q _ H1 R1 E1 s1 rfl⟩
theorem uF {p:Pos}(hm:X.mg "len"=none)(ha:EV X a Γ bS x Γ1)(hz:x.length<=sizeLine)(hs:starEach [a] X.env=[(false,eval a X.env)]:=by rfl)(hg:Gl X "len":=by rfl):EV X (.Call (.Name "len" p) [a] [] pos) Γ ae (x.length:Int) Γ1:=by
 intro σ H0 R0 H R E Q q
 refine eS (cj mf hg hm PySem.boot_len (aE aL bt hs) (by decide) (by decide) hs) (ha σ H0 R0 H R E _ λv H1 R1 E1 s1 e1=>?_)
 cases e1
 exact ⟨x,rfl,hz,q _ H1 R1 E1 s1 rfl⟩
abbrev jf (D:List (Str×Str)):List (Key×V):=D.map λd=>(Sum.inr d.1,V.str d.2)
def lK:Rep (List (Str×Str)):=⟨λ_ R v D=>∃a,v= .ref a/\R a=some (.dK (jf D)),λs ⟨a,e,h⟩=>⟨a,e,s _ _ h⟩⟩
theorem nH {σ:St}:∀{D:List (Str×Str)} {H:Hp} {Q:List (V×V)->Hp->Prop},Q (D.map λd=>(V.str d.1,V.str d.2)) H->j2 (D.map λd=>(tC (.str d.1),tC (.str d.2))) σ H Q
 | [],_,_,q=>q
 | _::r,_,_,q=>nH (D:=r) q
theorem uA {H:Hp}{p:Addr}{a b:HO}:upd (upd H p a) p b=upd H p b:=by
 funext c
 by_cases h:c=p
 ·subst h;rw [aA,aA]
 ·rw [az h,az h,az h]
inductive DS:List (Option Expr)->List Expr->List (Str×Str)->Prop
 | nil:DS [] [] []
 | cons {k v:Str} {j j':Nat} {p p':Pos} {ks:List (Option Expr)} {vs:List Expr} {D:List (Str×Str)}:DS ks vs D->DS (some (.Constant (.str k) j p)::ks) (.Constant (.str v) j' p'::vs) ((k,v)::D)
theorem DS.pps {ks:List (Option Expr)}{vs:List Expr}(h:DS ks vs D):qF X pos ks vs (D.map λd=>(tC (.str d.1),tC (.str d.2))):=by
 induction h with
 | nil=>exact ve
 | cons h ih=>exact sy mw mw ih
theorem DS.len {ks:List (Option Expr)}{vs:List Expr}(h:DS ks vs D):ks.all (·.isSome)=true/\ks.length=D.length/\vs.length=D.length:=by
 induction h with
 | nil=>exact ⟨rfl,rfl,rfl⟩
 | cons h ih=>exact ⟨ih.1,congrArg (· + 1) ih.2.1,congrArg (· + 1) ih.2.2⟩
theorem rW {keys:List (Option Expr)}{values:List Expr}(h:DS keys values D)(h0:D≠[])(hD:D.length<=15)(hmg:fX [] (jf D)=jf D):EV X (.Dict keys values pos) Γ lK D Γ:=by
 obtain ⟨hall,l1,l2⟩:=h.len
 intro σ H0 R0 H R E Q q
 refine eS (vL h.pps hall (l1.trans l2.symm) (λz=>h0 (List.length_eq_zero_iff.mp (by rw [← l1,z];rfl))) (by omega)) λp hp=>nH ⟨aA,jf D,?_,by rw [List.length_map];exact hD,?_⟩
 ·unfold jf
  rw [List.map_map]
  rfl
 ·rw [uA,hmg]
  have x:=Ext.fresh E.sub hp (.dK (jf D))
  exact q _ _ _ (E.grow x) x.r ⟨p,rfl,aA⟩
def ij:List (Str×Str)->Str->Option Str
 | [],_=>none
 | (k,v)::r,x=>if k=x then some v else ij r x
theorem oN {x:Str}:∀D:List (Str×Str),ej (jf D) (Sum.inr x)=(ij D x).map V.str
 | []=>rfl
 | (k,v)::r=>by
   have ih:=oN (x:=x) r
   unfold ej at ih ⊢
   unfold jf at ih ⊢
   rw [List.map_cons,List.find?_cons,ij]
   by_cases e:k=x
   ·subst e
    simp
   ·have:decide ((Sum.inr k:Key)=Sum.inr x)=false:=decide_eq_false λz=>e (Sum.inr.inj z)
    simp only [this]
    rw [if_neg e]
    exact ih
theorem kK {e d:Expr}{k:Str}(hu:X.A.units + 1 < cLine)(he:EV X e Γ bS k Γ1)(hd:EV X d Γ1 lK D Γ2)(hm:behindInMarks .NotIn d=false:=by with_unfolding_all rfl):TV X (.Compare e [.NotIn] [d] pos) Γ (!(ij D k).isSome) Γ2:=by
 intro σ H0 R0 H R E Q q
 refine tS (pU (rg hu aL aL) hm) (he σ H0 R0 H R E _ λv H1 R1 E1 s1 e1=>hd σ H0 R0 H1 R1 E1 _ λu H2 R2 E2 s2 e2=>?_)
 cases e1
 obtain ⟨a,rfl,ha⟩:=e2
 have g:=eX.k (k:=Sum.inr k) (E2.sub _ _ ha)
 rw [oN] at g
 refine ⟨a,_,rfl,g,?_⟩
 rw [Option.isSome_map]
 exact ⟨_,rfl,q H2 R2 E2 (s1.trans s2)⟩
theorem m4 {e d:Expr}{k y:Str}(hu:X.A.units + 1 < cLine)(hd:EV X d Γ lK D Γ1)(he:EV X e Γ1 bS k Γ2)(hy:ij D k=some y)(hsl:lz e:=by exact λ_ _=>rfl):EV X (.Subscript d e pos) Γ bS y Γ2:=by
 intro σ H0 R0 H R E Q q
 refine eS (nr hu aL aL hsl) (hd σ H0 R0 H R E _ λu H1 R1 E1 s1 e1=>he σ H0 R0 H1 R1 E1 _ λv H2 R2 E2 s2 e2=>?_)
 cases e2
 obtain ⟨a,rfl,ha⟩:=e1
 have g:=eX.k (k:=Sum.inr k) (E2.sub _ _ (s2 _ _ ha))
 rw [oN,hy] at g
 exact ⟨a,_,rfl,g,q _ H2 R2 E2 (s1.trans s2) rfl⟩
theorem mC (hu:X.A.units < cLine):eB X .Eq ak ak (.tup xs) (.tup []) xs.isEmpty:=
 ⟨λv u H Q=>∃R,aj R H/\cQ R v (.tup xs)/\cQ R u (.tup [])/\Q (.bl xs.isEmpty) H,λpins s σ H a b v u Q I rx ry ⟨R,sub,h1,h2,q⟩=>by
  cases h1 with
  | @tup a1 v1 _ e1 p1=>
    cases h2 with
    | @tup a2 v2 _ e2 p2=>
      cases rx;cases ry
      obtain ⟨us,hv,pl,_⟩:=I.tuple (bH.of (sub _ _ e1))
      obtain ⟨us',hw,pl',_⟩:=I.tuple (bH.of (sub _ _ e2))
      have n2:us'.toArray.size=0:=by rw [List.size_toArray,← hw.length,p2.pair.length];rfl
      have n1:us.toArray.size=xs.length:=by rw [List.size_toArray,← hv.length,p1.pair.length]
      have key:=SeqAt.RcAt.tuples (A:=X.A) (e:=λ_=>true) pl pl' hu λj h1 h2=>absurd h2 (by omega)
      have e:((List.range (min us.toArray.size us'.toArray.size)).all (λ_=>true)&&us.toArray.size==us'.toArray.size)=xs.isEmpty:=by
       rw [n1,n2,all_true]
       cases xs with
       | nil=>rfl
       | cons a b=>rfl
      rw [e] at key
      exact key _ _ _ _ ⟨.bl _,H,I,rfl,q⟩,λR H v u Q s h1 h2 q=>⟨R,s,h1,h2,q⟩⟩
theorem tJ {pins:List (Addr×Obj)}{σ:St}{H:Hp}{s:Shared}{R:Hp}(I:Inv X pins σ H s)(sub:aj R H)(hu:X.A.units < cLine){xs:List α}{v u:V}{vv uu:Value}(rv:RelV v vv)(ru:RelV u uu)(h1:(ai r).R X.K R v xs)(h2:(ai r').R X.K R u []):
 SeqAt.RcAt X.A s vv uu xs.isEmpty/\SeqAt.RcNeAt X.A s vv uu (!xs.isEmpty):=by
 obtain ⟨a1,v1,rfl,e1,p1,_⟩:=h1
 obtain ⟨a2,v2,rfl,e2,p2,_⟩:=h2
 cases rv;cases ru
 obtain ⟨us,hv,pl,_⟩:=I.list (bI.of (sub _ _ e1))
 obtain ⟨us',hw,pl',_⟩:=I.list (bI.of (sub _ _ e2))
 have n2:us'.toArray.size=0:=by rw [List.size_toArray,← hw.length,p2.length];rfl
 have n1:us.toArray.size=xs.length:=by rw [List.size_toArray,← hv.length,p1.length]
 cases xs with
 | nil=>
   have n1:us.toArray.size=0:=n1
   have k1:=SeqAt.RcAt.lists (A:=X.A) (e:=λ_=>true) pl.isList pl'.isList (by rw [n1,n2]) hu λj h1 h2=>absurd h2 (by omega)
   have k2:=SeqAt.RcNeAt.lists (A:=X.A) (e:=λ_=>true) pl.isList pl'.isList (by rw [n1,n2]) hu λj h1 h2=>absurd h2 (by omega)
   rw [all_true] at k1 k2
   exact ⟨k1,k2⟩
 | cons a b=>
   have ne:(us.toArray.size != us'.toArray.size)=true:=by rw [n1,n2];rfl
   exact ⟨SeqAt.RcAt.lists_lengths pl.isList pl'.isList ne hu,SeqAt.RcNeAt.lists_lengths pl.isList pl'.isList ne hu⟩
theorem iJ (hu:X.A.units < cLine){xs:List α}:eB X .Eq (ai r) (ai r') xs [] xs.isEmpty:=
 ⟨λv u H Q=>∃R,aj R H/\(ai r).R X.K R v xs/\(ai r').R X.K R u []/\Q (.bl xs.isEmpty) H,λpins s σ H a b v u Q I rx ry ⟨R,sub,h1,h2,q⟩=>(tJ I sub hu rx ry h1 h2).1 _ _ _ _ ⟨.bl _,H,I,rfl,q⟩,λR H v u Q s h1 h2 q=>⟨R,s,h1,h2,q⟩⟩
theorem gY (hu:X.A.units < cLine){xs:List α}:eB X .NotEq (ai r) (ai r') xs [] (!xs.isEmpty):=
 ⟨λv u H Q=>∃R,aj R H/\(ai r).R X.K R v xs/\(ai r').R X.K R u []/\Q (.bl (!xs.isEmpty)) H,λpins s σ H a b v u Q I rx ry ⟨R,sub,h1,h2,q⟩=>(tJ I sub hu rx ry h1 h2).2 _ _ _ _ ⟨.bl _,H,I,rfl,q⟩,λR H v u Q s h1 h2 q=>⟨R,s,h1,h2,q⟩⟩
end
end Fc
namespace K1
open PySem L2 Fc
open PySem.Spec hiding Row
open PyProof.Rows hiding St
def cO:List (Str×Str):=[("row","n"),("ask","nnt"),("jump","t"),("call","ntz"),("back",""),("count","n"),("add","z"),("tell","nz")]
def iq (x:PV)(c:Str)(n:Int):Bool:=match x with
 | .int v=> !((!decide (c="z")&&decide (v < 0)) ||(decide (c="t")&&decide (v≥n)))
 | _=>false
def ig (c:Str):Str:=if c="n" then "from nought" else if c="t" then "tuple" else "any"
theorem yj {x:PV}{c:Str}{n:Int}(hc:c="n"∨c="t"∨c="z"):fo x (ig c) n=iq x c n:=by
 cases x with
 | int v=>
   show cR v (ig c) n= !((!decide (c="z")&&decide (v < 0)) ||(decide (c="t")&&decide (v≥n)))
   rcases hc with rfl | rfl | rfl
   ·rw [show ig "n"="from nought" from rfl,cR,if_neg (by decide),decide_eq_false (show¬(("from nought":Str)="tuple") by decide),decide_eq_false (show¬(("n":Str)="z") by decide),decide_eq_false (show¬(("n":Str)="t") by decide)]
    by_cases h:v < 0
    ·rw [decide_eq_true h,decide_eq_false (show¬v≥0 by omega)];rfl
    ·rw [decide_eq_false h,decide_eq_true (show v≥0 by omega)];rfl
   ·rw [show ig "t"="tuple" from rfl,cR,if_neg (by decide),decide_eq_true (show ("tuple":Str)="tuple" from rfl),decide_eq_false (show¬(("t":Str)="z") by decide),decide_eq_true (show ("t":Str)="t" from rfl)]
    by_cases h:v < 0
    ·rw [decide_eq_true h,decide_eq_false (show¬v≥0 by omega)];rfl
    ·rw [decide_eq_false h,decide_eq_true (show v≥0 by omega)]
     by_cases h2:v < n
     ·rw [decide_eq_true h2,decide_eq_false (show¬v≥n by omega)];rfl
     ·rw [decide_eq_false h2,decide_eq_true (show v≥n by omega)];rfl
   ·rw [show ig "z"="any" from rfl,cR,if_pos rfl,decide_eq_true (show ("z":Str)="z" from rfl),decide_eq_false (show¬(("z":Str)="t") by decide)];rfl
 | _=>rfl
theorem qK {n:Int}:∀{xs:List PV} {cs:List Str},(∀c∈cs,c="n"∨c="t"∨c="z")->((xs.zip (cs.map ig)).all λq=>fo q.1 q.2 n)=((xs.zip cs).all λq=>iq q.1 q.2 n)
 | [],_,_=>by simp
 | _::_,[],_=>rfl
 | x::xs,c::cs,h=>by
   rw [List.map_cons,List.zip_cons_cons,List.zip_cons_cons,List.all_cons,List.all_cons,qK λd hd=>h d (List.mem_cons_of_mem _ hd)]
   show (fo x (ig c) n&&_)=(iq x c n&&_)
   rw [yj (h c List.mem_cons_self)]
theorem rH {x y:Str}:∀{D:List (Str×Str)},ij D x=some y->(x,y)∈D
 | (k,v)::r,h=>by
   rw [ij] at h
   by_cases e:k=x
   ·rw [if_pos e] at h
    cases h
    subst e
    exact List.mem_cons_self
   ·rw [if_neg e] at h
    exact List.mem_cons_of_mem _ (rH h)
theorem jc:∀(D:List (Str×Str)) (x:Str),dZ (D.map λd=>(d.1,(fw d.2).map ig)) x=(ij D x).map λy=>(fw y).map ig
 | [],_=>rfl
 | (k,v)::r,x=>by
   rw [List.map_cons,dZ,ij]
   by_cases e:k=x
   ·rw [if_pos e,if_pos e];rfl
   ·rw [if_neg e,if_neg e,jc r x]
theorem qm:cw=cO.map λd=>(d.1,(fw d.2).map ig):=by decide +kernel
theorem lb {x y:Str}(h:(x,y)∈cO):(∀c∈fw y,c="n"∨c="t"∨c="z")/\y.cps.all (· < 128)=true/\y.length<=3:=by
 have key:∀d∈cO,(∀c∈fw d.2,c="n"∨c="t"∨c="z")/\d.2.cps.all (· < 128)=true/\d.2.length<=3:=by decide +kernel
 exact key _ h
theorem yY (y:Str):(fw y).length=y.length:=by
 unfold fw
 rw [List.length_map]
 rfl
theorem oO (k:Str)(xs:List PV)(n:Int):bR (.tup (.str k::xs)) n=(match ij cO k with | some y=>decide (xs.length=y.length)&&((xs.zip (fw y)).all λq=>iq q.1 q.2 n) | none=>false):=by
 rw [fits_str,qm,jc]
 cases h:ij cO k with
 | none=>rfl
 | some y=>
   show (decide (xs.length=((fw y).map ig).length)&&((xs.zip ((fw y).map ig)).all λq=>fo q.1 q.2 n))=_
   rw [qK (lb (rH h)).1,List.length_map,yY]
section
variable {P:Program}{w:World}{K:PySem.W.Frag}{mg:Str->Option Value}{base:Heap}{f:Addr}{fd:FuncData}{C:Addr}
theorem wB (M:bU K mg)(F:bL K "_law_whole" "_law_whole" qr f fd)(hm:mg "_law_whole"=some (.ref f))(hb:Binds K fd ["_law_found"] []):aU P w K mg base "_law_whole" 1 (aZ nP K):=by
 have nd:=n9.nd
 refine cI F n9 hm hb (λqs T ⟨x,e,_⟩=>by rw [e];rfl) (λcdv A outer s H E qs T hr hS=>?_)
 obtain ⟨x,rfl,rfl⟩:=hS
 change WS _ _ [.im ak x] _ _
 cases x with
 | non=>exact ah (aT (cC (y:=true) (aF (b:=false) M.isinstance M.int PyProof.Rows.boot_int (aa 0 rfl) fO) (λh=>absurd h (by decide))) rfl)
 | bl b=>exact ah (aT (cC (aF (b:=true) M.isinstance M.int PyProof.Rows.boot_int (aa 0 rfl) eY) (λ_=>dD (gJ (aF (b:=true) M.isinstance M.bool boot_bool (aa 0 rfl) eY)))) rfl)
 | int n=>exact ah (aT (cC (aF (b:=true) M.isinstance M.int PyProof.Rows.boot_int (aa 0 rfl) eu) (λ_=>dD (gJ (aF (b:=false) M.isinstance M.bool boot_bool (aa 0 rfl) eu)))) rfl)
 | str s=>exact ah (aT (cC (y:=true) (aF (b:=false) M.isinstance M.int PyProof.Rows.boot_int (aa 0 rfl) fL) (λh=>absurd h (by decide))) rfl)
 | tup xs=>exact ah (aT (cC (y:=true) (aF (b:=false) M.isinstance M.int PyProof.Rows.boot_int (aa 0 rfl) dY) (λh=>absurd h (by decide))) rfl)
 | lst xs=>exact ah (aT (cC (y:=true) (aF (b:=false) M.isinstance M.int PyProof.Rows.boot_int (aa 0 rfl) fN) (λh=>absurd h (by decide))) rfl)
abbrev iT:Stmt:=top l0
abbrev wM:List Str:=["_law_line_here","_law_many","_law_kinds","_law_thing","_law_kind"]
theorem wJ:aR wM ["_law_line_here","_law_many"] (aq iT):=⟨rfl,rfl,rfl,by decide +kernel,rfl,by decide +kernel,by decide +kernel⟩
theorem ym {p:α->Bool}{xs:List α}{i:Nat}{x:α}(h:xs[i]?=some x)(hp:p x=false):xs.all p=false:=by
 rw [List.all_eq_false]
 exact ⟨x,List.mem_of_getElem? h,by rw [hp];decide⟩
theorem su {p:α->Bool}{xs:List α}{i:Nat}{x:α}(h:xs[i]?=some x)(hp:p x=true)(ih:(xs.take i).all p=true):(xs.take (i + 1)).all p=true:=by
 obtain ⟨hi,rfl⟩:=List.getElem?_eq_some_iff.mp h
 rw [List.take_succ_eq_append_getElem hi,List.all_append,ih]
 simp [hp]
theorem mO:fX [] (jf cO)=jf cO:=by decide +kernel
def stD:Stmt:=(bz iT).getD 1 (.Pass ⟨0,0,0,0⟩)
def As:Expr:=match stD with | .Assign _ e _=>e | _=>.Constant .none 0 ⟨0,0,0,0⟩
theorem y0:∃ks vs p,As= .Dict ks vs p/\DS ks vs cO:=⟨_,_,_,rfl,.cons (.cons (.cons (.cons (.cons (.cons (.cons (.cons .nil)))))))⟩
theorem xH:∃e0:Expr,As=e0/\(∀(X:Cx) (Γ:Ga),EV X e0 Γ lK cO Γ)/\∀t l env,swapsWith e0 t l env=pure false:=by
 obtain ⟨ks,vs,p,e,h⟩:=y0
 exact ⟨.Dict ks vs p,e,λX Γ=>rW h (List.cons_ne_nil _ _) (by decide) mO,λ_ _ _=>rfl⟩
def A1:cE:=λK ps T=>∃(x:PV) (n:Int),ps=[⟨ak,x⟩,⟨ae,n⟩]/\dS x<=100/\T=cB K bq (· =bR x n)
theorem Ac (M:bU K mg)(CW:aU P w K mg base "_law_whole" 1 (aZ nP K))(F:bL K "_law_fits" "_law_fits" iT f fd)(hm:mg "_law_fits"=some (.ref f))(hb:Binds K fd ["_law_line_here","_law_many"] []):aU P w K mg base "_law_fits" 2 (aZ A1 K):=by
 have nd:=wJ.nd
 refine cI F wJ hm hb (λqs T ⟨_,_,e,_⟩=>by rw [e];rfl) (λcdv A outer s H E qs T hr hS=>?_)
 obtain ⟨x,n,rfl,hlen,rfl⟩:=hS
 have hu:(A.deeper (envOfC "_law_fits" (aq iT) s.heap.objs.size f cdv)).units + 1 < cLine:=Nat.lt_of_le_of_lt (Nat.add_le_add_left (by decide:1<=64) _) hr.units
 have hu0:(A.deeper (envOfC "_law_fits" (aq iT) s.heap.objs.size f cdv)).units < cLine:=by omega
 change WS _ _ [.im ak x,.im ae n,.no,.no,.no] _ _
 have no:∀(T:Value),(∀K:PySem.W.Frag,PySem.W.kitOne K T (.type "tuple")=some false)->(∀R H v,aj R H->ak.R K R v x->cy K H v T)->bR x n=false->WS (bA cL P w K mg base wM "_law_fits" (aq iT) f cdv A outer s H E).cD (bz iT) [.im ak x,.im ae n,.no,.no,.no] (λ_=>False) (cB K bq (· =bR x n)):=λT h1 ty hf=>by
  refine ao (aD (TW.tv (bG (y:=false) (aX (aV (aF M.isinstance M.tuple PyProof.Rows.boot_tuple (aa 0 rfl) ty h1))) (λh=>absurd h (by decide)))) (λh=>ah (aT bY hf.symm)) (λh=>absurd h (by decide)))
 cases x with
 | non=>exact no (.type "NoneType") (λ_=>rfl) fO rfl
 | bl b=>exact no (.type "bool") (λ_=>rfl) eY rfl
 | int i=>exact no (.type "int") (λ_=>rfl) eu rfl
 | str s=>exact no (.type "str") (λ_=>rfl) fL rfl
 | lst xs=>exact no (.type "list") (λ_=>rfl) fN rfl
 | tup ys=>
   cases ys with
   | nil=>exact ao (aD (TW.tv (bG (aX (aV (aF (b:=true) M.isinstance M.tuple PyProof.Rows.boot_tuple (aa 0 rfl) dY))) (λ_=>bG (y:=true) (av (mC hu0) (aa 0 rfl) (bD aM (Nat.zero_le _))) (λh=>absurd h (by decide))))) (λh=>ah (aT bY rfl)) (λh=>absurd (show (!true ||(true ||true))=false from h) (by decide)))
   | cons y xs=>
     have hlen:xs.length + 1<=100:=hlen
     have nos:∀(T:Value),(∀K:PySem.W.Frag,PySem.W.kitOne K T (.type "str")=some false)->(∀R H v,aj R H->ak.R K R v y->cy K H v T)->bR (.tup (y::xs)) n=false->WS (bA cL P w K mg base wM "_law_fits" (aq iT) f cdv A outer s H E).cD (bz iT) [.im ak (.tup (y::xs)),.im ae n,.no,.no,.no] (λ_=>False) (cB K bq (· =bR (.tup (y::xs)) n)):=λT h1 ty hf=>by
      refine ao (aD (TW.tv (bG (aX (aV (aF (b:=true) M.isinstance M.tuple PyProof.Rows.boot_tuple (aa 0 rfl) dY))) (λ_=>bG (av (mC hu0) (aa 0 rfl) (bD aM (Nat.zero_le _))) (λ_=>cc (aX (aV (aF M.isinstance M.str PyProof.Rows.boot_str (aP (aa 0 rfl) ag eJ) ty h1))))))) (λh=>ah (aT bY hf.symm)) (λh=>absurd (show (!true ||(false || !false))=false from h) (by decide)))
     cases y with
     | non=>exact nos (.type "NoneType") (λ_=>rfl) fO rfl
     | bl b=>exact nos (.type "bool") (λ_=>rfl) eY rfl
     | int i=>exact nos (.type "int") (λ_=>rfl) eu rfl
     | tup zs=>exact nos (.type "tuple") (λ_=>rfl) dY rfl
     | lst zs=>exact nos (.type "list") (λ_=>rfl) fN rfl
     | str k=>
       refine ao (aD (TW.tv (bG (aX (aV (aF (b:=true) M.isinstance M.tuple PyProof.Rows.boot_tuple (aa 0 rfl) dY))) (λ_=>bG (av (mC hu0) (aa 0 rfl) (bD aM (Nat.zero_le _))) (λ_=>cc (aX (aV (aF (b:=true) M.isinstance M.str PyProof.Rows.boot_str (aP (aa 0 rfl) ag eJ) fL))))))) (λh=>absurd (show (!true ||(false || !true))=true from h) (by decide)) (λ_=>aJ ?_))
       obtain ⟨e0,he0,hev,hsw⟩:=xH
       have he1:Expr.Dict _ _ _=e0:=he0
       refine ao ?_
       rw [he1]
       refine bQ 2 (hev _ _) ?_ (hs:=hsw _ _ _)
       change WS _ _ [.im ak (.tup (.str k::xs)),.im ae n,.im lK cO,.no,.no] _ _
       have hfit:=oO k xs n
       cases hk:ij cO k with
       | none=>
         rw [hk] at hfit
         refine ao (aD (TW.tv (bG (y:=true) (TV.cast (b':=true) (kK hu (EV.sP (x:=k) (aP (aa 0 rfl) ag eJ)) (aa 2 rfl)) (by rw [hk];rfl)) (λh=>absurd h (by decide)))) (λh=>ah (aT bY (by rw [hfit]))) (λh=>absurd h (by decide)))
       | some y=>
         rw [hk] at hfit
         obtain ⟨hntz,hasc,h3⟩:=lb (rH hk)
         refine ao (aD (TW.tv (bG (TV.cast (b':=false) (kK hu (EV.sP (x:=k) (aP (aa 0 rfl) ag eJ)) (aa 2 rfl)) (by rw [hk];rfl)) (λ_=>cc (av rO (eW M.len (aa 0 rfl)) (cP ag (uF M.len (m4 hu (aa 2 rfl) (EV.sP (x:=k) (aP (aa 0 rfl) ag eJ)) hk) (Nat.le_trans h3 dB))))))) (λh=>ah (aT bY ?_)) (λh=>aJ ?_))
         ·rw [List.length_cons] at h
          show false=bR _ n
          rw [hfit]
          show false=(decide (xs.length=y.length)&&_)
          rw [decide_eq_false,Bool.false_and]
          intro e
          rw [e] at h
          simp at h
          omega
         have hl:xs.length=y.length:=by
          rw [List.length_cons] at h
          simp at h
          omega
         have hfit:bR (.tup (.str k::xs)) n=((xs.zip (fw y)).all λq=>iq q.1 q.2 n):=by
          rw [hfit]
          show (decide (xs.length=y.length)&&_)=_
          rw [decide_eq_true hl,Bool.true_and]
         have hsl:¬(HT.sIx (PV.str k::xs).length 0 (some 1)=0/\HT.sIx (PV.str k::xs).length (PV.str k::xs).length none=(PV.str k::xs).length):=λh=>by
          have h1:=h.1
          unfold HT.sIx at h1
          rw [List.length_cons] at h1
          simp at h1
         have hcut:cut (PV.str k::xs) (some 1) none=xs:=by
          unfold cut HT.sIx
          simp
         refine ao (il (λi Γ=>∃e3 e4,((xs.zip (fw y)).take i).all (λq=>iq q.1 q.2 n)=true/\Γ=[.im ak (.tup (.str k::xs)),.im ae n,.im lK cO,e3,e4]) (uP M.zip (hcut▸jN (aa 0 rfl) (dF ag) dH hsl) (m4 hu (aa 2 rfl) (EV.sP (x:=k) (aP (aa 0 rfl) ag eJ)) hk) hasc (Nat.le_trans (show xs.length<=100 by omega) (by decide))) (gH 3 4) ⟨_,_,rfl,rfl⟩ (λi q Γ hq hΓ=>?_) (λΓ hΓ=>?_))
         ·obtain ⟨e3,e4,hi,rfl⟩:=hΓ
          obtain ⟨q1,q2⟩:=q
          change WS _ _ [.im ak (.tup (.str k::xs)),.im ae n,.im lK cO,.im ak q1,.im bS q2] _ _
          have bad:iq q1 q2 n=false->false=bR (.tup (.str k::xs)) n:=λhb=>by
           rw [hfit]
           exact (ym (p:=λq:PV×Str=>iq q.1 q.2 n) hq hb).symm
          have good:iq q1 q2 n=true->((xs.zip (fw y)).take (i + 1)).all (λq=>iq q.1 q.2 n)=true:=λhb=>su (p:=λq:PV×Str=>iq q.1 q.2 n) hq hb hi
          by_cases hI:yR q1=true
          ·obtain ⟨v,rfl⟩:∃v,q1= .int v:=by cases q1<;>first | exact ⟨_,rfl⟩ | exact absurd (show false=true from hI) (by decide)
           refine ah (aD (TW.tv (bG (aX (aV (bK CW hr (au (aa 3 rfl) aG) ⟨_,rfl,rfl⟩))) (λ_=>bG (TW.tv (cH (av oQ (aa 4 rfl) cA) (λ_=>ez (av iu (EV.iP (n:=v) (aa 3 rfl)) ag)))) (λ_=>cc (TW.tv (cH (av aY (aa 4 rfl) cA) (λ_=>ez (av jm (EV.iP (n:=v) (aa 3 rfl)) (aa 1 rfl))))))))) (λh=>ah (aT bY (bad ?_))) (λh=>aJ ⟨_,_,good ?_,rfl⟩))
           ·have h:((!decide (q2="z")&&decide (v < 0)) ||(decide (q2="t")&&decide (v≥n)))=true:=h
            show (!((!decide (q2="z")&&decide (v < 0)) ||(decide (q2="t")&&decide (v≥n))))=false
            rw [h];rfl
           ·have h:((!decide (q2="z")&&decide (v < 0)) ||(decide (q2="t")&&decide (v≥n)))=false:=h
            show (!((!decide (q2="z")&&decide (v < 0)) ||(decide (q2="t")&&decide (v≥n))))=true
            rw [h];rfl
          ·have hI:yR q1=false:=by simpa using hI
           refine ah (aD (TW.tv (bG (y:=true) (TV.cast (b':=true) (aX (aV (bK CW hr (au (aa 3 rfl) aG) ⟨_,rfl,rfl⟩))) (by rw [hI];rfl)) (λh=>absurd h (by decide)))) (λh=>ah (aT bY (bad ?_))) (λh=>absurd h (by decide)))
           cases q1<;>first | rfl | exact absurd (show true=false from hI) (by decide)
         ·obtain ⟨e3,e4,hi,rfl⟩:=hΓ
          rw [List.take_of_length_le (Nat.le_refl _)] at hi
          exact ah (aT bY (by rw [hfit,hi]))
end
end K1
namespace Fc
open PySem PySem.Spec L2
open PyProof.Rows hiding St
section
variable {X:Cx}{Γ Γ1:Ga}
theorem EV.pB {e:Expr}{b:Bool}(h:EV X e Γ bq b Γ1):EV X e Γ ak (.bl b) Γ1:=h.re λK R v e=>by cases e;exact .bl b
end
theorem hW {α:Type}{P:α->Prop}{xs:List α}{i:Nat}(d:α)(h:∀y∈xs,P y)(hi:i < xs.length):P (xs.getD i d):=by
 rw [List.getD_eq_getElem?_getD,List.getElem?_eq_getElem hi]
 exact h _ (List.getElem_mem hi)
theorem wb {α:Type}(xs:List α)(l h:Option Int):(cut xs l h).length<=xs.length:=by
 unfold cut
 rw [List.length_take,List.length_drop]
 omega
end Fc
namespace K1
open PySem L2 Fc
open PySem.Spec hiding Row
open PyProof.Rows hiding St
section
variable {P:Program}{w:World}{K:PySem.W.Frag}{mg:Str->Option Value}{base:Heap}{f:Addr}{fd:FuncData}{C:Addr}
abbrev uj:Stmt:=top mi
abbrev nBN:List Str:=["_law_line_here","_law_way","_law_many","_law_at","_law_strange"]
theorem yM:aR nBN ["_law_line_here","_law_way","_law_many"] (aq uj):=⟨rfl,rfl,rfl,by decide +kernel,rfl,by decide +kernel,by decide +kernel⟩
def AF:cE:=λK ps T=>∃(l:Ln) (way n:Int),ps=[⟨ak,cZ l⟩,⟨ae,way⟩,⟨ae,n⟩]/\0<=way/\way < 44/\T=cB K ak (λy=>dS y<=100)
theorem Ae (l:Ln):l.k.length + ("s":Str).length<=sizeLine/\Builtin.Str.tooLong (Txt.upper l.k).length=false:=by
 have key:∀k∈cO.map (·.1),k.length + ("s":Str).length<=sizeLine/\Builtin.Str.tooLong (Txt.upper k).length=false:=by decide +kernel
 refine key _ ?_
 cases l<;>simp [cO,Ln.k]
theorem kz {a b:List PV}(h:a.length + b.length<=100):dS (.tup (a++b))<=100:=by
 show (a++b).length<=100
 rw [List.length_append];exact h
theorem Al (M:bU K mg)(hL:mg "list"=none)(hX:mg "max"=none)(F:bL K "_law_bent" "_law_bent" uj f fd)(hm:mg "_law_bent"=some (.ref f))(hb:Binds K fd ["_law_line_here","_law_way","_law_many"] []):aU P w K mg base "_law_bent" 1 (aZ AF K):=by
 have nd:=yM.nd
 refine cI F yM hm hb (λqs T ⟨_,_,_,e,_⟩=>by rw [e];rfl) (λcdv A outer s H E qs T hr hS=>?_)
 obtain ⟨l,way,n,rfl,w0,w1,rfl⟩:=hS
 have hk:=Ae l
 have hlp:cZ l= .tup (.str l.k::l.ns.map PV.int):=rfl
 have hns:(l.ns.map PV.int).length<=3:=by cases l<;>simp [Ln.ns]
 rw [hlp]
 generalize l.k=k at hk
 generalize l.ns.map PV.int=xs at hns
 have big:(100:Nat)<=sizeLine:=by decide
 have hlen:(PV.str k::xs).length<=4:=by rw [List.length_cons];omega
 have hc:=λ(a b:Option Int)=>wb (PV.str k::xs) a b
 change WS _ _ [.im ak (.tup (.str k::xs)),.im ae way,.im ae n,.no,.no] _ _
 refine ao (aD (av iu (aa 1 rfl) ag) (λh=>?_) (λh=>aJ ?_))
 ·have h4:way < 4:=of_decide_eq_true h
  refine ah (aT (cF (r:=ak) (bW.im (bC (ay (eN (bD (ay (EV.pS (u9 (EV.sP (x:=k) (aP (aa 0 rfl) ag eJ)) cA hk.1)) aM) (by show 1<=sizeLine;decide)) (gF (aa 0 rfl) (dF ag) dH) (List.cons_ne_nil _ _) (by have:=hc (some 1) none;rw [List.length_singleton];omega))
   (ay (eN (aa 0 rfl) (bD (ay (EV.pI ag) aM) (by show 1<=sizeLine;decide)) (List.cons_ne_nil _ _) (by rw [List.length_singleton];omega))
   (ay (gF (aa 0 rfl) dH (dF (gL ag)))
   (ay (EV.pL (bW.im (qY hL (aa 0 rfl) (by omega)))) aM)))) (by show 4<=sizeLine;decide))) (aa 1 rfl) (dg .non w0 (by show way < 4;exact h4))) (hW (P:=λy=>dS y<=100) .non ?_ (by show way.toNat < 4;omega)))
  intro y hy
  simp only [List.mem_cons,List.not_mem_nil,or_false] at hy
  rcases hy with rfl | rfl | rfl | rfl
  ·have:=hc (some 1) none
   exact kz (by rw [List.length_singleton];omega)
  ·exact kz (by rw [List.length_singleton];omega)
  ·have:=hc none (some (-1))
   exact Nat.le_trans this (by omega)
  ·show 0<=100;decide
 have h4:¬way < 4:=of_decide_eq_false h
 refine ao (aD (av iu (aa 1 rfl) ag) (λh=>?_) (λh=>aJ ?_))
 ·have h7:way < 7:=of_decide_eq_true h
  refine ah (aT (cF (r:=ak) (bW.im (bC (ay (bD (xs:=[]) aM (Nat.zero_le _))
   (ay (eN (bD (ay (EV.pI ag) aM) (by show 1<=sizeLine;decide)) (aa 0 rfl) (List.cons_ne_nil _ _) (by rw [List.length_singleton];omega))
   (ay (eN (bD (ay (EV.pS (rM (EV.sP (x:=k) (aP (aa 0 rfl) ag eJ)) hk.2)) aM) (by show 1<=sizeLine;decide)) (gF (aa 0 rfl) (dF ag) dH) (List.cons_ne_nil _ _) (by have:=hc (some 1) none;rw [List.length_singleton];omega)) aM))) (by show 3<=sizeLine;decide))) (gv (aa 1 rfl) ag) (dg .non (by omega) (by show way - 4 < 3;omega))) (hW (P:=λy=>dS y<=100) .non ?_ (by show (way - 4).toNat < 3;omega)))
  intro y hy
  simp only [List.mem_cons,List.not_mem_nil,or_false] at hy
  rcases hy with rfl | rfl | rfl
  ·show 0<=100;decide
  ·exact kz (by rw [List.length_singleton];omega)
  ·have:=hc (some 1) none
   exact kz (by rw [List.length_singleton];omega)
 have h7:¬way < 7:=of_decide_eq_false h
 refine ao (aD (av wK (aa 1 rfl) ag) (λh=>?_) (λh=>aJ ?_))
 ·have h39:way > 39:=of_decide_eq_true h
  refine ah (aT (cF (r:=ak) (bW.im (bC (ay (eN (bD (ay (EV.pL (xs:=[]) (bW.im (bC aM (Nat.zero_le _)))) aM) (by show 1<=sizeLine;decide)) (gF (aa 0 rfl) (dF ag) dH) (List.cons_ne_nil _ _) (by have:=hc (some 1) none;rw [List.length_singleton];omega))
   (ay (EV.pN dN) (ay (EV.pI ag) (ay (EV.pS cA) aM)))) (by show 4<=sizeLine;decide))) (gv (aa 1 rfl) ag) (dg .non (by omega) (by show way - 40 < 4;omega))) (hW (P:=λy=>dS y<=100) .non ?_ (by show (way - 40).toNat < 4;omega)))
  intro y hy
  simp only [List.mem_cons,List.not_mem_nil,or_false] at hy
  rcases hy with rfl | rfl | rfl | rfl
  ·have:=hc (some 1) none
   exact kz (by rw [List.length_singleton];omega)
  ·show 0<=100;decide
  ·show 0<=100;decide
  ·show 0<=100;decide
 have hmax:∀a:Int,(0:Int) < (if a > 1 then a else 1):=λa=>by split<;>omega
 refine ao (bQ 3 (cP ag (bJ (dI (aa 1 rfl) ag ⟨by decide,by decide⟩) (uE hX (au ag (au (gv (eW M.len (aa 0 rfl)) ag) aG))) (hmax _))) ?_)
 have q0:=Int.emod_nonneg (way / 7) (show (if ((PV.str k::xs).length:Int) - 1 > 1 then ((PV.str k::xs).length:Int) - 1 else 1)≠0 from (Int.ne_of_gt (hmax _)))
 generalize hat:(1 + way / 7 % (if ((PV.str k::xs).length:Int) - 1 > 1 then ((PV.str k::xs).length:Int) - 1 else 1))=at_
 have hat1:1<=at_:=by omega
 change WS _ _ [.im ak (.tup (.str k::xs)),.im ae way,.im ae n,.im ae at_,.no] _ _
 have r0:=Int.emod_nonneg way (show (7:Int)≠0 by decide)
 have r1:=Int.emod_lt_of_pos way (show (0:Int) < 7 by decide)
 refine ao (bQ 4 (cF (r:=ak) (bW.im (bC (ay (EV.pB bY) (ay (EV.pS cA) (ay (EV.pI (gL ag)) (ay (EV.pI (aa 2 rfl)) (ay (EV.pI (gv ag (jz ag ag ⟨by decide,by decide,by decide⟩))) (ay (EV.pI (jz ag ag ⟨by decide,by decide,by decide⟩)) (ay (EV.pN dN) aM))))))) (by show 7<=sizeLine;decide))) (bJ (aa 1 rfl) ag (by decide)) (dg .non r0 (by show way % 7 < 7;exact r1))) ?_)
 generalize List.getD _ (way % 7).toNat PV.non=y
 change WS _ _ [.im ak (.tup (.str k::xs)),.im ae way,.im ae n,.im ae at_,.im ak y] _ _
 have hne:cut (PV.str k::xs) none (some at_)≠[]:=λz=>by
  have hl:=congrArg List.length z
  unfold cut at hl
  rw [List.length_take,List.length_drop,HT.rT,show at_=((at_.toNat:Nat):Int) by omega,HT.uJ,List.length_cons,List.length_nil] at hl
  omega
 have c1:=hc none (some at_)
 have c2:=hc (some (at_ + 1)) none
 refine ah (aT (eN (eN (gF (aa 0 rfl) dH (dF (aa 3 rfl))) (bD (ay (aa 4 rfl) aM) (by show 1<=sizeLine;decide)) hne (by rw [List.length_singleton];omega)) (gF (aa 0 rfl) (dF (cP (aa 3 rfl) ag)) dH) (by simp) (by rw [List.length_append,List.length_singleton];omega)) ?_)
 exact kz (by rw [List.length_append,List.length_singleton];omega)
end
end K1
namespace Fc
open PySem PySem.Spec L2
open PyProof.Rows hiding St
theorem kq {X:Cx}{Γ Γ1:Ga}{N:Ga->Prop}{T T0:RT}{S:cE}{x:Str}{k:Nat}{e:Expr}{es:List Expr}{p p2 pos:Pos}{ps:List Pk}(C:aU X.prog X.w X.K X.mg X.base x k (aZ S X.K))(hr:bg k X.A)(ha:HA X (e::es) Γ ps Γ1)(hS:S X.K ps T0)(h:N Γ1)
 (hg:Gl X x:=by rfl) (hdb:(x==("__debug__":Str))=false:=by decide) (he:starEach (e::es) X.env=(false,eval e X.env)::starEach es X.env:=by rfl) (hpl:(backTo p2 (starEach es X.env)).any (·.1)=false:=by rfl)
 (hsw:swapsWith (.Call (.Name x p) (e::es) [] p2) none pos.line X.env=pure false:=by rfl):W1 X (.Expr (.Call (.Name x p) (e::es) [] p2) pos) Γ N T:=λσ H0 R0 H R E D dn dr=>
 sS (fP aL hsw) (eT C hr ha hS E (λH1 R1 v H' R' E1 s1 xx t=>dn σ H' R' _ (E1.grow xx) (s1.trans xx.r) h) hg hdb he hpl)
end Fc
namespace K1
open PySem L2 Fc
open PySem.Spec hiding Row
open PyProof.Rows hiding St
theorem eA {n:Int}:∀{xs:List PV} {fm:List Str},xs.length=fm.length->(∀q∈xs.zip fm,fo q.1 q.2 n=true)->∃ns:List Int,xs=ns.map PV.int
 | [],_,_,_=>⟨[],rfl⟩
 | _::_,[],h,_=>by cases h
 | x::xs,f::fm,h,hq=>by
   obtain ⟨ns,e⟩:=eA (xs:=xs) (fm:=fm) (by simpa using h) λq m=>hq q (List.mem_cons_of_mem _ m)
   have h0:fo x f n=true:=hq (x,f) List.mem_cons_self
   obtain ⟨v,rfl⟩:∃v,x= .int v:=by cases x<;>first | exact ⟨_,rfl⟩ | exact absurd (show false=true from h0) (by decide)
   exact ⟨v::ns,by rw [e];rfl⟩
theorem yZ {x:Str}{y:List Str}:∀{D:List (Str×List Str)},dZ D x=some y->(x,y)∈D
 | (k,v)::r,h=>by
   rw [dZ] at h
   by_cases e:k=x
   ·rw [if_pos e] at h
    cases h
    subst e
    exact List.mem_cons_self
   ·rw [if_neg e] at h
    exact List.mem_cons_of_mem _ (yZ h)
theorem y9 {k:Str}{ns:List Int}{fm:List Str}(h:(k,fm)∈cw)(hl:ns.length=fm.length):∃l:Ln,l.k=k/\l.ns=ns/\l.eV=fm:=by
 unfold cw at h
 simp only [List.mem_cons,List.not_mem_nil,or_false,Prod.mk.injEq] at h
 rcases h with ⟨rfl,rfl⟩ | ⟨rfl,rfl⟩ | ⟨rfl,rfl⟩ | ⟨rfl,rfl⟩ | ⟨rfl,rfl⟩ | ⟨rfl,rfl⟩ | ⟨rfl,rfl⟩ | ⟨rfl,rfl⟩
 ·match ns,hl with | [a],_=>exact ⟨.row a,rfl,rfl,rfl⟩
 ·match ns,hl with | [a,b,c],_=>exact ⟨.ask a b c,rfl,rfl,rfl⟩
 ·match ns,hl with | [a],_=>exact ⟨.jump a,rfl,rfl,rfl⟩
 ·match ns,hl with | [a,b,c],_=>exact ⟨.call a b c,rfl,rfl,rfl⟩
 ·match ns,hl with | [],_=>exact ⟨.back,rfl,rfl,rfl⟩
 ·match ns,hl with | [a],_=>exact ⟨.count a,rfl,rfl,rfl⟩
 ·match ns,hl with | [a],_=>exact ⟨.add a,rfl,rfl,rfl⟩
 ·match ns,hl with | [a,b],_=>exact ⟨.tell a b,rfl,rfl,rfl⟩
theorem vM {x:PV}{n:Int}(h:bR x n=true):∃l:Ln,x=cZ l/\l.ok n:=by
 match x,h with
 | .tup (.str k::xs),h=>
   rw [fits_str] at h
   cases hk:dZ cw k with
   | none=>rw [hk] at h;cases h
   | some fm=>
     rw [hk] at h
     have h:(decide (xs.length=fm.length)&&((xs.zip fm).all λq=>fo q.1 q.2 n))=true:=h
     rw [Bool.and_eq_true] at h
     have hl:=of_decide_eq_true h.1
     have hq:=List.all_eq_true.mp h.2
     obtain ⟨ns,rfl⟩:=eA hl hq
     obtain ⟨l,rfl,rfl,rfl⟩:=y9 (yZ hk) (by rw [List.length_map] at hl;exact hl)
     refine ⟨l,rfl,λq hm=>?_⟩
     have h1:=(List.of_mem_zip hm).1
     obtain ⟨v,_,e⟩:=List.mem_map.mp h1
     have h2:=hq q hm
     rw [← e] at h2 ⊢
     exact h2
theorem kU {m:Int}:∀{xs:List PV},(∀x∈xs,bR x m=true)->∃code:List Ln,xs=aN code/\∀l∈code,l.ok m
 | [],_=>⟨[],rfl,λl h=>by cases h⟩
 | x::xs,h=>by
   obtain ⟨l,e,ok⟩:=vM (h x List.mem_cons_self)
   obtain ⟨code,e',ok'⟩:=kU (m:=m) λy hy=>h y (List.mem_cons_of_mem _ hy)
   refine ⟨l::code,by rw [e,e'];rfl,λl' hl=>?_⟩
   rcases List.mem_cons.mp hl with rfl | hl
   ·exact ok
   ·exact ok' l' hl
theorem vP {xs:List PV}(hne:xs≠[])(h:∀x∈xs,bR x xs.length=true):∃code:List Ln,xs=aN code/\fc code:=by
 obtain ⟨code,e,ok⟩:=kU h
 refine ⟨code,e,λz=>hne (by rw [e,z];rfl),?_⟩
 rw [e,List.length_map] at ok
 exact ok
section
variable {P:Program}{w:World}{K:PySem.W.Frag}{mg:Str->Option Value}{base:Heap}{f:Addr}{fd:FuncData}{C CE fI:Addr}
abbrev tZ:Stmt:=top kb
abbrev nCG:List Str:=["_law_way","_law_code","_law_caught_here","e"]
theorem xA:aR nCG ["_law_way","_law_code"] (aq tZ):=⟨rfl,rfl,rfl,by decide +kernel,rfl,by decide +kernel,by decide +kernel⟩
def SCG (C:Addr):cE:=λK ps T=>∃(way:Int) (xs:List PV),ps=[⟨ae,way⟩,⟨ai ak,xs⟩]/\(way=0∨way=1∨way=2)/\
 ((∃k:Nat,(∀x∈xs,dS x<=100)/\qQ xs k/\T=cB K (gM C "place") (· =(k:Int)))∨∃code,xs=aN code/\fc code/\code.length<=20/\T=cB K dm (· =()))
theorem z4 (ci:hZ K mg "NoCode" "place" C CE fI)(hCE:mg "CountError"=some (.ref CE))(hx:PySem.W.exmOne K (.ref C) (.ref CE)=some true)
 (DL:fq P w K mg base "look_code" 4 (gT (nZ C) K)) (DS':fq P w K mg base "step" 5 (gT (xN C) K)) (DR:fq P w K mg base "run_code" 5 (gT (yv C) K))
 (CL:aU P w K mg base "look_code" 4 (aZ tE K)) (CS:aU P w K mg base "step" 5 (aZ AG K)) (CR:aU P w K mg base "run_code" 5 (aZ AV K)) (CB:aU P w K mg base "begun" 1 (aZ yU K))
 (F:bL K "_law_caught" "_law_caught" tZ f fd) (hm:mg "_law_caught"=some (.ref f)) (hb:Binds K fd ["_law_way","_law_code"] []):aU P w K mg base "_law_caught" 6 (aZ (SCG C) K):=by
 have nd:=xA.nd
 refine cI F xA hm hb (λqs T ⟨_,_,e,_⟩=>by rw [e];rfl) (λcdv A outer s H E qs T hr hS=>?_)
 obtain ⟨way,xs,rfl,hw,hS⟩:=hS
 have ml:ML m0:=⟨by decide,by decide,by decide,by decide⟩
 change WS _ _ [.im ae way,.im (ai ak) xs,.no,.no] _ _
 refine ao (bQ 2 dN ?_)
 change WS _ _ [.im ae way,.im (ai ak) xs,.im dm (),.no] _ _
 rcases hS with ⟨k,hlen,hbad,rfl⟩ | ⟨code,rfl,ck,hc,rfl⟩
 ·refine uz 3 2 (D:=C) (CE:=CE) (nm:="place") (m:=(k:Int)) ?_ rfl hCE hx (by decide)
  rcases hw with rfl | rfl | rfl
  ·exact j5 DL (hr.mono (by decide)) (av cu (aa 0 rfl) ag) (au (aa 1 rfl) aG) ⟨xs,k,rfl,hlen,hbad,rfl⟩
  ·refine kr (av cu (aa 0 rfl) ag) ?_
   exact j5 DS' hr (av cu (aa 0 rfl) ag) (au (aa 1 rfl) (au (nV (CB.mono (by decide)) hr ⟨rfl,rfl⟩ ml) (au (bW.im (r:=ae) (ys:=[]) (bC aM (Nat.zero_le _))) (au ag aG)))) ⟨xs,_,[],0,k,rfl,hlen,hbad,rfl⟩
  ·refine kr (av cu (aa 0 rfl) ag) (kr (av cu (aa 0 rfl) ag) ?_)
   exact j5 DR hr (av cu (aa 0 rfl) ag) (au (aa 1 rfl) (au (bW.im (r:=ae) (ys:=[]) (bC aM (Nat.zero_le _))) (au ag aG))) ⟨xs,[],0,k,rfl,hlen,hbad,rfl⟩
 ·refine rY (N1:=λΓ=>Γ=[.im ae way,.im (ai ak) (aN code),.im dm (),.no]) ?_ ?_
  ·have g0:Good code m0:=xq.good (by decide) hc
   have h64:bj code [] 0 m0=none->(nextM code [] m0).boxes.length < 64:=λh=>Nat.lt_of_lt_of_le ((xq.next ck h).good (by decide) hc).b (by decide)
   obtain ⟨n,x,r1,r2,r3⟩:=By ck hc
   rcases hw with rfl | rfl | rfl
   ·refine ao (aD (av cu (aa 0 rfl) ag) (λ_=>ah (kq (CL.mono (by decide)) hr (au (aa 1 rfl) aG) ⟨code,rfl,ck.ne,ck.ok,rfl⟩ ?_)) (λh=>absurd h (by decide)))
    refine ao (aD (av cu (aa 0 rfl) ag) (λh=>absurd h (by decide)) (λ_=>aJ ?_))
    exact ah (aD (av cu (aa 0 rfl) ag) (λh=>absurd h (by decide)) (λ_=>aJ rfl))
   ·refine ao (aD (av cu (aa 0 rfl) ag) (λh=>absurd h (by decide)) (λ_=>aJ ?_))
    refine ao (aD (av cu (aa 0 rfl) ag) (λ_=>ah (kq CS hr (au (aa 1 rfl) (au (nV (CB.mono (by decide)) hr ⟨rfl,rfl⟩ ml) (au (bW.im (r:=ae) (ys:=[]) (bC aM (Nat.zero_le _))) (au ag aG)))) ⟨code,m0,[],0,rfl,ck,rfl,Int.le_refl _,g0,h64,rfl⟩ ?_)) (λh=>absurd h (by decide)))
    exact ah (aD (av cu (aa 0 rfl) ag) (λh=>absurd h (by decide)) (λ_=>aJ rfl))
   ·refine ao (aD (av cu (aa 0 rfl) ag) (λh=>absurd h (by decide)) (λ_=>aJ ?_))
    refine ao (aD (av cu (aa 0 rfl) ag) (λh=>absurd h (by decide)) (λ_=>aJ ?_))
    exact ah (aD (av cu (aa 0 rfl) ag) (λ_=>ah (kq CR hr (au (aa 1 rfl) (au (bW.im (r:=ae) (ys:=[]) (bC aM (Nat.zero_le _))) (au ag aG))) ⟨code,[],0,n,x,rfl,ck,rfl,Int.le_refl _,r1,r2,r3,rfl⟩ rfl)) (λh=>absurd h (by decide)))
  ·rintro _ rfl
   exact ah (aT (aa 2 rfl) rfl)
end
structure yi (K:PySem.W.Frag) (mg:Str->Option Value) (C:Addr):Prop where
 a:∃c1 c2 c3 c4 c5 c6 c7 c8 c9:Addr,mg "NoAnswer"=some (.ref c1)/\mg "NoChain"=some (.ref c2)/\mg "NoChoice"=some (.ref c3)/\mg "NoCounts"=some (.ref c4)/\mg "NoGuess"=some (.ref c5)/\mg "NoLog"=some (.ref c6)/\mg "NoLoose"=some (.ref c7)/\mg "NoMarks"=some (.ref c8)/\mg "NoName"=some (.ref c9)/\PySem.W.kitAny K (.ref C) ([c1,c2,c3,c4,c5,c6,c7,c8,c9].map Value.ref)=some false
 b:∃d1 d2 d3 d4 d5 d6 d7:Addr,mg "NoPlan"=some (.ref d1)/\mg "NoProgram"=some (.ref d2)/\mg "NoRow"=some (.ref d3)/\mg "NoRun"=some (.ref d4)/\mg "NoText"=some (.ref d5)/\mg "NoWay"=some (.ref d6)/\mg "NoWeb"=some (.ref d7)/\PySem.W.kitAny K (.ref C) ([d1,d2,d3,d4,d5,d6,d7].map Value.ref)=some false
 s:PySem.W.kitOne K (.ref C) (.ref C)=some true
 v:PySem.W.kitOne K (.ref C) (.type "ValueError")=some true
 m:mg "ValueError"=none
section
variable {P:Program}{w:World}{K:PySem.W.Frag}{mg:Str->Option Value}{base:Heap}{f:Addr}{fd:FuncData}{C CE fI:Addr}
abbrev tX:Stmt:=top jA
abbrev yu:List Str:=["_law_caught_here","_law_place"]
theorem wo:aR yu yu (aq tX):=⟨rfl,rfl,rfl,by decide +kernel,rfl,by decide +kernel,by decide +kernel⟩
def Av (C:Addr):cE:=λK ps T=>∃k:Int,ps=[⟨gM C "place",k⟩,⟨ae,k⟩]/\T=cB K bq (· =true)
theorem zF (M:bU K mg)(ci:hZ K mg "NoCode" "place" C CE fI)(RI:yi K mg C)(hVE:bootBuiltins "ValueError"=some (.type "ValueError"))(CW:aU P w K mg base "_law_whole" 1 (aZ Au K))(F:bL K "_law_refused" "_law_refused" tX f fd)(hm:mg "_law_refused"=some (.ref f))(hb:Binds K fd yu []):aU P w K mg base "_law_refused" 2 (aZ (Av C) K):=by
 have nd:=wo.nd
 refine cI F wo hm hb (λqs T ⟨_,e,_⟩=>by rw [e];rfl) (λcdv A outer s H E qs T hr hS=>?_)
 obtain ⟨k,rfl,rfl⟩:=hS
 obtain ⟨c1,c2,c3,c4,c5,c6,c7,c8,c9,a1,a2,a3,a4,a5,a6,a7,a8,a9,ha⟩:=RI.a
 obtain ⟨d1,d2,d3,d4,d5,d6,d7,b1,b2,b3,b4,b5,b6,b7,hb'⟩:=RI.b
 obtain ⟨cd,hcd,_,hdict⟩:=ci.cls
 change WS _ _ [.im (gM C "place") k,.im ae k] _ _
 refine ao (aD (aV (rh ci.look M.isinstance (aa 0 rfl) (ay (cG a1) (ay (cG a2) (ay (cG a3) (ay (cG a4) (ay (cG a5) (ay (cG a6) (ay (cG a7) (ay (cG a8) (ay (cG a9) aM))))))))) (by show 9<=sizeLine;decide) ha)) (λh=>absurd h (by decide)) (λ_=>aJ ?_))
 refine ao (aD (aV (rh ci.look M.isinstance (aa 0 rfl) (ay (cG b1) (ay (cG b2) (ay (cG b3) (ay (cG b4) (ay (cG b5) (ay (cG b6) (ay (cG b7) aM))))))) (by show 7<=sizeLine;decide) hb')) (λh=>absurd h (by decide)) (λ_=>aJ ?_))
 refine ao (aD (TW.tv (bG (aX (aV (xt ci.look M.isinstance (aa 0 rfl) ci.bound RI.s))) (λ_=>cc (aX (aV (wY ci.look M.isinstance (aa 0 rfl) RI.m hVE RI.v)))))) (λh=>absurd h (by decide)) (λ_=>aJ ?_))
 refine ah (aT (cC (bK CW hr (au (pW ci.look hcd hdict ci.no (aa 0 rfl)) aG) ⟨_,rfl,rfl⟩) (λ_=>dD (f9 cu (pW ci.look hcd hdict ci.no (aa 0 rfl)) (aa 1 rfl)))) ?_)
 show (true&&decide (k=k))=true
 rw [decide_eq_true rfl];rfl
end
end K1
namespace Fc
open PySem PySem.Spec L2
open PyProof.Rows hiding St
section
variable {X:Cx}{Γ Γ1 Γ2:Ga}{α:Type}{N:Ga->Prop}{T:RT}
theorem sj (i:Nat){S:cE}{x y:Str}{k:Nat}{e:Expr}{es:List Expr}{p p1 p2 pos:Pos}{ps:List Pk}{r:Rep α}{Pd:List α->Prop}(C:aU X.prog X.w X.K X.mg X.base x k (aZ S X.K))(hr:bg k X.A)(ha:HA X (e::es) Γ ps Γ1)(hS:S X.K ps (wc X.K r Pd))(h:∀ys,Pd ys->N (Γ1.set i (.mu r ys)))
 (hg:Gl X x:=by rfl) (hdb:(x==("__debug__":Str))=false:=by decide) (he:starEach (e::es) X.env=(false,eval e X.env)::starEach es X.env:=by rfl) (hpl:(backTo p2 (starEach es X.env)).any (·.1)=false:=by rfl)
 (hN:X.N.Nodup:=by first | assumption | decide) (hi:X.N[i]?=some y:=by rfl) (hx:Loc X.env.scope y:=by first | exact Or.inl rfl | exact Or.inr rfl)
 (hs:swapsWith (.Call (.Name x p) (e::es) [] p2) (some (.Name y p1)) pos.line X.env=pure false:=by rfl) (hf:X.fn y=true∨X.env.scope.names.lookup y=some .local:=by first | exact .inl rfl | exact .inr rfl):
 W1 X (.Assign [.Name y p1] (.Call (.Name x p) (e::es) [] p2) pos) Γ N T:=λσ H0 R0 H R E D dn dr=>
 sS (iy hN hi hx aL hs hf) (eT C hr ha hS E (λH1 R1 v H' R' E1 s1 xx t=>by
  obtain ⟨a,vs,zs,rfl,h0,h1,h2,p,z,hp⟩:=t
  exact dn _ H' R' _ ((E1.grow xx).si (u:=.lst vs) (en:=.mu r zs) i ⟨a,vs,rfl,h1,h2,p⟩ (E1.ext.h.free h0) λj e _ q w=>E1.off h0 j e q w) (s1.trans xx.r) (h zs hp)) hg hdb he hpl)
theorem sT (i:Nat){S:cE}{x f:Str}{b e:Expr}{es:List Expr}{p p1 p2 p3 pos:Pos}{ps:List Pk}{n:Nat}{Pd:α->Prop}{r:Rep α}{xs:List α}{k:Int}{j:Nat}(C:aU X.prog X.w X.K X.mg X.base f n (aZ S X.K))(hr:bg n X.A)(hargs:HA X (e::es) Γ ps Γ1)(hS:S X.K ps (cB X.K r Pd))(hb:EV X b Γ1 ae k Γ2)(hΓ1:Γ1[i]?=some (.mu r xs))(hΓ2:Γ2[i]?=some (.mu r xs))(hj:gb xs.length k=some j)(h:∀y,Pd y->N (Γ2.set i (.mu r (xs.set j y))))
 (hg:Gl X f:=by rfl) (hdb:(f==("__debug__":Str))=false:=by decide) (he:starEach (e::es) X.env=(false,eval e X.env)::starEach es X.env:=by rfl) (hpl:(backTo p3 (starEach es X.env)).any (·.1)=false:=by rfl)
 (hN:X.N[i]?=some x:=by rfl) (hv:cT X.env.scope x:=by first | exact Or.inl rfl | exact Or.inr (Or.inl rfl) | exact Or.inr (Or.inr rfl))
 (hd:(x==("__debug__":Str))=false:=by decide) (hcd:(x==("__classdict__":Str))=false:=by decide)
 (ha:∀v,assign (.Subscript (.Name x p1) b p2) X.env v=(do
  let ov ← holding [v] (eval (.Name x p1) X.env)
  let iv ← holding [v,ov] (eval b X.env)
  standAt p2
  holding [v,ov,iv] (setItem ov iv v)
  release [v,ov,iv] []):=by intro _;rfl)
 (hs:swapsWithSole [.Subscript (.Name x p1) b p2] (.Call (.Name f p) (e::es) [] p3) pos.line X.env=pure false:=by rfl) (hw:swappedStores [.Subscript (.Name x p1) b p2] (.Call (.Name f p) (e::es) [] p3) X.env=pure none:=by rfl) (h1:(assignEach [.Subscript (.Name x p1) b p2] X.env).map (·.2)=[assign (.Subscript (.Name x p1) b p2) X.env]:=by rfl):
 W1 X (.Assign [.Subscript (.Name x p1) b p2] (.Call (.Name f p) (e::es) [] p3) pos) Γ N T:=λσ H0 R0 H R E D dn dr=>by
 refine sS (pK aL (qI (bB hN hv hd hcd) aL set_list ha) hs hw h1) (eT C hr hargs hS E (λH1 R1 v H' R' E0 s0 xx t=>?_) hg hdb he hpl)
 obtain ⟨y,e1,hp1⟩:=t
 have E1:=E0.grow xx
 have s1:=s0.trans xx.r
 obtain ⟨a,vs,ea,hp,hR,pp⟩:=E1.ent i _ hΓ1
 refine ⟨.ref a,at_of ea,hb σ H0 R0 H' R' E1 _ λu H2 R2 E2 s2 e2=>?_⟩
 obtain ⟨a',vs',ea',ha',hR',pp'⟩:=E2.ent i _ hΓ2
 rw [ea] at ea';cases ea'
 refine ⟨a,vs',k,j,rfl,e2,ha',by rw [pp'.length];exact hj,?_⟩
 exact dn σ _ R2 _ (E2.upd (en:=.mu r (xs.set j y)) hΓ2 rfl ea hR' ⟨a,_,rfl,aA,hR',hV (r.mono s2 e1) j pp'⟩) (s1.trans s2) (h y hp1)
theorem lR:eB X .IsNot dm dm () () false:=⟨_,nk,λR H v u Q _ e1 e2 q=>by
 cases e1
 cases e2
 exact ⟨rfl,q⟩⟩
end
end Fc
namespace K1
open PySem L2 Fc
open PySem.Spec hiding Row
open PyProof.Rows hiding St
open PySem.Builtin.Int (intBits)
section
variable {d:List Int}
abbrev yz (d:List Int)(many k:Int):Ln:=d9 (d.getD (2 + k).toNat 0 + 5040 * d.getD (22 + k).toNat 0) many
def codeL (d:List Int)(many:Int):List Ln:=((ups 0 many.toNat).filter λ_=>true).map (yz d many)
theorem fZ.at (h:fZ 60 d)(i:Int)(h0:0<=i)(h1:i < 60):da d i=some (d.getD i.toNat 0):=dg 0 h0 (by rw [h.l];exact h1)
theorem fZ.nn (h:fZ 60 d)(i:Nat):0<=d.getD i 0:=by
 rw [List.getD_eq_getElem?_getD]
 by_cases q:i < d.length
 ·rw [List.getElem?_eq_getElem q];exact (h.b _ (List.getElem_mem q)).1
 ·rw [List.getElem?_eq_none (by omega)];exact Int.le_refl _
theorem iD (d:List Int)(many:Int):(codeL d many).length=many.toNat:=by unfold codeL;rw [List.length_map,List.filter_eq_self.mpr (λ_ _=>rfl),dq]
theorem sO {many:Int}(h:fZ 60 d)(h1:0 < many):fc (codeL d many):=by
 refine ⟨λe=>?_,λl hl=>?_⟩
 ·have:=congrArg List.length e
  rw [iD] at this
  simp at this;omega
 ·obtain ⟨k,_,rfl⟩:=List.mem_map.mp hl
  rw [iD,show ((many.toNat:Nat):Int)=many by omega]
  refine vT ?_ h1
  have a1:=h.nn (2 + k).toNat
  have a2:=h.nn (22 + k).toNat
  omega
theorem jr {n:Nat}:∀{xs:List PV},(∀x∈xs,x.deep<=n)->PV.fH xs<=n
 | [],_=>Nat.zero_le _
 | x::xs,h=>by
   rw [PV.fH]
   have h1:=h x List.mem_cons_self
   have h2:=jr (n:=n) λy hy=>h y (List.mem_cons_of_mem _ hy)
   omega
theorem pP (code:List Ln):(PV.lst (aN code)).deep<=2:=by
 rw [PV.deep]
 have:=jr (n:=1) (xs:=aN code) λx hx=>by
  obtain ⟨l,_,rfl⟩:=List.mem_map.mp hx
  show (PV.tup _).deep<=1
  rw [PV.deep]
  have:=jr (n:=0) (xs:=PV.str l.k::l.ns.map PV.int) λy hy=>by
   rcases List.mem_cons.mp hy with rfl | hy
   ·exact Nat.le_refl _
   ·obtain ⟨v,_,rfl⟩:=List.mem_map.mp hy
    exact Nat.le_refl _
  omega
 omega
theorem xw (l:Ln):dS (cZ l)<=100:=by cases l<;>simp [dS,Ln.ns]
abbrev gw (xs:List PV)(k:Int):Bool:= !bR (xs.getD k.toNat .non) xs.length
def dueL (xs:List PV):List Int:=((ups 0 xs.length).filter (gw xs)).map λk=>k
theorem sq (xs:List PV):(dueL xs).length<=xs.length:=by
 unfold dueL
 rw [List.length_map]
 exact Nat.le_trans (List.length_filter_le _ _) (by rw [dq];exact Nat.le_refl _)
theorem xV (xs:List PV):(dueL xs=[]/\∀x∈xs,bR x xs.length=true)∨∃(k:Nat) (r:List Int),dueL xs=(k:Int)::r/\xs≠[]/\qQ xs k:=by
 have hid:dueL xs=(ups 0 xs.length).filter (gw xs):=by unfold dueL;exact List.map_id' _
 rw [hid]
 cases h:(ups 0 xs.length).filter (gw xs) with
 | nil=>
   refine .inl ⟨rfl,λx hx=>?_⟩
   obtain ⟨i,hi,rfl⟩:=List.mem_iff_getElem.mp hx
   have:=List.filter_eq_nil_iff.mp h (i:Int) (gO.mpr ⟨by omega,by omega⟩)
   unfold gw at this
   rw [Int.toNat_natCast,List.getD_eq_getElem?_getD,List.getElem?_eq_getElem hi] at this
   simpa using this
 | cons a r=>
   obtain ⟨l1,l2,e,h1,h2,_⟩:=List.filter_eq_cons_iff.mp h
   have hat:(ups 0 xs.length)[l1.length]?=some a:=by rw [e];simp
   obtain ⟨hlt,ha⟩:=mh hat
   have ha:a=(l1.length:Int):=by omega
   subst ha
   refine .inr ⟨l1.length,r,rfl,λz=>by rw [z] at hlt;exact absurd hlt (Nat.not_lt_zero _),.inr ⟨xs[l1.length],List.getElem?_eq_getElem hlt,?_,λi y hi hy=>?_⟩⟩
   ·unfold gw at h2
    rw [Int.toNat_natCast,List.getD_eq_getElem?_getD,List.getElem?_eq_getElem hlt] at h2
    simpa using h2
   ·have hi2:(ups 0 xs.length)[i]?=some l1[i]:=by rw [e,List.getElem?_append_left hi,List.getElem?_eq_getElem hi]
    obtain ⟨_,hv⟩:=mh hi2
    have:=h1 l1[i] (List.getElem_mem hi)
    unfold gw at this
    rw [hv,show (0 + (i:Int)).toNat=i by omega,List.getD_eq_getElem?_getD,hy] at this
    simpa using this
end
section
variable {P:Program}{w:World}{K:PySem.W.Frag}{mg:Str->Option Value}{base:Heap}{f:Addr}{fd:FuncData}{C:Addr}
abbrev gA:Stmt:=top wz
abbrev xM:List Str:=["_law_script","_law_draws_here","_law_many","_law_code","_law_bent_here","_law_at","_law_due","_law_way","_law_handed","_law_caught_here"]
theorem wu:aR xM ["_law_script"] (aq gA):=⟨rfl,rfl,rfl,by decide +kernel,rfl,by decide +kernel,by decide +kernel⟩
def mF:cE:=λK ps T=>∃ns:List Int,ps=[⟨bV,ns⟩]/\ns.length<=63/\(∀n∈ns,intBits n<=2 ^ 20)/\T=cB K bq (· =true)
end
section
variable {P:Program}{w:World}{K:PySem.W.Frag}{mg:Str->Option Value}{base:Heap}{f:Addr}{fd:FuncData}{C:Addr}
theorem zc (M:bU K mg)(CD:aU P w K mg base "_law_draws" 1 (aZ AX K))(CN:aU P w K mg base "_law_line" 1 (aZ Ay K))(CB:aU P w K mg base "_law_bent" 1 (aZ AF K))(CF:aU P w K mg base "_law_fits" 2 (aZ A1 K))(CC:aU P w K mg base "_law_caught" 6 (aZ (SCG C) K))(CR:aU P w K mg base "_law_refused" 2 (aZ (Av C) K))(F:bL K "law" "law" gA f fd):cq P w K mg base cL 7 f fd ["_law_script"] (aZ mF K):=by
 have nd:=wu.nd
 have nd1:List.Nodup [("_law_k":Str),"_law_draws_here","_law_many"]:=by decide
 have nd2:List.Nodup [("_law_k":Str),"_law_bent_here"]:=by decide
 have CD:=CD.mono (show 1<=6 by decide)
 have CN:=CN.mono (show 1<=6 by decide)
 have CB:=CB.mono (show 1<=6 by decide)
 have CF:=CF.mono (show 2<=6 by decide)
 have CR:=CR.mono (show 2<=6 by decide)
 refine wV F wu (λqs T ⟨_,e,_⟩=>by rw [e];rfl) (λcdv A outer s H E qs T hr hS=>?_)
 obtain ⟨ns,rfl,hnl,hbits,rfl⟩:=hS
 have hu:∀n,n<=8->(A.deeper (envOfC "law" (aq gA) s.heap.objs.size f cdv)).units + n < cLine:=λn hn=>Nat.lt_of_le_of_lt (Nat.add_le_add_left (by omega:n<=64) _) hr.units
 have hu0:(A.deeper (envOfC "law" (aq gA) s.heap.objs.size f cdv)).units < cLine:=hu 0 (by decide)
 have big:(100000:Nat)<=sizeLine:=by decide
 change WS _ _ [.im bV ns,.no,.no,.no,.no,.no,.no,.no,.no,.no] _ _
 refine ao (sj 1 (Pd:=fZ 60) CD hr (au (aa 0 rfl) (au ag aG)) ⟨ns,60,rfl,hnl,hbits,by decide,by decide,rfl⟩ (λd hd=>?_))
 change WS _ _ [.im bV ns,.mu ae d,.no,.no,.no,.no,.no,.no,.no,.no] _ _
 refine WS.freeze 1 rfl (by rw [hd.l];omega) ?_
 refine ao (bQ 2 (cP ag (bJ (cF (aa 1 rfl) ag (hd.at 0 (by decide) (by decide))) ag (by decide))) ?_)
 obtain ⟨many,hmany,m1,m2⟩:∃many:Int,(1:Int) + d.getD (0:Int).toNat 0 % 20=many/\1<=many/\many<=20:=⟨_,rfl,by omega,by omega⟩
 rw [hmany]
 change WS _ _ [.im bV ns,.im (ai ae) d,.im ae many,.no,.no,.no,.no,.no,.no,.no] _ _
 have hin:∀k,k∈ups 0 many.toNat->0<=k/\k < 20:=λk hk=>by have:=gO.mp hk;omega
 refine ao (rB 3 (own:=["_law_k"]) (fr:=["_law_draws_here","_law_many"]) (ix:=[1,2]) (ra:=ae) (rb:=ak) (xs:=ups 0 many.toNat) (p:=λ_=>true) (f:=λk=>cZ (yz d many k)) (eD (so:=aq gA) (N0:=xM) rfl rfl (λx h=>cW h) (by decide +kernel)) (eZ M.range (aa 2 rfl) ⟨by omega,by omega⟩)
  (λC s H ex=>dJ 0) (λx=>⟨.inr rfl,.inl rfl,.inl rfl,trivial⟩) (λC s H ex x hx=>gc) (λC s H ex k hx hf=>bK CN hr (au (cP (cF (aa 1 rfl) (cP ag (aa 0 rfl)) (hd.at (2 + k) (by have:=hin k hx;omega) (by have:=hin k hx;omega))) (yP ag (cF (aa 1 rfl) (cP ag (aa 0 rfl)) (hd.at (22 + k) (by have:=hin k hx;omega) (by have:=hin k hx;omega))) (.inl ⟨by decide,by decide⟩))) (au (aa 2 rfl) aG)) ⟨_,_,rfl,by omega,rfl⟩) ?_)
 have hcode:(((ups 0 many.toNat).filter λ_=>true).map λk=>cZ (yz d many k))=aN (codeL d many):=by
  unfold aN codeL
  rw [List.map_map];rfl
 rw [hcode]
 have ck:=sO hd (show 0 < many by omega)
 have hcn:((codeL d many).length:Int)=many:=by rw [iD];omega
 generalize codeL d many=code at ck hcn
 have hcl:code.length<=20:=by omega
 change WS _ _ [.im bV ns,.im (ai ae) d,.im ae many,.mu ak (aN code),.no,.no,.no,.no,.no,.no] _ _
 refine WS.freeze 3 rfl (by rw [List.length_map];omega) ?_
 refine ao (lJ 4 (eL M.list (aa 3 rfl)) ?_)
 refine ao (bQ 5 (bJ (cF (aa 1 rfl) ag (hd.at 45 (by decide) (by decide))) (aa 2 rfl) (by omega)) ?_)
 have a0:=Int.emod_nonneg (d.getD (45:Int).toNat 0) (show many≠0 by omega)
 have a1:=Int.emod_lt_of_pos (d.getD (45:Int).toNat 0) (show 0 < many by omega)
 generalize d.getD (45:Int).toNat 0 % many=at_ at a0 a1
 change WS _ _ [.im bV ns,.im (ai ae) d,.im ae many,.im (ai ak) (aN code),.mu ak (aN code),.im ae at_,.no,.no,.no,.no] _ _
 obtain ⟨l,hl⟩:∃l,code[at_.toNat]?=some l:=⟨_,List.getElem?_eq_getElem (by omega)⟩
 have hat:da (aN code) at_=some (cZ l):=by
  rw [jF a0 (by rw [List.length_map];omega),List.getElem?_map,hl];rfl
 refine ao (sT 4 (j:=at_.toNat) CB hr (au (cF (aa 3 rfl) (aa 5 rfl) hat) (au (bJ (cF (aa 1 rfl) ag (hd.at 46 (by decide) (by decide))) ag (by decide)) (au (aa 2 rfl) aG))) ⟨l,_,many,rfl,by omega,by omega,rfl⟩ (aa 5 rfl) rfl rfl (xS a0 (by rw [List.length_map];omega)) (λy hy=>?_))
 change WS _ _ [.im bV ns,.im (ai ae) d,.im ae many,.im (ai ak) (aN code),.mu ak ((aN code).set at_.toNat y),.im ae at_,.no,.no,.no,.no] _ _
 have hset:(∀x∈(aN code).set at_.toNat y,dS x<=100)/\((aN code).set at_.toNat y).length<=20:=by
  refine ⟨λx hx=>?_,by rw [List.length_set,List.length_map];exact hcl⟩
  rcases List.mem_or_eq_of_mem_set hx with h | rfl
  ·obtain ⟨l',_,rfl⟩:=List.mem_map.mp h
   exact xw l'
  ·exact hy
 refine lu (N1:=λΓ=>∃xs:List PV,(∀x∈xs,dS x<=100)/\xs.length<=20/\Γ=[.im bV ns,.im (ai ae) d,.im ae many,.im (ai ak) (aN code),.mu ak xs,.im ae at_,.no,.no,.no,.no]) (aD (av cu (bJ (cF (aa 1 rfl) ag (hd.at 47 (by decide) (by decide))) ag (by decide)) ag) (λh=>ah (lJ 4 (r:=ak) (ys:=[]) (bC aM (Nat.zero_le _)) ⟨[],(λx hx=>(List.not_mem_nil hx).elim),Nat.zero_le _,rfl⟩)) (λh=>aJ ⟨_,hset.1,hset.2,rfl⟩)) ?_
 rintro _ ⟨xs,hlen,hxl,rfl⟩
 refine WS.freeze 4 rfl (by omega) ?_
 change WS _ _ [.im bV ns,.im (ai ae) d,.im ae many,.im (ai ak) (aN code),.im (ai ak) xs,.im ae at_,.no,.no,.no,.no] _ _
 have hin2:∀k,k∈ups 0 ((xs.length:Int)).toNat->0<=k/\k < xs.length:=λk hk=>by have:=gO.mp hk;omega
 refine ao (rB 6 (own:=["_law_k"]) (fr:=["_law_bent_here"]) (ix:=[4]) (ra:=ae) (rb:=ae) (xs:=ups 0 ((xs.length:Int)).toNat) (p:=gw xs) (f:=λk=>k) (eD (so:=aq gA) (N0:=xM) rfl rfl (λx h=>cW h) (by decide +kernel)) (eZ M.range (gi M.len (aa 4 rfl)) ⟨by omega,by omega⟩)
  (λC s H ex=>dJ 0) (λx=>⟨.inr rfl,.inl rfl,trivial⟩) (λC s H ex k hx=>w8 (aX (aV (bK CF hr (au (cF (aa 1 rfl) (aa 0 rfl) (dg .non (hin2 k hx).1 (hin2 k hx).2)) (au (gi M.len (aa 1 rfl)) aG)) ⟨_,_,rfl,hW (P:=λx=>dS x<=100) .non hlen (by have:=hin2 k hx;omega),rfl⟩)))) (λC s H ex k hx hf=>aa 0 rfl) ?_)
 have hdue:((ups 0 ((xs.length:Int)).toNat).filter (gw xs)).map (λk=>k)=dueL xs:=by rw [Int.toNat_natCast];rfl
 rw [hdue]
 have hdl:=sq xs
 have hcase:=xV xs
 generalize dueL xs=due at hdl hcase
 change WS _ _ [.im bV ns,.im (ai ae) d,.im ae many,.im (ai ak) (aN code),.im (ai ak) xs,.im ae at_,.mu ae due,.no,.no,.no] _ _
 refine WS.freeze 6 rfl (by omega) ?_
 change WS _ _ [.im bV ns,.im (ai ae) d,.im ae many,.im (ai ak) (aN code),.im (ai ak) xs,.im ae at_,.im (ai ae) due,.no,.no,.no] _ _
 refine ao (il (λ_ Γ=>∃e7 e8 e9,Γ=[.im bV ns,.im (ai ae) d,.im ae many,.im (ai ak) (aN code),.im (ai ak) xs,.im ae at_,.im (ai ae) due,e7,e8,e9]) (eZ M.range ag ⟨by decide,by decide⟩) (dJ 7) ⟨_,_,_,rfl⟩ (λi way Γ hk hΓ=>?_) (λΓ hΓ=>?_))
 ·obtain ⟨e7,e8,e9,rfl⟩:=hΓ
  have hway:way=0∨way=1∨way=2:=by
   have:=gO.mp (List.mem_of_getElem? hk)
   have h3:((3:Int).toNat:Int)=3:=rfl
   omega
  change WS _ _ [.im bV ns,.im (ai ae) d,.im ae many,.im (ai ak) (aN code),.im (ai ak) xs,.im ae at_,.im (ai ae) due,.im ae way,e8,e9] _ _
  refine ao (bQ 8 (bW.im (eL M.list (aa 3 rfl))) ?_)
  change WS _ _ [.im bV ns,.im (ai ae) d,.im ae many,.im (ai ak) (aN code),.im (ai ak) xs,.im ae at_,.im (ai ae) due,.im ae way,.im (ai ak) (aN code),e9] _ _
  have huC:(A.deeper (envOfC "law" (aq gA) s.heap.objs.size f cdv)).units + (PV.lst (aN code)).deep < cLine:=Nat.lt_of_le_of_lt (Nat.add_le_add_left (pP code) _) (hu 2 (by decide))
  refine ao (aD (TW.tv (bG (av lR (bK CC hr (au (aa 7 rfl) (au (aa 8 rfl) aG)) ⟨way,_,rfl,hway,.inr ⟨code,rfl,ck,hcl,rfl⟩⟩) dN) (λ_=>cc (av (yX (x:=.lst (aN code)) (.inr ⟨_,rfl⟩) huC) (EV.pL (aa 8 rfl)) (EV.pL (aa 3 rfl)))))) (λh=>absurd h (by decide)) (λ_=>aJ ?_))
  by_cases hx0:xs=[]
  ·subst hx0
   have hd0:due=[]:=List.length_eq_zero_iff.mp (Nat.le_zero.mp hdl)
   subst hd0
   refine ao (bQ 9 (bK (r:=gM C "place") (y:=((0:Nat):Int)) CC hr (au (aa 7 rfl) (au (bW.im (eL M.list (aa 4 rfl))) aG)) ⟨way,_,rfl,hway,.inl ⟨0,hlen,.inl ⟨rfl,rfl⟩,rfl⟩⟩) ?_)
   change WS _ _ [.im bV ns,.im (ai ae) d,.im ae many,.im (ai ak) (aN code),.im (ai ak) [],.im ae at_,.im (ai ae) [],.im ae way,.im (ai ak) (aN code),.im (gM C "place") 0] _ _
   refine ao (aD (TW.tv (cH (av (iJ hu0) (aa 4 rfl) (bW.im (r:=ak) (ys:=[]) (bC aM (Nat.zero_le _)))) (λ_=>ez (aX (aV (bK CR hr (au (aa 9 rfl) (au ag aG)) ⟨0,rfl,rfl⟩)))))) (λh=>absurd (show (true&& !true)=true from h) (by decide)) (λ_=>aJ ?_))
   exact ah (aD (TW.tv (bG (TW.tv (cH (y:=false) (av (gY hu0) (aa 4 rfl) (bW.im (r:=ak) (ys:=[]) (bC aM (Nat.zero_le _)))) (λh=>absurd h (by decide)))) (λ_=>cc (TW.tv (cH (y:=false) (av (gY hu0) (aa 6 rfl) (bW.im (r:=ae) (ys:=[]) (bC aM (Nat.zero_le _)))) (λh=>absurd h (by decide))))))) (λh=>absurd h (by decide)) (λ_=>aJ ⟨_,_,_,rfl⟩))
  ·have hxe:xs.isEmpty=false:=by cases xs with | nil=>exact absurd rfl hx0 | cons a b=>rfl
   rcases hcase with ⟨rfl,hall⟩ | ⟨k,r,rfl,_,hbad⟩
   ·obtain ⟨code',hcode',ck'⟩:=vP hx0 hall
    have hcl':code'.length<=20:=by rw [hcode',List.length_map] at hxl;exact hxl
    refine ao (bQ 9 (bK (r:=dm) (y:=()) CC hr (au (aa 7 rfl) (au (bW.im (eL M.list (aa 4 rfl))) aG)) ⟨way,_,rfl,hway,.inr ⟨code',hcode',ck',hcl',rfl⟩⟩) ?_)
    change WS _ _ [.im bV ns,.im (ai ae) d,.im ae many,.im (ai ak) (aN code),.im (ai ak) xs,.im ae at_,.im (ai ae) [],.im ae way,.im (ai ak) (aN code),.im dm ()] _ _
    refine ao (aD (TW.tv (cH (y:=false) (TV.cast (av (iJ hu0) (aa 4 rfl) (bW.im (r:=ak) (ys:=[]) (bC aM (Nat.zero_le _)))) hxe) (λh=>absurd h (by decide)))) (λh=>absurd h (by decide)) (λ_=>aJ ?_))
    exact ah (aD (TW.tv (bG (TW.tv (cH (TV.cast (b':=true) (av (gY hu0) (aa 4 rfl) (bW.im (r:=ak) (ys:=[]) (bC aM (Nat.zero_le _)))) (by rw [hxe];rfl)) (λ_=>cH (av (iJ hu0) (aa 6 rfl) (bW.im (r:=ae) (ys:=[]) (bC aM (Nat.zero_le _)))) (λ_=>ez (av lR (aa 9 rfl) dN))))) (λ_=>cc (TW.tv (cH (y:=false) (av (gY hu0) (aa 6 rfl) (bW.im (r:=ae) (ys:=[]) (bC aM (Nat.zero_le _)))) (λh=>absurd h (by decide))))))) (λh=>absurd h (by decide)) (λ_=>aJ ⟨_,_,_,rfl⟩))
   ·refine ao (bQ 9 (bK (r:=gM C "place") (y:=(k:Int)) CC hr (au (aa 7 rfl) (au (bW.im (eL M.list (aa 4 rfl))) aG)) ⟨way,_,rfl,hway,.inl ⟨k,hlen,hbad,rfl⟩⟩) ?_)
    change WS _ _ [.im bV ns,.im (ai ae) d,.im ae many,.im (ai ak) (aN code),.im (ai ak) xs,.im ae at_,.im (ai ae) ((k:Int)::r),.im ae way,.im (ai ak) (aN code),.im (gM C "place") (k:Int)] _ _
    refine ao (aD (TW.tv (cH (y:=false) (TV.cast (av (iJ hu0) (aa 4 rfl) (bW.im (r:=ak) (ys:=[]) (bC aM (Nat.zero_le _)))) hxe) (λh=>absurd h (by decide)))) (λh=>absurd h (by decide)) (λ_=>aJ ?_))
    exact ah (aD (TW.tv (bG (TW.tv (cH (TV.cast (b':=true) (av (gY hu0) (aa 4 rfl) (bW.im (r:=ak) (ys:=[]) (bC aM (Nat.zero_le _)))) (by rw [hxe];rfl)) (λ_=>cH (y:=false) (av (iJ hu0) (aa 6 rfl) (bW.im (r:=ae) (ys:=[]) (bC aM (Nat.zero_le _)))) (λh=>absurd (show false=true from h) (by decide))))) (λ_=>cc (TW.tv (cH (av (gY hu0) (aa 6 rfl) (bW.im (r:=ae) (ys:=[]) (bC aM (Nat.zero_le _)))) (λ_=>ez (aX (aV (bK CR hr (au (aa 9 rfl) (au (cF (aa 6 rfl) ag eJ) aG)) ⟨(k:Int),rfl,rfl⟩))))))))) (λh=>absurd (show ((true&&(false&&false)) ||(true&& !true))=true from h) (by decide)) (λ_=>aJ ⟨_,_,_,rfl⟩))
 ·obtain ⟨e7,e8,e9,rfl⟩:=hΓ
  exact ah (aT bY rfl)
end
end K1
set_option maxHeartbeats 4000000
namespace K1
open PySem L2 Fc
open PySem.Spec hiding Row
open PyProof.Rows hiding St
open PySem.Builtin.Int (intBits)
section
variable {K:PySem.W.Frag}{mg:Str->Option Value}{h:Heap}{f:Addr}{w:World}{oc:Value}{od an:Option Addr}{osl:Array (Option Value)}{doc pm cdv ct:Value}
def oB (K:PySem.W.Frag)(mg:Str->Option Value):Prop:=∃C fi fdi,cf K C fns/\Mk K C fi/\mg "Machine"=some (.ref C)/\bL K "__init__" "Machine.__init__" kO fi fdi/\Binds K fdi ["self","state"] []
abbrev mn:Stmt:=match top qD with
 | .ClassDef _ _ _ b _ _ _ _ _ _ _=>b.getD 0 (.Pass ⟨0,0,0,0⟩)
 | s=>s
theorem Bo:aR ["self","place"] ["self","place"] (aq mn):=⟨rfl,rfl,rfl,by decide +kernel,rfl,by decide +kernel,by decide +kernel⟩
def sY (K:PySem.W.Frag)(mg:Str->Option Value):Prop:=∃C CE fI fdI,hZ K mg "NoCode" "place" C CE fI/\bL K "__init__" "NoCode.__init__" mn fI fdI/\Binds K fdI ["self","place"] []/\mg "CountError"=some (.ref CE)/\PySem.W.exmOne K (.ref C) (.ref CE)=some true/\yi K mg C
structure Top (P:Program) (w:World) (K:PySem.W.Frag) (mg:Str->Option Value):Prop where
 M:bU K mg
 FO:g9 P w K mg "FORMS" cw
 hX:mg "max"=none
 X:sY K mg
 MC:oB K mg
 TR:Def K mg "triples" qz ["tuples"]
 AS:Def K mg "ask" ua ["machine","told","answer"]
 CL:Def K mg "call" tQ ["machine","told"]
 SS:Def K mg "set_sum" uo ["machine","number"]
 GB:Def K mg "go_back" ub ["machine"]
 ST:Def K mg "still_at" uf ["machine","code","answers","bound"]
 DN:Def K mg "do_next" pF ["machine","code","answers"]
 SO:Def K mg "state_of" m8 ["machine"]
 BE:Def K mg "begun" tF []
 IW:Def K mg "is_whole" rf ["value"]
 AW:Def K mg "are_whole" qw ["values"]
 NA:Def K mg "need_answers" rA ["answers","bound"]
 IN:Def K mg "is_number_of" qd ["value","wanted","size"]
 IT:Def K mg "is_tuple_of_code" iX ["told","size"]
 LC:Def K mg "look_code" pD ["code"]
 SP:Def K mg "step" p6 ["code","state","answers","bound"]
 RC:Def K mg "run_code" pQ ["code","answers","bound"]
 WH:Def K mg "_law_whole" qr ["_law_found"]
 DW:Def K mg "_law_draws" tR ["_law_script","_law_many"]
 LN:Def K mg "_law_line" um ["_law_number","_law_many"]
 FT:Def K mg "_law_fits" iT ["_law_line_here","_law_many"]
 BN:Def K mg "_law_bent" uj ["_law_line_here","_law_way","_law_many"]
 CG:Def K mg "_law_caught" tZ ["_law_way","_law_code"]
 RF:Def K mg "_law_refused" tX ["_law_caught_here","_law_place"]
theorem yf {P:Program}{base:Heap}{fd:FuncData}(T:Top P w K mg)(F:bL K "law" "law" gA f fd):cq P w K mg base cL 7 f fd ["_law_script"] (aZ mF K):=by
 have M:=T.M
 obtain ⟨EC,CE,fI,fdI,ci,FX,bX,hCE,hx,RI⟩:=T.X
 have XI:=vc (P:=P) (w:=w) (base:=base) ci FX Bo (by decide) rfl (λ_=>rfl) (.inl rfl) (.inl rfl) (by decide) (by decide) (by decide) (by decide)
 obtain ⟨C,fi,fdi,HC,MK,hMg,FI,bi⟩:=T.MC
 obtain ⟨_,_,F1,m1,b1⟩:=T.TR
 have TR:=Am (P:=P) (w:=w) (base:=base) M F1 m1 b1
 have MI:=zW (P:=P) (w:=w) (base:=base) M HC TR FI
 obtain ⟨_,_,F1,m1,b1⟩:=T.AS
 have AS:=zV (P:=P) (w:=w) (base:=base) M HC F1 m1 b1
 obtain ⟨_,_,F1,m1,b1⟩:=T.CL
 have CL:=zr (P:=P) (w:=w) (base:=base) M HC F1 m1 b1
 obtain ⟨_,_,F1,m1,b1⟩:=T.SS
 have SS:=zA (P:=P) (w:=w) (base:=base) M HC F1 m1 b1
 obtain ⟨_,_,F1,m1,b1⟩:=T.GB
 have GB:=zw (P:=P) (w:=w) (base:=base) M HC F1 m1 b1
 obtain ⟨_,_,F1,m1,b1⟩:=T.ST
 have ST:=zU (P:=P) (w:=w) (base:=base) M HC F1 m1 b1
 obtain ⟨_,_,F1,m1,b1⟩:=T.DN
 have DN:=zZ (P:=P) (w:=w) (base:=base) M HC AS CL SS GB F1 m1 b1
 obtain ⟨_,_,F1,m1,b1⟩:=T.SO
 have SO:=zH (P:=P) (w:=w) (base:=base) M HC TR F1 m1 b1
 obtain ⟨_,_,F1,m1,b1⟩:=T.BE
 have BE:=zD (P:=P) (w:=w) (base:=base) M F1 m1 b1
 obtain ⟨_,_,F1,m1,b1⟩:=T.IW
 have IW:=zS (P:=P) (w:=w) (base:=base) M F1 m1 b1
 have IWP:=yB (P:=P) (w:=w) (base:=base) M F1 m1 b1
 obtain ⟨_,_,F1,m1,b1⟩:=T.AW
 have AW:=z0 (P:=P) (w:=w) (base:=base) M IW F1 m1 b1
 obtain ⟨_,_,F1,m1,b1⟩:=T.NA
 have NA:=Aq (P:=P) (w:=w) (base:=base) M IW AW F1 m1 b1
 obtain ⟨_,_,F1,m1,b1⟩:=T.IN
 have IN:=z6 (P:=P) (w:=w) (base:=base) M IW F1 m1 b1
 have INP:=xp (P:=P) (w:=w) (base:=base) M IWP F1 m1 b1
 obtain ⟨_,_,F1,m1,b1⟩:=T.IT
 have IT:=z3 (P:=P) (w:=w) (base:=base) M T.FO IN F1 m1 b1
 have ITP:=xf (P:=P) (w:=w) (base:=base) M T.FO INP F1 m1 b1
 obtain ⟨_,_,F1,m1,b1⟩:=T.LC
 have LC:=zK (P:=P) (w:=w) (base:=base) M IT F1 m1 b1
 have DLC:=xy (P:=P) (w:=w) (base:=base) M ci XI bX ITP F1 m1 b1
 obtain ⟨_,_,F1,m1,b1⟩:=T.SP
 have SP:=zO (P:=P) (w:=w) (base:=base) M MK hMg MI bi LC NA ST DN SO F1 m1 b1
 have DSP:=yg (P:=P) (w:=w) (base:=base) DLC F1 m1 b1
 obtain ⟨_,_,F1,m1,b1⟩:=T.RC
 have RC:=zJ (P:=P) (w:=w) (base:=base) M MK hMg MI bi LC NA BE ST DN SO F1 m1 b1
 have DRC:=wN (P:=P) (w:=w) (base:=base) DLC F1 m1 b1
 obtain ⟨_,_,F1,m1,b1⟩:=T.WH
 have WH:=zz (P:=P) (w:=w) (base:=base) M F1 m1 b1
 have WHP:=wB (P:=P) (w:=w) (base:=base) M F1 m1 b1
 obtain ⟨_,_,F1,m1,b1⟩:=T.DW
 have DW:=zX (P:=P) (w:=w) (base:=base) M F1 m1 b1
 obtain ⟨_,_,F1,m1,b1⟩:=T.LN
 have LN:=zP (P:=P) (w:=w) (base:=base) M F1 m1 b1
 obtain ⟨_,_,F1,m1,b1⟩:=T.FT
 have FT:=Ac (P:=P) (w:=w) (base:=base) M WHP F1 m1 b1
 obtain ⟨_,_,F1,m1,b1⟩:=T.BN
 have BN:=Al (P:=P) (w:=w) (base:=base) M M.list T.hX F1 m1 b1
 obtain ⟨_,_,F1,m1,b1⟩:=T.CG
 have CG:=z4 (P:=P) (w:=w) (base:=base) ci hCE hx DLC DSP DRC LC SP RC BE F1 m1 b1
 obtain ⟨_,_,F1,m1,b1⟩:=T.RF
 have RF:=zF (P:=P) (w:=w) (base:=base) M ci RI rfl WH F1 m1 b1
 exact zc (C:=EC) M DW LN BN FT CG RF F
theorem vU (KX:K.In h)(G:h.Ns mainGlobals mg){t1 t2 t3 t4 t5 t6 t7 t8 t9 t10 t11 t12 t13 t14 t15:Tok}{g:Addr}{gd:Option Addr}{gn:Nat}{gs:Array (Option Value)}{u1 u2 u3:Tok}
 (a1:PySem.W.nsIn K mainGlobals "YES"=some (some (.int 1 t1))) (a2:PySem.W.nsIn K mainGlobals "NOWHERE"=some (some (.int (-1) t2))) (a3:PySem.W.nsIn K mainGlobals "MOST_IDLE"=some (some (.int 1000 t3)))
 (a4:PySem.W.nsIn K mainGlobals "ENDED"=some (some (.str "ended" t4))) (a5:PySem.W.nsIn K mainGlobals "BOUND"=some (some (.str "bound" t5))) (a6:PySem.W.nsIn K mainGlobals "WANTING"=some (some (.str "wanting" t6))) (a7:PySem.W.nsIn K mainGlobals "ASTRAY"=some (some (.str "astray" t7))) (a8:PySem.W.nsIn K mainGlobals "ROW"=some (some (.str "row" t8))) (a9:PySem.W.nsIn K mainGlobals "ASK"=some (some (.str "ask" t9))) (a10:PySem.W.nsIn K mainGlobals "JUMP"=some (some (.str "jump" t10))) (a11:PySem.W.nsIn K mainGlobals "CALL"=some (some (.str "call" t11))) (a12:PySem.W.nsIn K mainGlobals "BACK"=some (some (.str "back" t12))) (a13:PySem.W.nsIn K mainGlobals "COUNT"=some (some (.str "count" t13))) (a14:PySem.W.nsIn K mainGlobals "ADD"=some (some (.str "add" t14))) (a15:PySem.W.nsIn K mainGlobals "TELL"=some (some (.str "tell" t15)))
 (g1:PySem.W.nsIn K mainGlobals "GOING"=some (some (.ref g))) (g2:K.lookup g=some ⟨.type "tuple",gd,.seq #[.str "row" u1,.str "ask" u2,.str "call" u3] gn,gs⟩)
 (b1:PySem.W.nsIn K mainGlobals "len"=some none) (b2:PySem.W.nsIn K mainGlobals "all"=some none) (b3:PySem.W.nsIn K mainGlobals "range"=some none) (b4:PySem.W.nsIn K mainGlobals "enumerate"=some none) (b5:PySem.W.nsIn K mainGlobals "isinstance"=some none) (b6:PySem.W.nsIn K mainGlobals "int"=some none) (b7:PySem.W.nsIn K mainGlobals "bool"=some none) (b8:PySem.W.nsIn K mainGlobals "str"=some none) (b9:PySem.W.nsIn K mainGlobals "list"=some none) (b10:PySem.W.nsIn K mainGlobals "dict"=some none) (b11:PySem.W.nsIn K mainGlobals "tuple"=some none) (b12:PySem.W.nsIn K mainGlobals "min"=some none) (b13:PySem.W.nsIn K mainGlobals "sorted"=some none) (b14:PySem.W.nsIn K mainGlobals "sum"=some none) (b15:PySem.W.nsIn K mainGlobals "zip"=some none):bU K mg:=
 ⟨⟨_,PySem.W.mg_of KX G a1⟩,⟨_,PySem.W.mg_of KX G a2⟩,⟨_,PySem.W.mg_of KX G a3⟩,⟨_,PySem.W.mg_of KX G a4⟩,⟨_,PySem.W.mg_of KX G a5⟩,⟨_,PySem.W.mg_of KX G a6⟩,⟨_,PySem.W.mg_of KX G a7⟩,⟨_,PySem.W.mg_of KX G a8⟩,⟨_,PySem.W.mg_of KX G a9⟩,⟨_,PySem.W.mg_of KX G a10⟩,⟨_,PySem.W.mg_of KX G a11⟩,⟨_,PySem.W.mg_of KX G a12⟩,⟨_,PySem.W.mg_of KX G a13⟩,⟨_,PySem.W.mg_of KX G a14⟩,⟨_,PySem.W.mg_of KX G a15⟩,⟨g,_,_,_,PySem.W.mg_of KX G g1,g2,rfl,rfl,(by show 3<=sizeLine;decide),.cons ⟨u1,rfl⟩ (.cons ⟨u2,rfl⟩ (.cons ⟨u3,rfl⟩ .nil))⟩,PySem.W.mg_none_of KX G b1,PySem.W.mg_none_of KX G b2,PySem.W.mg_none_of KX G b3,PySem.W.mg_none_of KX G b4,PySem.W.mg_none_of KX G b5,PySem.W.mg_none_of KX G b6,PySem.W.mg_none_of KX G b7,PySem.W.mg_none_of KX G b8,PySem.W.mg_none_of KX G b9,PySem.W.mg_none_of KX G b10,PySem.W.mg_none_of KX G b11,PySem.W.mg_none_of KX G b12,PySem.W.mg_none_of KX G b13,PySem.W.mg_none_of KX G b14,PySem.W.mg_none_of KX G b15⟩
theorem rS {P:Program}(KX:K.In h)(G:h.Ns mainGlobals mg){d v1 v2 v3 v4 v5 v6 v7 v8:Addr}{k1 k2 k3 k4 k5 k6 k7 k8 s1_1 s2_1 s2_2 s2_3 s3_1 s4_1 s4_2 s4_3 s6_1 s7_1 s8_1 s8_2:Tok}{ep n1 n2 n3 n4 n5 n6 n7 n8:Nat}{d1 d2 d3 d4 d5 d6 d7 d8:Option Addr}{l1 l2 l3 l4 l5 l6 l7 l8:Array (Option Value)}
 (a:PySem.W.nsIn K mainGlobals "FORMS"=some (some (.ref d))) (l:K.lookup d=some ⟨.type "dict",none,.dict #[⟨PyData.keyHash w.params "row",.str "row" k1,.ref v1⟩,⟨PyData.keyHash w.params "ask",.str "ask" k2,.ref v2⟩,⟨PyData.keyHash w.params "jump",.str "jump" k3,.ref v3⟩,⟨PyData.keyHash w.params "call",.str "call" k4,.ref v4⟩,⟨PyData.keyHash w.params "back",.str "back" k5,.ref v5⟩,⟨PyData.keyHash w.params "count",.str "count" k6,.ref v6⟩,⟨PyData.keyHash w.params "add",.str "add" k7,.ref v7⟩,⟨PyData.keyHash w.params "tell",.str "tell" k8,.ref v8⟩] ep, #[]⟩) (sm:(d==sysModules)=false)
 (u1:K.lookup v1=some ⟨.type "tuple",d1,.seq #[.str "from nought" s1_1] n1,l1⟩) (u2:K.lookup v2=some ⟨.type "tuple",d2,.seq #[.str "from nought" s2_1,.str "from nought" s2_2,.str "tuple" s2_3] n2,l2⟩) (u3:K.lookup v3=some ⟨.type "tuple",d3,.seq #[.str "tuple" s3_1] n3,l3⟩) (u4:K.lookup v4=some ⟨.type "tuple",d4,.seq #[.str "from nought" s4_1,.str "tuple" s4_2,.str "any" s4_3] n4,l4⟩) (u5:K.lookup v5=some ⟨.type "tuple",d5,.seq #[] n5,l5⟩) (u6:K.lookup v6=some ⟨.type "tuple",d6,.seq #[.str "from nought" s6_1] n6,l6⟩) (u7:K.lookup v7=some ⟨.type "tuple",d7,.seq #[.str "any" s7_1] n7,l7⟩) (u8:K.lookup v8=some ⟨.type "tuple",d8,.seq #[.str "from nought" s8_1,.str "any" s8_2] n8,l8⟩):g9 P w K mg "FORMS" cw:=by
 refine ⟨d,_,[((Sum.inr "row":Key),.ref v1),((Sum.inr "ask":Key),.ref v2),((Sum.inr "jump":Key),.ref v3),((Sum.inr "call":Key),.ref v4),((Sum.inr "back":Key),.ref v5),((Sum.inr "count":Key),.ref v6),((Sum.inr "add":Key),.ref v7),((Sum.inr "tell":Key),.ref v8)],PySem.W.mg_of KX G a,l,⟨_,_,⟨rfl,rfl,rfl⟩,rfl,λe he=>?_,?_,by show List.Nodup [(Sum.inr "row":Key),(Sum.inr "ask":Key),(Sum.inr "jump":Key),(Sum.inr "call":Key),(Sum.inr "back":Key),(Sum.inr "count":Key),(Sum.inr "add":Key),(Sum.inr "tell":Key)];decide⟩,sm,?_⟩
 ·simp only [List.mem_toArray,List.mem_cons,List.not_mem_nil,or_false] at he
  rcases he with rfl | rfl | rfl | rfl | rfl | rfl | rfl | rfl
  ·exact ⟨Sum.inr "row",ba P w "row" k1,rfl⟩
  ·exact ⟨Sum.inr "ask",ba P w "ask" k2,rfl⟩
  ·exact ⟨Sum.inr "jump",ba P w "jump" k3,rfl⟩
  ·exact ⟨Sum.inr "call",ba P w "call" k4,rfl⟩
  ·exact ⟨Sum.inr "back",ba P w "back" k5,rfl⟩
  ·exact ⟨Sum.inr "count",ba P w "count" k6,rfl⟩
  ·exact ⟨Sum.inr "add",ba P w "add" k7,rfl⟩
  ·exact ⟨Sum.inr "tell",ba P w "tell" k8,rfl⟩
 ·exact .cons (ba P w "row" k1) rfl (.cons (ba P w "ask" k2) rfl (.cons (ba P w "jump" k3) rfl (.cons (ba P w "call" k4) rfl (.cons (ba P w "back" k5) rfl (.cons (ba P w "count" k6) rfl (.cons (ba P w "add" k7) rfl (.cons (ba P w "tell" k8) rfl (.nil))))))))
 ·exact .cons ⟨rfl,v1,_,_,_,rfl,u1,rfl,rfl,(by show 1<=sizeLine;decide),.cons ⟨s1_1,rfl⟩ (.nil)⟩ (.cons ⟨rfl,v2,_,_,_,rfl,u2,rfl,rfl,(by show 3<=sizeLine;decide),.cons ⟨s2_1,rfl⟩ (.cons ⟨s2_2,rfl⟩ (.cons ⟨s2_3,rfl⟩ (.nil)))⟩ (.cons ⟨rfl,v3,_,_,_,rfl,u3,rfl,rfl,(by show 1<=sizeLine;decide),.cons ⟨s3_1,rfl⟩ (.nil)⟩ (.cons ⟨rfl,v4,_,_,_,rfl,u4,rfl,rfl,(by show 3<=sizeLine;decide),.cons ⟨s4_1,rfl⟩ (.cons ⟨s4_2,rfl⟩ (.cons ⟨s4_3,rfl⟩ (.nil)))⟩ (.cons ⟨rfl,v5,_,_,_,rfl,u5,rfl,rfl,(by show 0<=sizeLine;decide),.nil⟩ (.cons ⟨rfl,v6,_,_,_,rfl,u6,rfl,rfl,(by show 1<=sizeLine;decide),.cons ⟨s6_1,rfl⟩ (.nil)⟩ (.cons ⟨rfl,v7,_,_,_,rfl,u7,rfl,rfl,(by show 1<=sizeLine;decide),.cons ⟨s7_1,rfl⟩ (.nil)⟩ (.cons ⟨rfl,v8,_,_,_,rfl,u8,rfl,rfl,(by show 2<=sizeLine;decide),.cons ⟨s8_1,rfl⟩ (.cons ⟨s8_2,rfl⟩ (.nil))⟩ (.nil))))))))
theorem vQ (KX:K.In h)(G:h.Ns mainGlobals mg){C:Addr}{kV:Value}(aC:PySem.W.nsIn K mainGlobals "Machine"=some (some (.ref C)))(a1:PySem.W.findIn K (.ref C) "__init__"=some (some (.ref f)))(i1:PySem.W.isFn K (.ref f)=true)
 (l1:K.lookup f=some ⟨oc,od,.func (PySem.W.fnOf "__init__" "Machine.__init__" (dv kO) (bz kO) (aq kO) .none kV doc pm an cdv ct),osl⟩) (c1:PySem.W.codeIn K cdv "Machine.__init__"=true) (k1:PySem.W.keepIn K (.ref f)=true) (pg:PySem.W.plainGet K C Str.empty=true) (hd:PySem.W.hasDictIn K C=true) (po:PySem.W.plainOver K C=true) (sa:PySem.W.findIn K (.ref C) "__setattr__"=some (some (.builtin "object.__setattr__"))) (mk:PySem.W.makesIn K C=true) (kc:PySem.W.keepIn K (.ref C)=true)
 (o1:PySem.W.findIn K (.ref C) "at"=some none) (o2:PySem.W.findIn K (.ref C) "frames"=some none) (o3:PySem.W.findIn K (.ref C) "boxes"=some none) (o4:PySem.W.findIn K (.ref C) "told"=some none) (o5:PySem.W.findIn K (.ref C) "chain"=some none) (o6:PySem.W.findIn K (.ref C) "rows"=some none) (o7:PySem.W.findIn K (.ref C) "used"=some none) (o8:PySem.W.findIn K (.ref C) "idle"=some none):oB K mg:=by
 refine ⟨C,f,_,⟨⟨pg,hd,po,sa⟩,λx hx=>?_⟩,⟨mk,a1,i1,kc⟩,PySem.W.mg_of KX G aC,gg (st:=kO) l1 c1 k1,(gg (st:=kO) l1 c1 k1).binds (ps:=["self","state"]) λ_ _ _ _ _ _ us hl=>match us,hl with | [_,_],_=>rfl⟩
 simp only [fns,List.mem_cons,List.not_mem_nil,or_false] at hx
 rcases hx with rfl | rfl | rfl | rfl | rfl | rfl | rfl | rfl
 ·exact o1
 ·exact o2
 ·exact o3
 ·exact o4
 ·exact o5
 ·exact o6
 ·exact o7
 ·exact o8
theorem zL {ns:Addr}{o1:Value}{o2:Option Addr}{o3:Array (Option Value)}{es:Array DictEntry}{o4:Nat}(dn:K.lookup ns=some ⟨o1,o2,.dict es o4,o3⟩)(dk:(es.toList.all λe=>match e.key with | .str _ _=>true | _=>false)=true):PySem.W.nsOkIn K ns=true:=by
 unfold PySem.W.nsOkIn
 rw [dn]
 show (es.all _)=true
 rw [← Array.all_toList]
 exact dk
theorem uI {CE:Addr}(q:PySem.W.excIn K CE ft "ValueError.__new__"=true):PySem.W.tailIn K ft (.ref CE::ft)=true:=by
 unfold PySem.W.excIn at q
 split at q
 ·rename_i dd cd sl ho
  split at q
  ·simp only [Bool.and_eq_true] at q
   unfold PySem.W.tailIn
   dsimp only
   rw [ho]
   dsimp only
   have e:PySem.W.tailIn K ft ft=true:=rfl
   simp only [q.1.2,q.2,e,Bool.and_true,Bool.or_true]
  ·cases q
 ·cases q
theorem yF (KX:K.In h)(G:h.Ns mainGlobals mg){C CE ns c1 c2 c3 c4 c5 c6 c7 c8 c9 d1 d2 d3 d4 d5 d6 d7:Addr}{n qn:Str}{kV:Value}{cd:ClassData}{o1:Value}{o2:Option Addr}{o3:Array (Option Value)}{es:Array DictEntry}{o4:Nat}{bs:List Value}{dd:Option Addr}{sn sub:_}{ab:Bool}{col:_}{k0 k1 k2 k3 k5:Option Value}
 (e1:PySem.W.nsIn K mainGlobals "NoCode"=some (some (.ref C))) (e2:PySem.W.nsIn K mainGlobals "CountError"=some (some (.ref CE))) (e3:PySem.W.nsIn K mainGlobals "ValueError"=some none)
 (lk:K.lookup C=some ⟨.type "type",dd,.cls {name:=n,bases:=bs,mro:=.ref C:: .ref CE::ft,ns:=ns,qualname:=qn,hasDict:=true,slotNames:=sn,subclasses:=sub,abstract:=ab,collection:=col,hasDel:=false}, #[k0,k1,k2,k3,some (.builtin "ValueError.__new__"),k5]⟩) (dn:K.lookup ns=some ⟨o1,o2,.dict es o4,o3⟩) (dk:(es.toList.all λe=>match e.key with | .str _ _=>true | _=>false)=true) (ni:PySem.W.nsIn K ns "__init__"=some (some (.ref f)))
 (q1:PySem.W.excIn K CE ft "ValueError.__new__"=true) (i1:PySem.W.isFn K (.ref f)=true) (kc:PySem.W.keepIn K (.ref C)=true) (sa:PySem.W.findIn K (.ref C) "__setattr__"=some (some (.builtin "object.__setattr__"))) (np:PySem.W.findIn K (.ref C) "place"=some none) (r0:PySem.W.findIn K (.ref C) "__getattribute__"=some (some (.builtin "BaseException.__getattribute__"))) (r1:PySem.W.findIn K (.ref C) "__getattr__"=some none) (r2:PySem.W.findIn K (.ref C) "__class__"=some (some (.builtin "object.__class__"))) (r3:PySem.W.specialIn K (.builtin "object.__class__") "__get__"=some (some (.builtin "getset_descriptor.__get__"))) (r4:PySem.W.takesIn K (.builtin "object.__class__")=some true) (r5:PySem.W.mroIn K C (.type "object")=some true) (r7:PySem.W.subIn K (.ref C) (.type "BaseException")=some true) (r6:PySem.W.clsIn K C=some cd)
 (l1:K.lookup f=some ⟨oc,od,.func (PySem.W.fnOf "__init__" "NoCode.__init__" (dv mn) (bz mn) (aq mn) .none kV doc pm an cdv ct),osl⟩) (x1:PySem.W.codeIn K cdv "NoCode.__init__"=true) (x2:PySem.W.keepIn K (.ref f)=true) (q2:PySem.W.exmOne K (.ref C) (.ref CE)=some true) (q5:PySem.W.kitOne K (.ref C) (.ref C)=some true) (q6:PySem.W.kitOne K (.ref C) (.type "ValueError")=some true)
 (ma1:PySem.W.nsIn K mainGlobals "NoAnswer"=some (some (.ref c1))) (ma2:PySem.W.nsIn K mainGlobals "NoChain"=some (some (.ref c2))) (ma3:PySem.W.nsIn K mainGlobals "NoChoice"=some (some (.ref c3))) (ma4:PySem.W.nsIn K mainGlobals "NoCounts"=some (some (.ref c4))) (ma5:PySem.W.nsIn K mainGlobals "NoGuess"=some (some (.ref c5))) (ma6:PySem.W.nsIn K mainGlobals "NoLog"=some (some (.ref c6))) (ma7:PySem.W.nsIn K mainGlobals "NoLoose"=some (some (.ref c7))) (ma8:PySem.W.nsIn K mainGlobals "NoMarks"=some (some (.ref c8))) (ma9:PySem.W.nsIn K mainGlobals "NoName"=some (some (.ref c9))) (qa:PySem.W.kitAny K (.ref C) [.ref c1,.ref c2,.ref c3,.ref c4,.ref c5,.ref c6,.ref c7,.ref c8,.ref c9]=some false)
 (mb1:PySem.W.nsIn K mainGlobals "NoPlan"=some (some (.ref d1))) (mb2:PySem.W.nsIn K mainGlobals "NoProgram"=some (some (.ref d2))) (mb3:PySem.W.nsIn K mainGlobals "NoRow"=some (some (.ref d3))) (mb4:PySem.W.nsIn K mainGlobals "NoRun"=some (some (.ref d4))) (mb5:PySem.W.nsIn K mainGlobals "NoText"=some (some (.ref d5))) (mb6:PySem.W.nsIn K mainGlobals "NoWay"=some (some (.ref d6))) (mb7:PySem.W.nsIn K mainGlobals "NoWeb"=some (some (.ref d7))) (qb:PySem.W.kitAny K (.ref C) [.ref d1,.ref d2,.ref d3,.ref d4,.ref d5,.ref d6,.ref d7]=some false):sY K mg:=
 ⟨C,CE,f,_,⟨PySem.W.mg_of KX G e1,⟨_,_,_,_,_,_,_,_,_,_,_,_,_,_,lk,zL dn dk,ni⟩,uI q1,i1,kc,sa,np,by unfold cx;rw [r0,r1,r2,r3,r4,r5,r7,r6];rfl⟩,gg (st:=mn) l1 x1 x2,(gg (st:=mn) l1 x1 x2).binds (ps:=["self","place"]) (λ_ _ _ _ _ _ us hl=>match us,hl with | [_,_],_=>rfl),PySem.W.mg_of KX G e2,q2,⟨_,_,_,_,_,_,_,_,_,PySem.W.mg_of KX G ma1,PySem.W.mg_of KX G ma2,PySem.W.mg_of KX G ma3,PySem.W.mg_of KX G ma4,PySem.W.mg_of KX G ma5,PySem.W.mg_of KX G ma6,PySem.W.mg_of KX G ma7,PySem.W.mg_of KX G ma8,PySem.W.mg_of KX G ma9,qa⟩,⟨_,_,_,_,_,_,_,PySem.W.mg_of KX G mb1,PySem.W.mg_of KX G mb2,PySem.W.mg_of KX G mb3,PySem.W.mg_of KX G mb4,PySem.W.mg_of KX G mb5,PySem.W.mg_of KX G mb6,PySem.W.mg_of KX G mb7,qb⟩,q5,q6,PySem.W.mg_none_of KX G e3⟩
theorem yI {l:PySem.W.OpenLaw}{fa:Addr}{kV:Value}(KX:K.In h)(G:h.Ns mainGlobals mg)(hfa:mg "law"=some (.ref fa))(T:Top l.prog w K mg)
 (a:PySem.W.nsIn K mainGlobals "law"=some (some (.ref f))) (lk:K.lookup f=some ⟨oc,od,.func (PySem.W.fnOf "law" "law" (dv gA) (bz gA) (aq gA) .none kV doc pm an cdv ct),osl⟩) (c:PySem.W.codeIn K cdv "law"=true) (k:PySem.W.keepIn K (.ref f)=true):
 ∃fd:FuncData,(∀(s:Shared) (v:Value),BindsTo s fd ⟨[v],[]⟩ [("_law_script",v)])/\∀base:Heap,K.In base->base.Ns mainGlobals mg->cq l.prog w K mg base cL 7 fa fd ["_law_script"] (aZ mF K):=by
 have e:=hfa.symm.trans (PySem.W.mg_of KX G a)
 cases e
 exact ⟨PySem.W.fnOf "law" "law" (dv gA) (bz gA) (aq gA) .none kV doc pm an cdv ct,λs v=>.of_eq rfl,λbase _ _=>yf T (gg lk c k)⟩
theorem walk {l:PySem.W.OpenLaw}{q:Program}{loose:List Str}{XP:(Str->Option Value)->Heap->Prop}{YP:World->Heap->Prop}{d:DefRec}{K:Params->PySem.W.Frag}(hn:l.most=some 63)(hdf:d.params.defaults=[])
 (hY:∀(w:World) (h:Heap),YP w h->(K w.params).In h)
 (F:∀(w:World) (mg:Str->Option Value) (fa:Addr) (h:Heap),(K w.params).In h->h.Ns mainGlobals mg->mg d.name=some (.ref fa)->
  ∃fd:FuncData,(∀(s:Shared) (u:Value),BindsTo s fd ⟨[u],[]⟩ [("_law_script",u)])/\∀base:Heap,(K w.params).In base->base.Ns mainGlobals mg->cq l.prog w (K w.params) mg base cL 7 fa fd ["_law_script"] (aZ mF (K w.params))):
 PySem.W.WalkO q loose XP YP l.row.toRowW d [] (λf vs=>PySem.call f vs):=
 L2.sI (n:=63) (k:=7) (x:="_law_script") (CX:=λ_=>cL) (sp:=λw=>aZ mF (K w.params)) hn (by decide) hdf ⟨rfl,by decide,by decide⟩ hY F
   (λw H a ns hl hbits _ hS=>⟨H,[⟨bV,ns⟩],_,aj.refl _,.cons ⟨a,rfl,hS,hl⟩ .nil,⟨ns,rfl,hl,hbits,rfl⟩,λv H' R' _ t=>by obtain ⟨y,hy,rfl⟩:=t;exact hy⟩) λ_ _ _ _ _ z=>z
end
end K1
open PySem PySem.W PyProof.Rows
theorem PySem.W.Fast.tw10234670333190343555:True:=trivial
theorem PySem.W.Fast.tw7867432756714926511:True:=trivial
theorem PySem.W.Fast.tw13598388430835627986:True:=trivial
theorem PySem.W.Fast.tw15362412485360504862:True:=trivial
theorem PySem.W.Fast.tw9828715527522749563:True:=trivial
theorem PySem.W.Fast.tw2813520638072298794:True:=trivial
theorem PySem.W.Fast.tw4109882345008427038:True:=trivial
theorem PySem.W.Fast.tw15571764769293925608:True:=trivial
theorem PySem.W.Fast.tw12115789570485378396:True:=trivial
theorem PySem.W.Fast.tw15700519625484624846:True:=trivial
theorem PySem.W.Fast.tw5224402485675100887:True:=trivial
theorem PySem.W.Fast.tw12965964919957946752:True:=trivial
theorem PySem.W.Fast.tw7149911041728919516:True:=trivial
theorem PySem.W.Fast.tw6923064570037595196:True:=trivial
theorem PySem.W.Fast.tw8304088088736399591:True:=trivial
theorem PySem.W.Fast.tw1385826118409902639:True:=trivial
theorem PySem.W.Fast.tw11351373878861599388:True:=trivial
theorem PySem.W.Fast.tw12297602526153167727:True:=trivial
theorem PySem.W.Fast.tw7821045157879466323:True:=trivial
theorem PySem.W.Fast.tw11193699251394086453:True:=trivial
theorem PySem.W.Fast.tw17321332671505775242:True:=trivial
theorem PySem.W.Fast.tw15650369871982041804:True:=trivial
theorem PySem.W.Fast.tw12728109476138734204:True:=trivial
theorem PySem.W.Fast.tw13442300113984435717:True:=trivial
theorem PySem.W.Fast.tw10335014834815006955:True:=trivial
theorem PySem.W.Fast.tw18360823619876707873:True:=trivial
theorem PySem.W.Fast.tw3005805156550514041:True:=trivial
theorem PySem.W.Fast.tw6532606599866687273:True:=trivial
theorem PySem.W.Fast.tw13820888343744337360:True:=trivial
theorem PySem.W.Fast.tw4076362772957357776:True:=trivial
theorem PySem.W.Fast.tw7703193404409622922:True:=trivial
theorem PySem.W.Fast.tw13430504447789882765:True:=trivial
theorem PySem.W.Fast.tw7436322265073855299:True:=trivial
theorem PySem.W.Fast.tw17981972202552570127:True:=trivial
theorem PySem.W.Fast.tw10377420995170881595:True:=trivial
theorem PySem.W.Fast.tw9931795315299368644:True:=trivial
theorem PySem.W.Fast.tw6371857690204798755:True:=trivial
theorem PySem.W.Fast.tw8065922777321993736:True:=trivial
theorem PySem.W.Fast.tw9208116037318959342:True:=trivial
theorem PySem.W.Fast.tw6131688212600990087:True:=trivial
theorem PySem.W.Fast.tw8985455666631131597:True:=trivial
theorem PySem.W.Fast.tw17104522264373967108:True:=trivial
theorem PySem.W.Fast.tw8259905699922964989:True:=trivial
theorem PySem.W.Fast.tw17759088218607746778:True:=trivial
theorem PySem.W.Fast.tw14921580040814143002:True:=trivial
theorem PySem.W.Fast.tw3112825768584001010:True:=trivial
theorem PySem.W.Fast.tw9807477629238238665:True:=trivial
theorem PySem.W.Fast.tw5655423129884844111:True:=trivial
theorem PySem.W.Fast.tw4059525709441385072:True:=trivial
theorem PySem.W.Fast.tw9918782224901365218:True:=trivial
theorem PySem.W.Fast.tw18057397678112489770:True:=trivial
theorem PySem.W.Fast.tw6900178616442122283:True:=trivial
theorem PySem.W.Fast.tw334275672051264154:True:=trivial
theorem PySem.W.Fast.tw5337635428331859261:True:=trivial
theorem PySem.W.Fast.tw16531493974156269336:True:=trivial
theorem PySem.W.Fast.tw3618708661336725265:True:=trivial
theorem PySem.W.Fast.tw9357165016629258906:True:=trivial
theorem PySem.W.Fast.tw9767771813329456596:True:=trivial
theorem PySem.W.Fast.tw4186957045179637269:True:=trivial
theorem PySem.W.Fast.tw17514849587656035114:True:=trivial
theorem PySem.W.Fast.tw17238444427521107414:True:=trivial
theorem PySem.W.Fast.tw11503966187874029519:True:=trivial
theorem PySem.W.Fast.tw4608044473339095594:True:=trivial
theorem PySem.W.Fast.tw10497468104443804151:True:=trivial
theorem PySem.W.Fast.tw10879539033510602014:True:=trivial
theorem PySem.W.Fast.tw7989345563500962637:True:=trivial
theorem PySem.W.Fast.tw3174656907597684888:True:=trivial
theorem PySem.W.Fast.tw14910861541101034222:True:=trivial
theorem PySem.W.Fast.tw17693416046946575639:True:=trivial
theorem PySem.W.Fast.tw7006612668062351663:True:=trivial
theorem PySem.W.Fast.tw1287240657957087432:True:=trivial
theorem PySem.W.Fast.tw14512252379913548996:True:=trivial
theorem PySem.W.Fast.tw17069592265318449517:True:=trivial
theorem PySem.W.Fast.tw3551756334638855666:True:=trivial
theorem PySem.W.Fast.tw9717776813789191629:True:=trivial
theorem PySem.W.Fast.tw10712805484460982892:True:=trivial
theorem PySem.W.Fast.tw9736182082659808370:True:=trivial
theorem PySem.W.Fast.tw15900182962663377165:True:=trivial
theorem PySem.W.Fast.tw15102666200716904776:True:=trivial
theorem PySem.W.Fast.tw17019430458125480036:True:=trivial
theorem PySem.W.Fast.tw3654525279332016558:True:=trivial
theorem PySem.W.Fast.tw11451560794937810498:True:=trivial
theorem PySem.W.Fast.tw14867215267943294663:True:=trivial
theorem PySem.W.Fast.tw2351786785772243594:True:=trivial
theorem PySem.W.Fast.tw5895006241996305114:True:=trivial
theorem PySem.W.Fast.tw2828318601877993780:True:=trivial
theorem PySem.W.Fast.tw13597769300573557940:True:=trivial
theorem PySem.W.Fast.tw13109472256739472991:True:=trivial
theorem PySem.W.Fast.tw719049945116339314:True:=trivial
theorem PySem.W.Fast.tw14043189079586369587:True:=trivial
theorem PySem.W.Fast.tw1208476999226206132:True:=trivial
theorem PySem.W.Fast.tw3643675746269580044:True:=trivial
theorem PySem.W.Fast.tw16982524294748736105:True:=trivial
theorem PySem.W.Fast.tw13704750920381495887:True:=trivial
theorem PySem.W.Fast.tw8806282270049683059:True:=trivial
theorem PySem.W.Fast.tw14815745040690258164:True:=trivial
theorem PySem.W.Fast.tw6618295787618605043:True:=trivial
theorem PySem.W.Fast.tw4285864526080165077:True:=trivial
theorem PySem.W.Fast.tw15496605443378884506:True:=trivial
theorem PySem.W.Fast.tw5302836419199349550:True:=trivial
theorem PySem.W.Fast.tw13213491620409310886:True:=trivial
theorem PySem.W.Fast.tw3103708668093506736:True:=trivial
theorem PySem.W.Fast.tw9026443265834640847:True:=trivial
theorem PySem.W.Fast.tw17375495703797503220:True:=trivial
theorem PySem.W.Fast.tw2378899699141663518:True:=trivial
theorem PySem.W.Fast.tw8616348615521562106:True:=trivial
theorem PySem.W.Fast.tw2158636507958439757:True:=trivial
theorem PySem.W.Fast.tw18088090238961949870:True:=trivial
theorem PySem.W.Fast.tw4400882971929581917:True:=trivial
theorem PySem.W.Fast.tw12910576949125798296:True:=trivial
theorem PySem.W.Fast.tw16245565064124217114:True:=trivial
theorem PySem.W.Fast.tw1312486077383917187:True:=trivial
theorem PySem.W.Fast.tw4321883315972195874:True:=trivial
theorem PySem.W.Fast.tw16748003865276783441:True:=trivial
theorem PySem.W.Fast.tw16390345468131866547:True:=trivial
theorem PySem.W.Fast.tw12351855925135440376:True:=trivial
theorem PySem.W.Fast.tw11089139126515797378:True:=trivial
theorem PySem.W.Fast.tw5255205568229988883:True:=trivial
theorem PySem.W.Fast.tw14958433094559202179:True:=trivial
theorem PySem.W.Fast.tw2037477428275476260:True:=trivial
theorem PySem.W.Fast.tw2596134626511397347:True:=trivial
theorem PySem.W.Fast.tw4720271741192125672:True:=trivial
theorem PySem.W.Fast.tw9078933896712382956:True:=trivial
theorem PySem.W.Fast.tw6701781494386927506:True:=trivial
theorem PySem.W.Fast.tw3849910358939048277:True:=trivial
theorem PySem.W.Fast.tw18301607297893203455:True:=trivial
theorem PySem.W.Fast.tw14377492684929372858:True:=trivial
theorem PySem.W.Fast.tw7310900486243486304:True:=trivial
theorem PySem.W.Fast.tw8499044261220019860:True:=trivial
theorem PySem.W.Fast.tw3195057645276769433:True:=trivial
theorem PySem.W.Fast.tw16016232096987878854:True:=trivial
theorem PySem.W.Fast.tw15086409870940547066:True:=trivial
theorem PySem.W.Fast.tw10927349991413571863:True:=trivial
theorem PySem.W.Fast.tw5216081476814431345:True:=trivial
theorem PySem.W.Fast.tw14940140073414592671:True:=trivial
theorem PySem.W.Fast.tw7783440889400635281:True:=trivial
theorem PySem.W.Fast.tw7441068284155317822:True:=trivial
theorem PySem.W.Fast.tw4376748967849651261:True:=trivial
theorem PySem.W.Fast.tw8004380502926355932:True:=trivial
theorem PySem.W.Fast.tw9863289698471936253:True:=trivial
theorem PySem.W.Fast.tw1420246246650775342:True:=trivial
theorem PySem.W.Fast.tw7261463348086700776:True:=trivial
theorem PySem.W.Fast.tw13345318227338624411:True:=trivial
theorem PySem.W.Fast.tw6956278974548871989:True:=trivial
theorem PySem.W.Fast.tw2048175943291101042:True:=trivial
theorem PySem.W.Fast.tw4535711299076512069:True:=trivial
theorem PySem.W.Fast.tw6537440075524279860:True:=trivial
theorem PySem.W.Fast.tw6447008479984356152:True:=trivial
theorem PySem.W.Fast.tw621940184003780487:True:=trivial
theorem PySem.W.Fast.tw2628437841478559019:True:=trivial
theorem PySem.W.Fast.tw2603734261972656235:True:=trivial
theorem PySem.W.Fast.tw17975741142959882431:True:=trivial
theorem PySem.W.Fast.tw1766703635995214008:True:=trivial
theorem PySem.W.Fast.tw17638319221025554048:True:=trivial
theorem PySem.W.Fast.tw16869691345681091974:True:=trivial
theorem PySem.W.Fast.tw1583320316890842484:True:=trivial
theorem PySem.W.Fast.tw14592640120721185411:True:=trivial
theorem PySem.W.Fast.tw11782235381926420629:True:=trivial
theorem PySem.W.Fast.tw6154102110887337213:True:=trivial
theorem PySem.W.Fast.tw2198734141053468858:True:=trivial
theorem PySem.W.Fast.tw6376156366774876612:True:=trivial
theorem PySem.W.Fast.tw14890465823733256402:True:=trivial
theorem PySem.W.Fast.tw10124164111194721728:True:=trivial
theorem PySem.W.Fast.tw17964558351266081952:True:=trivial
theorem PySem.W.Fast.tw11176314514016600270:True:=trivial
theorem PySem.W.Fast.tw12680984637735963444:True:=trivial
theorem PySem.W.Fast.tw17663943660949506040:True:=trivial
theorem PySem.W.Fast.tw2900245093800156857:True:=trivial
theorem PySem.W.Fast.tw407585307344501142:True:=trivial
theorem PySem.W.Fast.tw3993856269465885702:True:=trivial
theorem PySem.W.Fast.tw15884393379984872058:True:=trivial
theorem PySem.W.Fast.tw12497762735140766269:True:=trivial
theorem PySem.W.Fast.tw9245231640540298954:True:=trivial
theorem PySem.W.Fast.tw1448003244509937530:True:=trivial
theorem PySem.W.Fast.tw14437537744461584863:True:=trivial
theorem PySem.W.Fast.tw13233110765263541924:True:=trivial
theorem PySem.W.Fast.tw9921890255143649578:True:=trivial
theorem PySem.W.Fast.tw39006722736637882:True:=trivial
theorem PySem.W.Fast.tw11865080885710553476:True:=trivial
theorem PySem.W.Fast.tw7731148817755490588:True:=trivial
theorem PySem.W.Fast.tw3213726739930946282:True:=trivial
theorem PySem.W.Fast.tw827909236787119082:True:=trivial
theorem PySem.W.Fast.tw7669559560035002918:True:=trivial
theorem PySem.W.Fast.tw16874776125484639185:True:=trivial
theorem PySem.W.Fast.tw7483184095254857246:True:=trivial
theorem PySem.W.Fast.tw15403102765516088939:True:=trivial
theorem PySem.W.Fast.tw12319475479956314561:True:=trivial
theorem PySem.W.Fast.tw3149799159348569403:True:=trivial
theorem PySem.W.Fast.tw12000621045699963188:True:=trivial
theorem PySem.W.Fast.tw9240194797879566135:True:=trivial
theorem PySem.W.Fast.tw14620526222874353734:True:=trivial
theorem PySem.W.Fast.tw11852680893792929719:True:=trivial
theorem PySem.W.Fast.tw11601580046346548378:True:=trivial
theorem PySem.W.Fast.tw17551928069503429998:True:=trivial
theorem PySem.W.Fast.tw16831236827509815001:True:=trivial
theorem PySem.W.Fast.tw18276709906548796921:True:=trivial
theorem PySem.W.Fast.tw13830047133108719795:True:=trivial
theorem PySem.W.Fast.tw11040679665209576948:True:=trivial
theorem PySem.W.Fast.tw15433300518512276452:True:=trivial
theorem PySem.W.Fast.tw5629660778385218074:True:=trivial
theorem PySem.W.Fast.tw476345632156261287:True:=trivial
theorem PySem.W.Fast.tw609321042834266000:True:=trivial
theorem PySem.W.Fast.tw2691944824009211794:True:=trivial
theorem PySem.W.Fast.tw8600556716632530037:True:=trivial
theorem PySem.W.Fast.tw13373262096291401532:True:=trivial
theorem PySem.W.Fast.tw6781153212665864882:True:=trivial
theorem PySem.W.Fast.tw4081751377898640339:True:=trivial
theorem PySem.W.Fast.tw1749237686639609794:True:=trivial
theorem PySem.W.Fast.tw17282125489119353259:True:=trivial
theorem PySem.W.Fast.tw12027388344497643423:True:=trivial
theorem PySem.W.Fast.tw15850470205636311464:True:=trivial
theorem PySem.W.Fast.tw11329232030804078141:True:=trivial
theorem PySem.W.Fast.tw13704327804878264954:True:=trivial
theorem PySem.W.Fast.tw12928628749952620332:True:=trivial
theorem PySem.W.Fast.tw10648896922301703087:True:=trivial
theorem PySem.W.Fast.tw17851539334984070486:True:=trivial
theorem PySem.W.Fast.tw14578944966106289485:True:=trivial
theorem PySem.W.Fast.tw1122413678781440101:True:=trivial
theorem PySem.W.Fast.tw11351680108910776115:True:=trivial
theorem PySem.W.Fast.tw13782522242804223394:True:=trivial
theorem PySem.W.Fast.tw8497565217642144657:True:=trivial
theorem PySem.W.Fast.tw7958024045273535370:True:=trivial
theorem PySem.W.Fast.tw3580190646094589298:True:=trivial
theorem PySem.W.Fast.tw16771944677880086987:True:=trivial
theorem PySem.W.Fast.tw7428478115493560519:True:=trivial
theorem PySem.W.Fast.tw15059948536557782220:True:=trivial
theorem PySem.W.Fast.tw13299087352320664383:True:=trivial
theorem PySem.W.Fast.tw10651761348258611240:True:=trivial
theorem PySem.W.Fast.tw4349118916999329273:True:=trivial
theorem PySem.W.Fast.tw2817951572893079271:True:=trivial
theorem PySem.W.Fast.tw17650206410272512927:True:=trivial
theorem PySem.W.Fast.tw11468041521637276811:True:=trivial
theorem PySem.W.Fast.tw1026376042085782568:True:=trivial
theorem PySem.W.Fast.tw18109717656299856289:True:=trivial
theorem PySem.W.Fast.tw2018797817248514713:True:=trivial
theorem PySem.W.Fast.tw1668289425658220964:True:=trivial
theorem PySem.W.Fast.tw11945340565789926751:True:=trivial
theorem PySem.W.Fast.tw2104445511391741881:True:=trivial
theorem PySem.W.Fast.tw11445832288565069627:True:=trivial
theorem PySem.W.Fast.tw8928820076883199160:True:=trivial
theorem PySem.W.Fast.tw15483410506839214184:True:=trivial
theorem PySem.W.Fast.tw12360072172801079748:True:=trivial
theorem PySem.W.Fast.tw7667051985621537795:True:=trivial
theorem PySem.W.Fast.tw8697420075753714606:True:=trivial
theorem PySem.W.Fast.tw7551063670432264274:True:=trivial
theorem PySem.W.Fast.tw13274374565612525369:True:=trivial
theorem PySem.W.Fast.tw5104632090113857059:True:=trivial
theorem PySem.W.Fast.tw3073380819789038143:True:=trivial
theorem PySem.W.Fast.tw11736110357730541124:True:=trivial
theorem PySem.W.Fast.tw5100880029969599452:True:=trivial
theorem PySem.W.Fast.tw15360649050263702364:True:=trivial
set_option maxRecDepth 100000 in
set_option maxHeartbeats 0 in
theorem PySem.Challenge.cw_fewcounters_k76_codes_looked_at_holds : PySem.Challenge.rw_fewcounters_k76_codes_looked_at.Holds := by
 w_on;o_law;k_head;(case hw=>w_witness2)
 k_fill
 refine K1.walk (l:=PySem.Challenge.rw_fewcounters_k76_codes_looked_at) rfl rfl (λw h Y=>PySem.W.kIn_of Y) ?F
 case F=>
  intro w mg fa h KX G hmg
  have M:K1.bU (L2.bu KX) mg:=by
   dsimp only [L2.bu]
   refine' K1.vU KX G ?a1 ?a2 ?a3 ?a4 ?a5 ?a6 ?a7 ?a8 ?a9 ?a10 ?a11 ?a12 ?a13 ?a14 ?a15 ?g1 ?g2 ?b1 ?b2 ?b3 ?b4 ?b5 ?b6 ?b7 ?b8 ?b9 ?b10 ?b11 ?b12 ?b13 ?b14 ?b15
   (case a1=>k_is);(case a2=>k_is);(case a3=>k_is);(case a4=>k_is);(case a5=>k_is);(case a6=>k_is);(case a7=>k_is);(case a8=>k_is);(case a9=>k_is);(case a10=>k_is);(case a11=>k_is);(case a12=>k_is);(case a13=>k_is);(case a14=>k_is);(case a15=>k_is);(case g1=>k_is);(case g2=>k_is);(case b1=>k_is);(case b2=>k_is);(case b3=>k_is);(case b4=>k_is);(case b5=>k_is);(case b6=>k_is);(case b7=>k_is);(case b8=>k_is);(case b9=>k_is);(case b10=>k_is);(case b11=>k_is);(case b12=>k_is);(case b13=>k_is);(case b14=>k_is);(case b15=>k_is)
  have DFO:Fc.g9 (PySem.Challenge.rw_fewcounters_k76_codes_looked_at).prog w (L2.bu KX) mg "FORMS" K1.cw:=by
   dsimp only [L2.bu]
   refine' K1.rS KX G ?a ?l ?sm ?u1 ?u2 ?u3 ?u4 ?u5 ?u6 ?u7 ?u8
   (case a=>k_is);(case l=>k_is);(case sm=>rfl);(case u1=>k_is);(case u2=>k_is);(case u3=>k_is);(case u4=>k_is);(case u5=>k_is);(case u6=>k_is);(case u7=>k_is);(case u8=>k_is)
  have DX:K1.sY (L2.bu KX) mg:=by
   dsimp only [L2.bu]
   refine' K1.yF KX G ?e1 ?e2 ?e3 ?lk ?dn ?dk ?ni ?q1 ?i1 ?kc ?sa ?np ?r0 ?r1 ?r2 ?r3 ?r4 ?r5 ?r7 ?r6 ?l1 ?x1 ?x2 ?q2 ?q5 ?q6 ?ma1 ?ma2 ?ma3 ?ma4 ?ma5 ?ma6 ?ma7 ?ma8 ?ma9 ?qa ?mb1 ?mb2 ?mb3 ?mb4 ?mb5 ?mb6 ?mb7 ?qb
   (case e1=>k_is);(case e2=>k_is);(case e3=>k_is);(case lk=>k_is);(case dn=>k_is);(case dk=>rfl);(case ni=>k_is);(case q1=>k_exc);(case i1=>k_is);(case kc=>k_is);(case sa=>k_is);(case np=>k_is);(case r0=>k_is);(case r1=>k_is);(case r2=>k_is);(case r3=>k_is);(case r4=>k_is);(case r5=>k_is);(case r7=>k_is);(case r6=>k_is);(case l1=>k_is);(case x1=>k_is);(case x2=>k_is);(case q2=>kts_exm);(case q5=>kit_is);(case q6=>kit_is);(case ma1=>k_is);(case ma2=>k_is);(case ma3=>k_is);(case ma4=>k_is);(case ma5=>k_is);(case ma6=>k_is);(case ma7=>k_is);(case ma8=>k_is);(case ma9=>k_is);(case qa=>kit_is);(case mb1=>k_is);(case mb2=>k_is);(case mb3=>k_is);(case mb4=>k_is);(case mb5=>k_is);(case mb6=>k_is);(case mb7=>k_is);(case qb=>kit_is)
  have hX:mg "max"=none:=by
   have e:PySem.W.nsIn (L2.bu KX) mainGlobals "max"=some none:=by
    dsimp only [L2.bu]
    k_is
   exact PySem.W.mg_none_of KX G e
  have DMC:K1.oB (L2.bu KX) mg:=by
   dsimp only [L2.bu]
   refine' K1.vQ KX G ?aC ?a1 ?i1 ?l1 ?c1 ?k1 ?pg ?hd ?po ?sa ?mk ?kc ?o1 ?o2 ?o3 ?o4 ?o5 ?o6 ?o7 ?o8
   (case aC=>k_is);(case a1=>k_is);(case i1=>k_is);(case l1=>k_is);(case c1=>k_is);(case k1=>k_is);(case pg=>k_is);(case hd=>k_is);(case po=>k_is);(case sa=>k_is);(case mk=>k_is);(case kc=>k_is);(case o1=>k_is);(case o2=>k_is);(case o3=>k_is);(case o4=>k_is);(case o5=>k_is);(case o6=>k_is);(case o7=>k_is);(case o8=>k_is)
  have DTR:Fc.Def (L2.bu KX) mg "triples" K1.qz ["tuples"]:=by
   dsimp only [L2.bu]
   refine' Fc.bM KX G ?a ?l ?c ?k ?b
   (case a=>k_is);(case l=>k_is);(case c=>k_is);(case k=>k_is);(case b=>exact λ_ _ _ _ _ _ us hl=>match us,hl with | [_],_=>rfl)
  have DAS:Fc.Def (L2.bu KX) mg "ask" K1.ua ["machine","told","answer"]:=by
   dsimp only [L2.bu]
   refine' Fc.bM KX G ?a ?l ?c ?k ?b
   (case a=>k_is);(case l=>k_is);(case c=>k_is);(case k=>k_is);(case b=>exact λ_ _ _ _ _ _ us hl=>match us,hl with | [_,_,_],_=>rfl)
  have DCL:Fc.Def (L2.bu KX) mg "call" K1.tQ ["machine","told"]:=by
   dsimp only [L2.bu]
   refine' Fc.bM KX G ?a ?l ?c ?k ?b
   (case a=>k_is);(case l=>k_is);(case c=>k_is);(case k=>k_is);(case b=>exact λ_ _ _ _ _ _ us hl=>match us,hl with | [_,_],_=>rfl)
  have DSS:Fc.Def (L2.bu KX) mg "set_sum" K1.uo ["machine","number"]:=by
   dsimp only [L2.bu]
   refine' Fc.bM KX G ?a ?l ?c ?k ?b
   (case a=>k_is);(case l=>k_is);(case c=>k_is);(case k=>k_is);(case b=>exact λ_ _ _ _ _ _ us hl=>match us,hl with | [_,_],_=>rfl)
  have DGB:Fc.Def (L2.bu KX) mg "go_back" K1.ub ["machine"]:=by
   dsimp only [L2.bu]
   refine' Fc.bM KX G ?a ?l ?c ?k ?b
   (case a=>k_is);(case l=>k_is);(case c=>k_is);(case k=>k_is);(case b=>exact λ_ _ _ _ _ _ us hl=>match us,hl with | [_],_=>rfl)
  have DST:Fc.Def (L2.bu KX) mg "still_at" K1.uf ["machine","code","answers","bound"]:=by
   dsimp only [L2.bu]
   refine' Fc.bM KX G ?a ?l ?c ?k ?b
   (case a=>k_is);(case l=>k_is);(case c=>k_is);(case k=>k_is);(case b=>exact λ_ _ _ _ _ _ us hl=>match us,hl with | [_,_,_,_],_=>rfl)
  have DDN:Fc.Def (L2.bu KX) mg "do_next" K1.pF ["machine","code","answers"]:=by
   dsimp only [L2.bu]
   refine' Fc.bM KX G ?a ?l ?c ?k ?b
   (case a=>k_is);(case l=>k_is);(case c=>k_is);(case k=>k_is);(case b=>exact λ_ _ _ _ _ _ us hl=>match us,hl with | [_,_,_],_=>rfl)
  have DSO:Fc.Def (L2.bu KX) mg "state_of" K1.m8 ["machine"]:=by
   dsimp only [L2.bu]
   refine' Fc.bM KX G ?a ?l ?c ?k ?b
   (case a=>k_is);(case l=>k_is);(case c=>k_is);(case k=>k_is);(case b=>exact λ_ _ _ _ _ _ us hl=>match us,hl with | [_],_=>rfl)
  have DBE:Fc.Def (L2.bu KX) mg "begun" K1.tF []:=by
   dsimp only [L2.bu]
   refine' Fc.bM KX G ?a ?l ?c ?k ?b
   (case a=>k_is);(case l=>k_is);(case c=>k_is);(case k=>k_is);(case b=>exact λ_ _ _ _ _ _ us hl=>match us,hl with | [],_=>rfl)
  have DIW:Fc.Def (L2.bu KX) mg "is_whole" K1.rf ["value"]:=by
   dsimp only [L2.bu]
   refine' Fc.bM KX G ?a ?l ?c ?k ?b
   (case a=>k_is);(case l=>k_is);(case c=>k_is);(case k=>k_is);(case b=>exact λ_ _ _ _ _ _ us hl=>match us,hl with | [_],_=>rfl)
  have DAW:Fc.Def (L2.bu KX) mg "are_whole" K1.qw ["values"]:=by
   dsimp only [L2.bu]
   refine' Fc.bM KX G ?a ?l ?c ?k ?b
   (case a=>k_is);(case l=>k_is);(case c=>k_is);(case k=>k_is);(case b=>exact λ_ _ _ _ _ _ us hl=>match us,hl with | [_],_=>rfl)
  have DNA:Fc.Def (L2.bu KX) mg "need_answers" K1.rA ["answers","bound"]:=by
   dsimp only [L2.bu]
   refine' Fc.bM KX G ?a ?l ?c ?k ?b
   (case a=>k_is);(case l=>k_is);(case c=>k_is);(case k=>k_is);(case b=>exact λ_ _ _ _ _ _ us hl=>match us,hl with | [_,_],_=>rfl)
  have DIN:Fc.Def (L2.bu KX) mg "is_number_of" K1.qd ["value","wanted","size"]:=by
   dsimp only [L2.bu]
   refine' Fc.bM KX G ?a ?l ?c ?k ?b
   (case a=>k_is);(case l=>k_is);(case c=>k_is);(case k=>k_is);(case b=>exact λ_ _ _ _ _ _ us hl=>match us,hl with | [_,_,_],_=>rfl)
  have DIT:Fc.Def (L2.bu KX) mg "is_tuple_of_code" K1.iX ["told","size"]:=by
   dsimp only [L2.bu]
   refine' Fc.bM KX G ?a ?l ?c ?k ?b
   (case a=>k_is);(case l=>k_is);(case c=>k_is);(case k=>k_is);(case b=>exact λ_ _ _ _ _ _ us hl=>match us,hl with | [_,_],_=>rfl)
  have DLC:Fc.Def (L2.bu KX) mg "look_code" K1.pD ["code"]:=by
   dsimp only [L2.bu]
   refine' Fc.bM KX G ?a ?l ?c ?k ?b
   (case a=>k_is);(case l=>k_is);(case c=>k_is);(case k=>k_is);(case b=>exact λ_ _ _ _ _ _ us hl=>match us,hl with | [_],_=>rfl)
  have DSP:Fc.Def (L2.bu KX) mg "step" K1.p6 ["code","state","answers","bound"]:=by
   dsimp only [L2.bu]
   refine' Fc.bM KX G ?a ?l ?c ?k ?b
   (case a=>k_is);(case l=>k_is);(case c=>k_is);(case k=>k_is);(case b=>exact λ_ _ _ _ _ _ us hl=>match us,hl with | [_,_,_,_],_=>rfl)
  have DRC:Fc.Def (L2.bu KX) mg "run_code" K1.pQ ["code","answers","bound"]:=by
   dsimp only [L2.bu]
   refine' Fc.bM KX G ?a ?l ?c ?k ?b
   (case a=>k_is);(case l=>k_is);(case c=>k_is);(case k=>k_is);(case b=>exact λ_ _ _ _ _ _ us hl=>match us,hl with | [_,_,_],_=>rfl)
  have DWH:Fc.Def (L2.bu KX) mg "_law_whole" K1.qr ["_law_found"]:=by
   dsimp only [L2.bu]
   refine' Fc.bM KX G ?a ?l ?c ?k ?b
   (case a=>k_is);(case l=>k_is);(case c=>k_is);(case k=>k_is);(case b=>exact λ_ _ _ _ _ _ us hl=>match us,hl with | [_],_=>rfl)
  have DDW:Fc.Def (L2.bu KX) mg "_law_draws" K1.tR ["_law_script","_law_many"]:=by
   dsimp only [L2.bu]
   refine' Fc.bM KX G ?a ?l ?c ?k ?b
   (case a=>k_is);(case l=>k_is);(case c=>k_is);(case k=>k_is);(case b=>exact λ_ _ _ _ _ _ us hl=>match us,hl with | [_,_],_=>rfl)
  have DLN:Fc.Def (L2.bu KX) mg "_law_line" K1.um ["_law_number","_law_many"]:=by
   dsimp only [L2.bu]
   refine' Fc.bM KX G ?a ?l ?c ?k ?b
   (case a=>k_is);(case l=>k_is);(case c=>k_is);(case k=>k_is);(case b=>exact λ_ _ _ _ _ _ us hl=>match us,hl with | [_,_],_=>rfl)
  have DFT:Fc.Def (L2.bu KX) mg "_law_fits" K1.iT ["_law_line_here","_law_many"]:=by
   dsimp only [L2.bu]
   refine' Fc.bM KX G ?a ?l ?c ?k ?b
   (case a=>k_is);(case l=>k_is);(case c=>k_is);(case k=>k_is);(case b=>exact λ_ _ _ _ _ _ us hl=>match us,hl with | [_,_],_=>rfl)
  have DBN:Fc.Def (L2.bu KX) mg "_law_bent" K1.uj ["_law_line_here","_law_way","_law_many"]:=by
   dsimp only [L2.bu]
   refine' Fc.bM KX G ?a ?l ?c ?k ?b
   (case a=>k_is);(case l=>k_is);(case c=>k_is);(case k=>k_is);(case b=>exact λ_ _ _ _ _ _ us hl=>match us,hl with | [_,_,_],_=>rfl)
  have DCG:Fc.Def (L2.bu KX) mg "_law_caught" K1.tZ ["_law_way","_law_code"]:=by
   dsimp only [L2.bu]
   refine' Fc.bM KX G ?a ?l ?c ?k ?b
   (case a=>k_is);(case l=>k_is);(case c=>k_is);(case k=>k_is);(case b=>exact λ_ _ _ _ _ _ us hl=>match us,hl with | [_,_],_=>rfl)
  have DRF:Fc.Def (L2.bu KX) mg "_law_refused" K1.tX ["_law_caught_here","_law_place"]:=by
   dsimp only [L2.bu]
   refine' Fc.bM KX G ?a ?l ?c ?k ?b
   (case a=>k_is);(case l=>k_is);(case c=>k_is);(case k=>k_is);(case b=>exact λ_ _ _ _ _ _ us hl=>match us,hl with | [_,_],_=>rfl)
  refine' K1.yI KX G hmg ⟨M,DFO,hX,DX,DMC,DTR,DAS,DCL,DSS,DGB,DST,DDN,DSO,DBE,DIW,DAW,DNA,DIN,DIT,DLC,DSP,DRC,DWH,DDW,DLN,DFT,DBN,DCG,DRF⟩ ?a ?l ?c ?k
  (case a=>k_is);(case l=>k_is);(case c=>k_is);(case k=>k_is)
