import PyProof.Rows.All
import Wide.All
import OpenK.AllK
import Wide.FinOn
import PyProof.EqAt
import PyProof.EqKinds
import PyProof.TupleCall
import PySem.Syntax
import PySem.Sem
import PyProof.NeKinds
import PyProof.TupleKey
import KE.KSortTup
import OpenK.KOwn
import KE.KTryMore
import PyProof.NsDelKeeps
import PyProof.RulesAs
import PyProof.ListRange
import PyProof.Rows.SortRev
import PySem.SetOps
import PyProof.SetKind
import PyProof.DictKinds
import PyProof.Rows.SetFrom
import PyProof.WalksMore
import PyProof.FactsAll.set_1
import PyProof.FactsBase
import PyProof.TableTree
import PyProof.FactsTree
import PyProof.PlainAttrs
import PyProof.TableCode
import PySem.Challenge.RW_learnyard_k10_whole_rows
noncomputable section
set_option Elab.async false
set_option linter.all false
set_option maxRecDepth 100000
namespace L2
open PySem PySem.Spec PyProof.Rows
abbrev Key:=Sum Int Str
def qA9:Key->Value->Bool
 | .inl k,v=>Value.isInt k v
 | .inr x,v=>Value.isStrOf x v
def keyH (w:World):Key->Int
 | .inl k=>hashInt k
 | .inr x=>hashStr w x
theorem q0U:∀{k:Key}{v:Value},qA9 k v=true->(∃i t,k=Sum.inl i/\v=Value.int i t)\/(∃x t,k=Sum.inr x/\v=Value.str x t)
 | .inl i,v,h=>by obtain⟨t,e⟩:=Value.isInt_shape (k:=i) (v:=v) h;exact .inl ⟨i,t,rfl,e⟩
 | .inr x,v,h=>by obtain⟨t,e⟩:=Value.isStrOf_shape (x:=x) (v:=v) h;exact .inr ⟨x,t,rfl,e⟩
theorem qAk (i:Int) (t:Tok):qA9 (.inl i) (.int i t)=true:=by simp[qA9,Value.isInt]
theorem qAl (x:Str) (t:Tok):qA9 (.inr x) (.str x t)=true:=by simp[qA9,Value.isStrOf]
theorem qHm (a b:Int):decide ((Sum.inl a:Key)=Sum.inl b)=(a==b):=by
 by_cases e:a=b
 ·subst e;simp
 ·have h:¬(Sum.inl a:Key)=Sum.inl b:=λ q=>e (Sum.inl.inj q);rw[decide_eq_false h];exact (beq_eq_false_iff_ne.mpr e).symm
theorem qHn (a b:Str):decide ((Sum.inr a:Key)=Sum.inr b)=decide (a=b):=by
 by_cases e:a=b
 ·subst e;simp
 ·have h:¬(Sum.inr a:Key)=Sum.inr b:=λ q=>e (Sum.inr.inj q);rw[decide_eq_false h,decide_eq_false e]
theorem qHo (a:Int) (b:Str):decide ((Sum.inl a:Key)=Sum.inr b)=false:=decide_eq_false (λ q=>nomatch q)
theorem qHp (a:Str) (b:Int):decide ((Sum.inr a:Key)=Sum.inl b)=false:=decide_eq_false (λ q=>nomatch q)
def q0f (prog:Program) (w:World):PySem.KeyKind prog w Key where
 is:=qA9
 hash:=keyH w
 inj:=λ v a b ha hb=>by
  rcases q0U ha with ⟨i,t,rfl,rfl⟩|⟨x,t,rfl,rfl⟩
  ·rcases q0U hb with ⟨j,u,rfl,e⟩|⟨y,u,rfl,e⟩
   ·injection e with e1 _;rw[e1]
   ·exact nomatch e
  ·rcases q0U hb with ⟨j,u,rfl,e⟩|⟨y,u,rfl,e⟩
   ·exact nomatch e
   ·injection e with e1 _;rw[e1]
 byValue:=λ k v h=>by rcases q0U h with ⟨i,t,rfl,rfl⟩|⟨x,t,rfl,rfl⟩<;>rfl
 pyHash:=λ hv h=>by
  rcases q0U hv with ⟨i,t,rfl,rfl⟩|⟨x,t,rfl,rfl⟩
  ·exact wpAny_pyHash_int h
  ·exact wpAny_pyHash_str h
 eqBool:=λ hu hv h=>by
  rcases q0U hu with ⟨i,t,rfl,rfl⟩|⟨x,t,rfl,rfl⟩
  ·rcases q0U hv with ⟨j,u,rfl,rfl⟩|⟨y,u,rfl,rfl⟩
   ·rw[qHm] at h;exact wpAny_eqBool_int h
   ·rw[qHo] at h;exact SeqAt.EqAt.int_str i t y u _ _ _ _ h
  ·rcases q0U hv with ⟨j,u,rfl,rfl⟩|⟨y,u,rfl,rfl⟩
   ·rw[qHp] at h;exact SeqAt.EqAt.str_int x t j u _ _ _ _ h
   ·rw[qHn] at h;exact wpAny_eqBool_str h
 «strs»:=λ k x t v h=>by
  rcases q0U h with ⟨i,u,rfl,e⟩|⟨y,u,rfl,e⟩
  ·exact nomatch e
  ·injection e with e1 _
   subst e1;cases v<;>rfl
theorem q87 (prog:Program) (w:World) (i:Int) (t:Tok):(q0f prog w).is (.inl i) (.int i t)=true:=qAk i t
theorem q88 (prog:Program) (w:World) (x:Str) (t:Tok):(q0f prog w).is (.inr x) (.str x t)=true:=qAl x t
end L2
namespace L2
open PySem PySem.Spec PyProof.Rows
variable {b:Addr}
inductive V where
 |non|bl (b:Bool)|int (i:Int)|str (x:Str)|byt (b:Array UInt8)|flt (b:UInt64)|ref (a:Addr)|ty (n:String)
 deriving DecidableEq
def RelV:V->Value->Prop
 | .non,u=>u=Value.none
 | .bl b,u=>u=Value.bool b
 | .int i,u=>∃t,u=Value.int i t
 | .str x,u=>∃t,u=Value.str x t
 | .byt b,u=>∃t,u=Value.bytes b t
 | .flt b,u=>∃t,u=Value.float b t
 | .ref a,u=>u=Value.ref a
 | .ty n,u=>u=Value.type n
abbrev Vals:List V->List Value->Prop:=Paired RelV
theorem Vals.length {xs:List V}{us:List Value}(r:Vals xs us):xs.length=us.length:=Paired.length r
theorem Vals.get:∀{xs:List V}{us:List Value}{i:Nat}{x:V},Vals xs us->xs[i]? = some x->∃u,us[i]? = some u/\RelV x u
 |_,_,_,_,.nil,e=>by simp at e
 |_,_,0,_,.cons r _,e=>by simp at e;subst e;exact⟨_,rfl,r⟩
 |_,_,i+1,x,.cons _ t,e=>by obtain⟨u,h1,h2⟩:=Vals.get (i:=i) (x:=x) t (by simpa using e);exact⟨u,by simpa using h1,h2⟩
theorem Vals.append:∀{xs ys:List V}{us ws:List Value},Vals xs us->Vals ys ws->Vals (xs++ys) (us++ws)
 |_,_,_,_,.nil,s=>s
 |_,_,_,_,.cons r t,s=> .cons r (Vals.append t s)
theorem Vals.take:∀{xs:List V}{us:List Value}(n:Nat),Vals xs us->Vals (xs.take n) (us.take n)
 |_,_,0,_=> .nil
 |_,_,_+1,.nil=> .nil
 |_,_,n+1,.cons r t=> .cons r (Vals.take n t)
theorem Vals.drop:∀{xs:List V}{us:List Value}(n:Nat),Vals xs us->Vals (xs.drop n) (us.drop n)
 |_,_,0,r=>r
 |_,_,_+1,.nil=> .nil
 |_,_,n+1,.cons _ t=>Vals.drop n t
theorem Vals.none_of:∀{xs:List V}{us:List Value}{i:Nat},Vals xs us->xs[i]? = none->us[i]? = none:=λ {xs us i} r e=>by have h1:=r.length;have h2:xs.length<=i:=List.getElem?_eq_none_iff.mp e;exact List.getElem?_eq_none_iff.mpr (by lia)
def RelO:Option V->Option Value->Prop
 |some v,some u=>RelV v u
 |none,none=>True
 |_,_=>False
def KV {κ:Type}:List (κ×V)->List (κ×Value)->Prop:=Paired λ (p:κ×V) (q:κ×Value)=>p.1=q.1/\RelV p.2 q.2
def kV:Key->V
 | .inl i=> .int i
 | .inr x=> .str x
inductive HO where
 /-- a list -/
 |lst (xs:List V)
 /-- a tuple (never changes) -/
 |tup (xs:List V)
 /-- a dict whose keys are ints and texts;one whose keys are tuples of ints and texts (the empty one is both) -/
 |dK (kvs:List (Key×V))|dT (kvs:List (List Key×V))
 /-- a set of ints: its members,its size -/
 |set (S:Int->Bool) (n:Nat)
 /-- an instance of the class at C,its dict at dx,its attributes -/
 |ins (C dx:Addr) (fs:List (Str×V))
 /-- the dict of the instance at x -/
 |own (x:Addr)
 /-- the dict of an exception -/
 |xd (fs:List (Str×V))
 /-- a bound method,f of x -/
 |met (f x:Addr)
 /-- a range object lo,lo+1,.. below hi -/
 |rng (lo hi:Int)
 /-- a thing that is known to the object (the script;a dict while a loop walks it): read,never written while it is so -/
 |frz (o:Obj) (u:HO)
 /-- a code object's table -/
 |tbl (ps:Array Value)
 /-- any other thing,by what is true of its one object (a def of one's own: SetO a S n:=HO.ext λ h=> ..) -/
 |ext (φ:Heap->Prop)
abbrev Hp:=Addr->Option HO
def upd (H:Hp) (a:Addr) (o:HO):Hp:=λ b=>if b=a then some o else H b
theorem q0E {H:Hp}{a:Addr}{o:HO}:upd H a o a=some o:=by unfold upd;rw[if_pos rfl]
theorem q06 {H:Hp}{a:Addr}{o:HO}(h:b≠a):upd H a o b=H b:=by unfold upd;rw[if_neg h]
theorem qKU {H:Hp}{a:Addr}{o u:HO}(h:H a=some o) (h':H b=some u) (d:o≠u):a≠b:=by intro e;subst e;rw[h] at h';exact d (Option.some.inj h')
theorem q08 {H:Hp}{a:Addr}{o:HO}(h:H a=some o) (h':H b=none):a≠b:=by intro e;subst e;rw[h] at h';cases h'
section
variable (P:Program) (w:World)
def q1T (H:Hp) (h:Heap) (a:Addr):HO->Prop
 | .lst xs=>xs.length<=sizeLine/\∃(its:List Value) (n:Nat),Vals xs its/\h.get? a=some {cls:= .type "list",data:= .seq its.toArray n}
 | .tup xs=>xs.length<=sizeLine/\∃its:List Value,Vals xs its/\IsTup h a its.toArray
 | .dK kvs=>kvs.length<=sizeLine/\(a==sysModules)=false/\∃vs,KV kvs vs/\h.DictOf (q0f P w) a vs
 | .dT kvs=>kvs.length<=sizeLine/\(a==sysModules)=false/\∃xs:List (List Key×Addr×Value),
   Paired (λ (p:List Key×V) (q:List Key×Addr×Value)=>p.1=q.1/\H q.2.1=some (.tup (p.1.map kV))/\RelV p.2 q.2.2) kvs xs/\
   ∃o es ep,h.get? a=some o/\o.ExactDict/\o.data = .dict es ep/\es.toList=xs.map (entryOfKey (tupleKind (q0f P w)))/\(xs.map (·.1)).Nodup
 | .set S n=>h.SetOf (intKind P w) a S n
 | .ins C dx fs=>H dx=some (.own a)/\fs.length<=1000/\dx≠a/\h.get? a=some (PySem.W.instObj C dx)/\
   ∃mA,h.Ns1 dx mA/\(∀f,RelO (fs.lookup f) (mA f))/\PySem.Within mA (fs.map (·.1))
 | .own _=>∃o,h.get? a=some o
 | .xd fs=>∃mA,h.Ns1 a mA/\∀f,RelO (fs.lookup f) (mA f)
 | .rng lo hi=>∃t u v,h.get? a=some {cls:= .type "range",data:= .fields #[.int lo t,.int hi u,.int 1 v]}
 | .frz o u=>h.get? a=some o/\q1T H h a u
 | .tbl ps=>h.get? a=some {cls:= .none,data:= .fields ps}
 | .met f x=>h.get? a=some (PySem.W.methodObj (.ref f) (.ref x))
 | .ext φ=>φ h/\(∃o,h.get? a=some o)/\∀h1 h2:Heap,φ h1->(∀o,h1.get? a=some o->h2.get? a=some o)->φ h2
def HOk (H:Hp) (h:Heap):Prop:=∀a o,H a=some o->q1T P w H h a o
end
section
variable {P:Program}{w:World}{H H':Hp}{h h':Heap}{a:Addr}{o:HO}
theorem q1T.lt (x:q1T P w H h a o):a<h.objs.size:=by
 cases o with
 |lst xs=>obtain⟨_,_,_,_,e⟩:=x;exact Heap.lt_size e
 |tup xs=>obtain⟨_,_,_,p⟩:=x;exact p.lt
 |dK kvs=>obtain⟨_,_,_,_,o,_,_,e,_⟩:=x;exact Heap.lt_size e
 |dT kvs=>obtain⟨_,_,_,_,o,_,_,e,_⟩:=x;exact Heap.lt_size e
 |set S n=>obtain⟨o,_,_,_,e,_⟩:=x;exact Heap.lt_size e
 |ins C dx fs=>obtain⟨_,_,_,e,_⟩:=x;exact Heap.lt_size e
 |own y=>obtain⟨_,e⟩:=x;exact Heap.lt_size e
 |xd fs=>obtain⟨_,⟨_,_,_,e,_⟩,_⟩:=x;exact Heap.lt_size e
 |rng lo hi=>obtain⟨_,_,_,e⟩:=x;exact Heap.lt_size e
 |frz ob u=>obtain⟨e,_⟩:=x;exact Heap.lt_size e
 |tbl ps=>exact Heap.lt_size (show h.get? a=some _ from x)
 |met f y=>exact Heap.lt_size (show h.get? a=some _ from x)
 |ext φ=>obtain⟨_,⟨_,e⟩,_⟩:=x;exact Heap.lt_size e
theorem Paired.mapP {α β:Type}{F G:α->β->Prop}:∀{l₁:List α}{l₂:List β},Paired F l₁ l₂->(∀a b,F a b->G a b)->Paired G l₁ l₂
 |_,_,.nil,_=> .nil
 |_,_,.cons r t,f=> .cons (f _ _ r) (Paired.mapP t f)
theorem q1T.stay (x:q1T P w H h a o) (k:∀b u,(b=a\/H b=some (.own a))->h.get? b=some u->h'.get? b=some u)
  (ho:∀b,H b=some (.own a)->H' b=some (.own a)) (ht:∀b xs,H b=some (.tup xs)->H' b=some (.tup xs)):q1T P w H' h' a o:=by
 induction o with
 |lst xs=>obtain⟨z,its,n,r,e⟩:=x;exact⟨z,its,n,r,k _ _ (.inl rfl) e⟩
 |tup xs=>obtain⟨z,its,r,ob,e,c⟩:=x;exact⟨z,its,r,ob,k _ _ (.inl rfl) e,c⟩
 |dK kvs=>obtain⟨z,y,vs,r,ob,es,ep,e,c⟩:=x;exact⟨z,y,vs,r,ob,es,ep,k _ _ (.inl rfl) e,c⟩
 |dT kvs =>
  obtain⟨z,y,xs,r,ob,es,ep,e,c⟩:=x;exact⟨z,y,xs,Paired.mapP r λ p q z=>⟨z.1,ht _ _ z.2.1,z.2.2⟩,ob,es,ep,k _ _ (.inl rfl) e,c⟩
 |set S n=>obtain⟨ob,es,ep,t,e,c⟩:=x;exact⟨ob,es,ep,t,k _ _ (.inl rfl) e,c⟩
 |ins C dx fs =>
  obtain⟨d,z,ne,e,mA,⟨od,es,ep,e2,c⟩,r⟩:=x;exact⟨ho _ d,z,ne,k _ _ (.inl rfl) e,mA,⟨od,es,ep,k _ _ (.inr d) e2,c⟩,r⟩
 |own y=>obtain⟨ob,e⟩:=x;exact⟨ob,k _ _ (.inl rfl) e⟩
 |xd fs=>obtain⟨mA,⟨od,es,ep,e,c⟩,r⟩:=x;exact⟨mA,⟨od,es,ep,k _ _ (.inl rfl) e,c⟩,r⟩
 |rng lo hi=>obtain⟨t,u,v,e⟩:=x;exact⟨t,u,v,k _ _ (.inl rfl) e⟩
 |frz ob u ih=>obtain⟨e,q⟩:=x;exact⟨k _ _ (.inl rfl) e,ih q⟩
 |tbl ps =>
  have e:h.get? a=some {cls:= .none,data:= .fields ps}:=x;show h'.get? a=some {cls:= .none,data:= .fields ps};exact k a _ (.inl rfl) e
 |met f y =>
  have e:h.get? a=some (PySem.W.methodObj (.ref f) (.ref y)):=x;show h'.get? a=some (PySem.W.methodObj (.ref f) (.ref y));exact k a _ (.inl rfl) e
 |ext φ=>obtain⟨p,⟨o,e⟩,st⟩:=x;exact⟨st _ _ p λ o q=>k _ _ (.inl rfl) q,⟨o,k _ _ (.inl rfl) e⟩,st⟩
theorem HOk.lt (x:HOk P w H h) (e:H a=some o):a<h.objs.size:=(x a o e).lt
theorem HOk.fresh (x:HOk P w H h) (e:h.objs.size<=a):H a=none:=by
 cases q:H a with
 |none=>rfl
 |some u=>exact absurd (Nat.lt_of_lt_of_le (x.lt q) e) (Nat.lt_irrefl _)
theorem HOk.kept (x:HOk P w H h) (k:∀b u,h.get? b=some u->h'.get? b=some u):HOk P w H h':=λ a o e =>
 (x a o e).stay (λ b u _ q=>k b u q) (λ _ q=>q) λ _ _ q=>q
theorem HOk.laid (x:HOk P w H h) (k:∀b u,h.get? b=some u->h'.get? b=some u) (hp:h.objs.size<=a) (new:q1T P w (upd H a o) h' a o):HOk P w (upd H a o) h':=λ b u e=>by
 have hn:=x.fresh hp
 by_cases hb:b=a
 ·subst hb;rw[q0E] at e;cases e;exact new
 ·rw[q06 hb] at e;exact (x b u e).stay (λ c v _ q=>k c v q) (λ c q=>by rw[q06 (q08 q hn)];exact q) λ c xs q=>by rw[q06 (q08 q hn)];exact q
end
def Rd (H:Hp) (a:Addr) (u:HO):Prop:=H a=some u\/∃o,H a=some (.frz o u)
theorem Rd.ok {P:Program}{w:World}{H:Hp}{h:Heap}{a:Addr}{u:HO}(r:Rd H a u) (x:HOk P w H h):q1T P w H h a u:=by
 rcases r with r|⟨o,r⟩
 ·exact x a u r
 ·obtain⟨_,q⟩:=x a _ r;exact q
def Mut:Option HO->Prop
 |some (.lst _)=>True
 |some (.dK _)=>True
 |some (.dT _)=>True
 |some (.set _ _)=>True
 |some (.ins _ _ _)=>True
 |some (.ext _)=>True
 |_=>False
section
variable {P:Program}{w:World}{H:Hp}{h h':Heap}{x e:Addr}{o':HO}
theorem HOk.write (ok:HOk P w H h) (mu:Mut (H x)) (he:e=x\/H e=some (.own x)) (k:∀b u,b≠e->h.get? b=some u->h'.get? b=some u) (heo:∃u,h'.get? e=some u)
  (new:q1T P w (upd H x o') h' x o'):HOk P w (upd H x o') h':=λ b u q=>by
 have nown:∀c y,H c=some (.own y)->c≠x:=λ c y r z=>by subst z;rw[r] at mu;exact mu
 have ntup:∀c xs,H c=some (.tup xs)->c≠x:=λ c xs r z=>by subst z;rw[r] at mu;exact mu
 by_cases hb:b=x
 ·subst hb;rw[q0E] at q;cases q;exact new
 ·rw[q06 hb] at q
  by_cases hbe:b=e
  ·have q':H b=some (.own x):=by
    rcases he with z|z
    ·exact absurd (hbe.trans z) hb
    ·rw[hbe];exact z
   rw[q] at q';cases q';obtain⟨v,hv⟩:=heo;exact⟨v,by rw[hbe];exact hv⟩
  ·refine (ok b u q).stay (λ c v hc r=>k c v ?_ r) (λ c r=>by rw[q06 (nown c b r)];exact r) λ c xs r=>by rw[q06 (ntup c xs r)];exact r
   rcases hc with rfl|hc
   ·exact hbe
   ·rintro rfl;rcases he with z|z
    ·exact nown c b hc z
    ·rw[hc] at z;cases z;exact hb rfl
end
structure Un (fs ex:List Addr) (H H':Hp) (h h':Heap):Prop where
 keep:∀b o,h.get? b=some o->H b=none->b∉fs->b∉ex->h'.get? b=some o
 slot:∀b o,h.get? b=some o->H b=none->b∈fs->b∉ex->∃sl,h'.get? b=some {o with slots:=sl}
 free:∀b o,h.get? b=some o->H b=none->b∉ex->H' b=none
 there:∀b o,h.get? b=some o->b∉ex->∃o',h'.get? b=some o'
 tups:∀b xs,H b=some (.tup xs)->H' b=some (.tup xs)
 frzs:∀b o u,H b=some (.frz o u)->H' b=some (.frz o u)
 tbls:∀b ps,H b=some (.tbl ps)->∃more,H' b=some (.tbl (ps++more))
section
variable {fs fs' ex ex':List Addr}{H H1 H2:Hp}{h h1 h2 h':Heap}{a x e:Addr}{o:HO}
theorem Un.any (u:Un fs ex H H1 h h1) {ob:Obj}(q:h.get? b=some ob) (n:H b=none) (hx:b∉ex):∃sl,h1.get? b=some {ob with slots:=sl}:=by
 by_cases hb:b∈fs
 ·exact u.slot b ob q n hb hx
 ·exact⟨ob.slots,u.keep b ob q n hb hx⟩
theorem Un.kept (k:∀b u,h.get? b=some u->h'.get? b=some u):Un fs ex H H h h' :=
 ⟨λ b ob q _ _ _=>k b ob q,λ b ob q _ _ _=>⟨ob.slots,k b ob q⟩,λ _ _ _ n _=>n,λ b ob q _=>⟨ob,k b ob q⟩,λ _ _ q=>q,λ _ _ _ q=>q,λ _ ps q=>⟨#[],by rw[q];simp⟩⟩
theorem Un.refl:Un fs ex H H h h:=Un.kept λ _ _ q=>q
theorem Un.laid (k:∀b u,h.get? b=some u->h'.get? b=some u) (hp:h.objs.size<=a) (hn:H a=none):Un fs ex H (upd H a o) h h' where
 keep:=λ b u q _ _ _=>k b u q
 slot:=λ b u q _ _ _=>⟨u.slots,k b u q⟩
 free:=λ b u q n _=>by rw[q06 (Nat.ne_of_lt (Nat.lt_of_lt_of_le (Heap.lt_size q) hp))];exact n
 there:=λ b u q _=>⟨u,k b u q⟩
 tups:=λ b xs q=>by rw[q06 (q08 q hn)];exact q
 frzs:=λ b u xs q=>by rw[q06 (q08 q hn)];exact q
 tbls:=λ b ps q=>⟨#[],by rw[q06 (q08 q hn),q];simp⟩
theorem Un.write (mu:Mut (H x)) (he:e=x\/H e=some (.own x)) (k:∀b u,b≠e->h.get? b=some u->h'.get? b=some u) (heo:∃u,h'.get? e=some u):Un fs ex H (upd H x o) h h':=by
 have hx:∀b,H b=none->b≠x:=λ b n z=>by subst z;rw[n] at mu;exact mu
 have hb:∀b,H b=none->b≠e:=λ b n z=>by
  subst z;rcases he with r|r
  ·exact hx b n r
  ·rw[n] at r;cases r
 have hm:∀b u,H b=some u->¬Mut (some u)->b≠x:=λ b u q nm z=>by subst z;rw[q] at mu;exact nm mu
 refine⟨λ b u q n _ _=>k b u (hb b n) q,λ b u q n _ _=>⟨u.slots,k b u (hb b n) q⟩,λ b u q n _=>by rw[q06 (hx b n)];exact n,λ b u q _=>?_,
  λ b xs q=>by rw[q06 (hm b _ q λ z=>z)];exact q,λ b u xs q=>by rw[q06 (hm b _ q λ z=>z)];exact q,λ b ps q=>⟨#[],by rw[q06 (hm b _ q λ z=>z),q];simp⟩⟩
 by_cases hbe:b=e
 ·subst hbe;exact heo
 ·exact⟨u,k b u hbe q⟩
end
def trk (h:Heap) (H:Hp):List Addr:=(List.range h.objs.size).filter λ a=>(H a).isSome
def hidT (h:Heap) (H:Hp):Heap:=PySem.W.hideAll h (trk h H)
theorem qAm (h:Heap) (H:Hp):(hidT h H).objs.size=h.objs.size:=PySem.W.hideAll_size _ _
theorem qD7 {h:Heap}{H:Hp}{o:Obj}(e:h.get? b=some o) (n:H b=none):(hidT h H).get? b=some o :=
 PySem.W.hideAll_get _ e λ hm=>by have q:(H b).isSome=true:=(List.mem_filter.mp hm).2;rw[n] at q;simp at q
theorem qFR {h:Heap}{H:Hp}{o:Obj}(e:(hidT h H).get? b=some o):h.get? b=some o/\H b=none:=by
 have e':h.get? b=some o:=PySem.W.of_hideAll (trk h H) e;refine⟨e',?_⟩;cases q:H b with
 |none=>rfl
 |some x =>
  have hm:b∈trk h H:=List.mem_filter.mpr ⟨List.mem_range.mpr (Heap.lt_size e'),by simp[q]⟩;have z:(hidT h H).get? b=none:=PySem.W.hideAll_none (trk h H) hm;rw[z] at e;cases e
end L2
namespace L2
open PySem PySem.Spec PyProof.Rows
variable {t' i:Nat}{ch:List Addr}{x:Str}{M:Model}{A:Around}{E:Value->Shared->Prop}
structure Mod (K:PySem.W.Frag) (mg:Str->Option Value) (base:Heap):Prop where
 kin:K.In base
 glob:base.Ns mainGlobals mg
 blt:∃mb,base.Ns builtinsNs mb/\∀x:Str,x ≠ "__name__"->mb x=bootBuiltins x
 nolimit:base.NoLimit
structure Cx where
 prog:Program
 w:World
 K:PySem.W.Frag
 mg:Str->Option Value
 base:Heap
 A:Around
 N:List Str
 s₀:Shared
 H₀:Hp
 env:Env
 outer:List Env
 stack:List Env
 ex:List Addr
 fn:Str->Bool
 calm:Bool
 pn:List (Addr×Obj)
 xe:Value->Shared->Prop
def frs (l:List Env):List Addr:=l.filterMap (·.frame)
abbrev Cx.fs (X:Cx):List Addr:=frs X.outer
def Vis (sc:Scope) (x:Str):Prop:=sc.names.lookup x=some .local\/sc.names.lookup x=some .cell\/sc.names.lookup x=some .free
def Loc (sc:Scope) (x:Str):Prop:=sc.names.lookup x=some .local\/sc.names.lookup x=some .cell
def Look (env:Env) (h:Heap) (m:Str->Option Value) (x:Str) (u:Value):Prop :=
 (env.kindOf x=some .local/\m x=some u)\/((env.kindOf x=some .cell\/env.kindOf x=some .free)/\∃c,env.cells.lookup x=some c/\h.IsCell c (some u))
structure Cx.Ok (X:Cx):Prop where
 mod:Mod X.K X.mg X.base
 kind:X.env.scope.kind = .function
 glob:X.env.globals=mainGlobals
 blt:X.env.builtins=builtinsNs
 above:X.s₀.heap.objs.size<=X.env.locals
 inj:∀x y c,X.env.cells.lookup x=some c->X.env.cells.lookup y=some c->x=y
 has:∀x,(X.env.kindOf x=some .cell\/X.env.kindOf x=some .free)->∃c,X.env.cells.lookup x=some c
 cab:∀x c,X.fn x=true->X.env.cells.lookup x=some c->X.s₀.heap.objs.size<=c
 hd:X.calm=true->X.A.handled=none
 frames:X.A.frames=some X.stack
 stk:X.stack=X.outer\/(X.stack=X.env::X.outer/\X.env.frame=some X.env.locals)
 exf:∀b∈X.ex,b≠X.env.locals/\∀x c,X.env.cells.lookup x=some c->c≠b
 bs:∀b o,X.base.get? b=some o->X.s₀.heap.get? b=some o/\X.H₀ b=none
 bsz:X.base.objs.size<=X.s₀.heap.objs.size
 noex:∀b o,X.base.get? b=some o->b∉X.ex
 exfs:∀b∈X.ex,b∉X.fs
 funs:X.s₀.heap.FunFrames X.base X.outer
 frf:∀b∈X.fs,X.H₀ b=none
structure Inv (X:Cx) (pins:List (Addr×Obj)) (σ:List (Option V)) (H:Hp) (s:Shared):Prop where
 ok:X.Ok
 os:s.os=X.s₀.os
 bare:AllBare s.gens
 base:Un X.fs X.ex X.H₀ H X.s₀.heap s.heap
 loc:∃m,s.heap.Ns X.env.locals m/\∀(i:Nat) (x:Str) (v:V),X.N[i]? = some x->σ[i]? = some (some v)->Vis X.env.scope x->∃u,RelV v u/\Look X.env s.heap m x u
 cell:∀x c,X.env.cells.lookup x=some c->∃v,s.heap.IsCell c v
 free:H X.env.locals=none
 freeC:∀x c,X.env.cells.lookup x=some c->H c=none
 pin:∀p∈X.pn++pins,s.heap.get? p.1=some p.2/\H p.1=none/\p.1≠X.env.locals/\p.1∉X.fs/\∀v,p.2.data ≠ .cell v
 hok:HOk X.prog X.w H s.heap
 len:σ.length=X.N.length
section
variable {X:Cx}{pins:List (Addr×Obj)}{σ:List (Option V)}{H H':Hp}{s:Shared}{h':Heap}
theorem Cx.Ok.nofr (ok:X.Ok) {b:Addr}{o:Obj}(e:X.base.get? b=some o):b∉X.fs:=λ hb=>by have:=(ok.funs.mem hb).1;rw[e] at this;cases this
theorem Inv.bs (I:Inv X pins σ H s):∀b o,X.base.get? b=some o->s.heap.get? b=some o/\H b=none:=λ b o e =>
 ⟨I.base.keep b o (I.ok.bs b o e).1 (I.ok.bs b o e).2 (I.ok.nofr e) (I.ok.noex b o e),I.base.free b o (I.ok.bs b o e).1 (I.ok.bs b o e).2 (I.ok.noex b o e)⟩
theorem Inv.bk (I:Inv X pins σ H s):∀b o,X.base.get? b=some o->s.heap.get? b=some o:=λ b o e=>(I.bs b o e).1
theorem Inv.mod (I:Inv X pins σ H s):Mod X.K X.mg X.base:=I.ok.mod
theorem Inv.kIn (I:Inv X pins σ H s):X.K.In s.heap:=I.ok.mod.kin.keeps I.bk
theorem Inv.fr (I:Inv X pins σ H s):∃m,Fr X.base X.env.locals s.heap m :=
 let ⟨m,hn,_⟩:=I.loc
 ⟨m,hn,I.bk,Nat.le_trans I.ok.bsz I.ok.above⟩
theorem Inv.lt (I:Inv X pins σ H s):X.env.locals<s.heap.objs.size:=let ⟨_,hn,_⟩:=I.loc;hn.lt
theorem Inv.sz (I:Inv X pins σ H s):X.s₀.heap.objs.size<=s.heap.objs.size:=Nat.le_trans I.ok.above (Nat.le_of_lt I.lt)
theorem Inv.nofs (I:Inv X pins σ H s) {a:Addr}(h:s.heap.objs.size<=a):a∉X.fs:=λ hb=>by obtain⟨_,o,ho,_⟩:=I.ok.funs.mem hb;exact absurd (Nat.lt_of_lt_of_le (Heap.lt_size ho) (Nat.le_trans I.sz h)) (Nat.lt_irrefl _)
theorem Inv.cne (I:Inv X pins σ H s):∀x c,X.env.cells.lookup x=some c->c≠X.env.locals:=λ x c e z=>by obtain⟨v,o,ho,hd⟩:=I.cell x c e;obtain⟨m,⟨o',es,ep,ho',hd',_⟩,_⟩:=I.loc;rw[z,ho'] at ho;cases ho;rw[hd'] at hd;cases hd
theorem Inv.funs (I:Inv X pins σ H s):s.heap.FunFrames X.base X.outer:=by
 have all:∀(l:List Env),(∀b∈frs l,b∈X.fs)->X.s₀.heap.FunFrames X.base l->s.heap.FunFrames X.base l:=by
  intro l
  induction l with
  |nil=>intro _ _;trivial
  |cons env r ih =>
   intro hs hl;obtain⟨hk,⟨L,o,hf,hn,ho,hd⟩,hr⟩:=hl;have hL:L∈X.fs:=hs L (by unfold frs;rw[List.filterMap_cons,hf];exact List.mem_cons_self);obtain⟨sl,e⟩:=I.base.slot L o ho (I.ok.frf L hL) hL λ z=>I.ok.exfs L z hL;exact⟨hk,⟨L,_,hf,hn,e,hd⟩,ih (λ b hb=>hs b (by unfold frs;rw[List.filterMap_cons,hf];exact List.mem_cons_of_mem _ hb)) hr⟩
 exact all X.outer (λ _ hb=>hb) I.ok.funs
theorem Inv.stack (I:Inv X pins σ H s):s.heap.FunFrames X.base X.stack:=by
 rcases I.ok.stk with e|⟨e,hf⟩
 ·rw[e];exact I.funs
 ·rw[e];obtain⟨m,hn,_⟩:=I.loc;refine .cons (by rw[I.ok.kind];decide) hf hn ?_ I.funs;exact Heap.get?_none_of_le (Nat.le_trans I.ok.bsz I.ok.above)
theorem Inv.q39 (I:Inv X pins σ H s):∀b∈frs X.stack,b∈X.env.locals::X.fs:=λ b hb=>by
 rcases I.ok.stk with e|⟨e,hf⟩
 ·rw[e] at hb;exact List.mem_cons_of_mem _ hb
 ·rw[e] at hb;unfold frs at hb;rw[List.filterMap_cons,hf] at hb;exact hb
theorem Inv.q89 (I:Inv X pins σ H s):∀b∈frs X.stack,H b=none:=λ b hb=>by
 rcases List.mem_cons.mp (I.q39 b hb) with e|hb
 ·rw[e];exact I.free
 ·obtain⟨_,o,ho,_⟩:=I.ok.funs.mem hb;exact I.base.free b o ho (I.ok.frf b hb) λ z=>I.ok.exfs b z hb
theorem Inv.step {g':Array GenState}{t':Nat}{d':Drawn}(I:Inv X pins σ H s)
  (hch:∀b∈ch,(b∈X.ex\/X.s₀.heap.objs.size<=b)/\b≠X.env.locals/\(∀x c,X.env.cells.lookup x=some c->c≠b)/\∀p∈X.pn++pins,p.1≠b)
  (keep:∀b o,b≠X.env.locals->b∉X.fs->b∉ch->s.heap.get? b=some o->H b=none->h'.get? b=some o)
  (slot:∀b o,b≠X.env.locals->b∈X.fs->b∉ch->s.heap.get? b=some o->H b=none->∃sl,h'.get? b=some {o with slots:=sl}) (free:∀b o,b∉ch->s.heap.get? b=some o->H b=none->H' b=none)
  (there:∀b o,b∉ch->s.heap.get? b=some o->∃o',h'.get? b=some o')
  (tups:∀b xs,H b=some (.tup xs)->H' b=some (.tup xs)) (frzs:∀b o u,H b=some (.frz o u)->H' b=some (.frz o u)) (tbls:∀b ps,H b=some (.tbl ps)->∃more,H' b=some (.tbl (ps++more)))
  (ns:∀m,s.heap.Ns X.env.locals m->h'.Ns X.env.locals m) (hok:HOk X.prog X.w H' h') (hg:AllBare g') :
  Inv X pins σ H' {s with heap:=h',gens:=g',drawn:=d',toks:=t'}:=by
 have neL:∀b o,X.s₀.heap.get? b=some o->b≠X.env.locals:=λ b o e=>Nat.ne_of_lt (Nat.lt_of_lt_of_le (Heap.lt_size e) I.ok.above);have neC:∀b o,X.s₀.heap.get? b=some o->b∉X.ex->b∉ch:=λ b o e hx hb=>by
  rcases (hch b hb).1 with z|z
  ·exact hx z
  ·exact absurd (Nat.lt_of_lt_of_le (Heap.lt_size e) z) (Nat.lt_irrefl _)
 have cellK:∀x c,X.env.cells.lookup x=some c->∀v,s.heap.IsCell c v->h'.IsCell c v:=λ x c e v ⟨o,ho,hd⟩=>by
  have nch:c∉ch:=λ z=>(hch c z).2.2.1 x c e rfl
  by_cases hc:c∈X.fs
  ·obtain⟨sl,q⟩:=slot c o (I.cne x c e) hc nch ho (I.freeC x c e);exact⟨_,q,hd⟩
  ·exact⟨o,keep c o (I.cne x c e) hc nch ho (I.freeC x c e),hd⟩
 refine⟨I.ok,I.os,hg,⟨λ b o e n hb hx=>?_,λ b o e n hb hx=>?_,λ b o e n hx=>?_,λ b o e hx=>?_,λ b xs e=>tups b xs (I.base.tups b xs e),λ b o xs e=>frzs b o xs (I.base.frzs b o xs e),λ b ps e=>?_⟩,?_,λ x c e=>?_,?_,λ x c e=>?_,λ p hp=>?_,hok,I.len⟩
 ·exact keep b o (neL b o e) hb (neC b o e hx) (I.base.keep b o e n hb hx) (I.base.free b o e n hx)
 ·obtain⟨sl,e1⟩:=I.base.slot b o e n hb hx;obtain⟨sl',e2⟩:=slot b _ (neL b o e) hb (neC b o e hx) e1 (I.base.free b o e n hx);exact⟨sl',e2⟩
 ·obtain⟨o',e1⟩:=I.base.there b o e hx;exact free b o' (neC b o e hx) e1 (I.base.free b o e n hx)
 ·obtain⟨o',e1⟩:=I.base.there b o e hx;exact there b o' (neC b o e hx) e1
 ·obtain⟨m1,e1⟩:=I.base.tbls b ps e;obtain⟨m2,e2⟩:=tbls b _ e1;exact⟨m1++m2,by rw[e2,Array.append_assoc]⟩
 ·obtain⟨m,hn,hl⟩:=I.loc;refine⟨m,ns m hn,λ i x v e1 e2 e3=>?_⟩;obtain⟨u,r,l⟩:=hl i x v e1 e2 e3;refine⟨u,r,?_⟩;rcases l with l|⟨k,c,e,z⟩
  ·exact .inl l
  ·exact .inr ⟨k,c,e,cellK x c e _ z⟩
 ·obtain⟨v,z⟩:=I.cell x c e;exact⟨v,cellK x c e v z⟩
 ·obtain⟨m,⟨o,_,_,ho,_⟩,_⟩:=I.loc;exact free _ o (λ z=>(hch _ z).2.1 rfl) ho I.free
 ·obtain⟨v,o,ho,hd⟩:=I.cell x c e;exact free c o (λ z=>(hch c z).2.2.1 x c e rfl) ho (I.freeC x c e)
 ·obtain⟨e,n,ne,nf,d⟩:=I.pin p hp;have nch:p.1∉ch:=λ z=>(hch p.1 z).2.2.2 p hp rfl;exact⟨keep p.1 p.2 ne nf nch e n,free p.1 p.2 nch e n,ne,nf,d⟩
theorem Inv.un {t':Nat}(I:Inv X pins σ H s) (u:Un X.fs [] H H' s.heap h') (hok:HOk X.prog X.w H' h'):Inv X pins σ H' {s with heap:=h',toks:=t'}:=by
 obtain⟨m,⟨o,es,ep,ho,r⟩,_⟩:=id I.loc;obtain⟨sl,hL⟩:=u.any ho I.free (by simp);exact I.step (g':=s.gens) (d':=s.drawn) (ch:=[]) (λ _ z=>nomatch z) (λ b o _ hb _ e n=>u.keep b o e n hb (by simp)) (λ b o _ hb _ e n=>u.slot b o e n hb (by simp)) (λ b o _ e n=>u.free b o e n (by simp)) (λ b o _ e=>u.there b o e (by simp)) u.tups u.frzs u.tbls (λ m' hm=>by obtain⟨o',es',ep',ho',r'⟩:=hm;rw[ho] at ho';cases ho';exact⟨_,es',ep',hL,r'⟩) hok I.bare
theorem Inv.call {g':Array GenState}{t':Nat}{d':Drawn}(I:Inv X pins σ H s) (u:Un (frs X.stack) ch H H' s.heap h') (hok:HOk X.prog X.w H' h') (hg:AllBare g')
  (hch:∀b∈ch,(b∈X.ex\/X.s₀.heap.objs.size<=b)/\b≠X.env.locals/\(∀x c,X.env.cells.lookup x=some c->c≠b)/\∀p∈X.pn++pins,p.1≠b) :
  Inv X pins σ H' {s with heap:=h',gens:=g',drawn:=d',toks:=t'}:=by
 obtain⟨m,⟨o,es,ep,ho,r⟩,_⟩:=id I.loc;obtain⟨sl,hL⟩:=u.any ho I.free λ z=>(hch _ z).2.1 rfl;exact I.step (ch:=ch) hch (λ b o hL hb hc e n=>u.keep b o e n (λ z=>(List.mem_cons.mp (I.q39 b z)).elim hL hb) hc) (λ b o _ _ hc e n=>u.any e n hc) (λ b o hc e n=>u.free b o e n hc) (λ b o hc e=>u.there b o e hc) u.tups u.frzs u.tbls (λ m' hm=>by obtain⟨o',es',ep',ho',r'⟩:=hm;rw[ho] at ho';cases ho';exact⟨_,es',ep',hL,r'⟩) hok hg
theorem Inv.turned {t':Nat}{it:Addr}(I:Inv X pins σ H s) (k:∀b o,b≠it->s.heap.get? b=some o->h'.get? b=some o) (hn:H it=none) (hL:it≠X.env.locals)
  (h1:it∈X.ex\/X.s₀.heap.objs.size<=it) (h2:∀x c,X.env.cells.lookup x=some c->c≠it) (h3:∀p∈X.pn++pins,p.1≠it):Inv X pins σ H {s with heap:=h',toks:=t'}:=by
 have nit:∀b u,H b=some u->b≠it:=λ b u e z=>by rw[z,hn] at e;cases e
 refine I.step (g':=s.gens) (d':=s.drawn) (ch:=[it]) (λ b hb=>?_) (λ b o _ _ hc e _=>k b o (λ z=>hc (by simp[z])) e) (λ b o _ _ hc e _=>⟨o.slots,k b o (λ z=>hc (by simp[z])) e⟩) (λ _ _ _ _ n=>n)
  (λ b o hc e=>⟨o,k b o (λ z=>hc (by simp[z])) e⟩) (λ _ _ e=>e) (λ _ _ _ e=>e) (λ b ps e=>⟨#[],by rw[e];simp⟩) (λ m hm=>?_) (λ b u e=>?_) I.bare
 ·have e:b=it:=by simpa using hb
  subst e;exact⟨h1,hL,h2,h3⟩
 ·obtain⟨o,es,ep,ho,r⟩:=hm;exact⟨o,es,ep,k _ o (Ne.symm hL) ho,r⟩
 ·refine (I.hok b u e).stay (λ c v hc q=>k c v ?_ q) (λ _ q=>q) λ _ _ q=>q;rcases hc with z|z
  ·rw[z];exact nit b u e
  ·exact nit c _ z
theorem Inv.tok (I:Inv X pins σ H s) (t:Nat):Inv X pins σ H {s with toks:=t}:=I.un (h':=s.heap) (t':=t) Un.refl I.hok
theorem Inv.kept {t':Nat}(I:Inv X pins σ H s) (k:∀b u,s.heap.get? b=some u->h'.get? b=some u):Inv X pins σ H {s with heap:=h',toks:=t'}:=I.un (Un.kept k) (I.hok.kept k)
theorem Inv.laid {a:Addr}{o:HO}{t':Nat}(I:Inv X pins σ H s) (k:∀b u,s.heap.get? b=some u->h'.get? b=some u) (hp:s.heap.objs.size<=a) (new:q1T X.prog X.w (upd H a o) h' a o) :
  Inv X pins σ (upd H a o) {s with heap:=h',toks:=t'}:=I.un (Un.laid k hp (I.hok.fresh hp)) (I.hok.laid k hp new)
theorem Inv.write {x e:Addr}{o:HO}{t':Nat}(I:Inv X pins σ H s) (mu:Mut (H x)) (he:e=x\/H e=some (.own x)) (k:∀b u,b≠e->s.heap.get? b=some u->h'.get? b=some u) (heo:∃u,h'.get? e=some u)
  (new:q1T X.prog X.w (upd H x o) h' x o):Inv X pins σ (upd H x o) {s with heap:=h',toks:=t'}:=I.un (Un.write mu he k heo) (I.hok.write mu he k heo new)
theorem Inv.weak {σ':List (Option V)}(I:Inv X pins σ H s) (hl:σ'.length=σ.length) (w:∀(i:Nat) v,σ'[i]? = some (some v)->σ[i]? = some (some v)):Inv X pins σ' H s :=
 ⟨I.ok,I.os,I.bare,I.base,let ⟨m,hn,hl'⟩:=I.loc;⟨m,hn,λ i x v e1 e2 e3=>hl' i x v e1 (w i v e2) e3⟩,I.cell,I.free,I.freeC,I.pin,I.hok,hl.trans I.len⟩
theorem Inv.q5v {pins':List (Addr×Obj)}(I:Inv X pins σ H s) (h:∀p∈pins',s.heap.get? p.1=some p.2/\H p.1=none/\p.1≠X.env.locals/\p.1∉X.fs/\∀v,p.2.data ≠ .cell v):Inv X pins' σ H s :=
 ⟨I.ok,I.os,I.bare,I.base,I.loc,I.cell,I.free,I.freeC,λ p hp=>(List.mem_append.mp hp).elim (λ z=>I.pin p (List.mem_append_left _ z)) (h p),I.hok,I.len⟩
theorem q5w {N:List Str}(hN:N.Nodup) {j:Nat}(a:N[i]? = some x) (b:N[j]? = some x):i=j:=by obtain⟨h1,e1⟩:=List.getElem?_eq_some_iff.mp a;obtain⟨h2,e2⟩:=List.getElem?_eq_some_iff.mp b;exact (List.getElem_inj hN).mp (e1.trans e2.symm)
theorem qAn {M:Model}{A:Around}{E:Value->Shared->Prop}{v:V}{u:Value}{Q:Unit->Shared->Prop}(I:Inv X pins σ H s) (hN:X.N.Nodup) (hi:X.N[i]? = some x) (hx:Loc X.env.scope x) (r:RelV v u)
  (h:∀s',Inv X pins (σ.set i (some v)) H s'->(∃a,Heap.SameBut a s.heap s'.heap/\(a=X.env.locals\/X.env.cells.lookup x=some a))->Q () s') (hf:X.fn x=true\/X.env.scope.names.lookup x=some .local:=by first|exact .inl rfl|exact .inr rfl|assumption):wpAny M A (storeName X.env x u) Q E s:=by
 obtain⟨m,hn,hl⟩:=id I.loc;have hcls:(X.env.scope.kind == .class || (X.env.scope.kind == .module&&X.env.locals != X.env.globals))=false:=by rw[I.ok.kind];rfl
 have hiσ:i < σ.length:=by rw[I.len];exact (List.getElem?_eq_some_iff.mp hi).1
 have cne:=I.cne;have tracked:∀{a:Addr}{h':Heap},(∃o,s.heap.get? a=some o/\H a=none)->Heap.SameBut a s.heap h'->HOk X.prog X.w H h':=λ {a h'} ha hs b ob e=>by
  obtain⟨_,_,hfree⟩:=ha;refine (I.hok b ob e).stay (λ c w' hc q=>(hs.2 c ?_).trans q) (λ _ q=>q) λ _ _ q=>q;rintro rfl;rcases hc with rfl|hc
  ·rw[hfree] at e;cases e
  ·rw[hfree] at hc;cases hc
 rcases hx with hk|hk
 ·refine wpAny_storeName_local hk hn (λ h' hn' hs=>?_) hcls;obtain⟨oL,_,_,hoL,_⟩:=id hn;refine h _ ⟨I.ok,I.os,I.bare,⟨λ b o e n hb hx=>?_,λ b o e n hb hx=>?_,I.base.free,λ b o e hx=>?_,I.base.tups,I.base.frzs,I.base.tbls⟩,⟨_,hn',λ j y v' e1 e2 e3=>?_⟩,λ y c e=>?_,I.free,I.freeC,λ p hp=>?_,tracked ⟨oL,hoL,I.free⟩ hs,by simpa using I.len⟩ ⟨_,hs,.inl rfl⟩
  ·exact (hs.2 b (Nat.ne_of_lt (Nat.lt_of_lt_of_le (Heap.lt_size e) I.ok.above))).trans (I.base.keep b o e n hb hx)
  ·obtain⟨sl,e1⟩:=I.base.slot b o e n hb hx;exact⟨sl,(hs.2 b (Nat.ne_of_lt (Nat.lt_of_lt_of_le (Heap.lt_size e) I.ok.above))).trans e1⟩
  ·obtain⟨o',e1⟩:=I.base.there b o e hx;exact⟨o',(hs.2 b (Nat.ne_of_lt (Nat.lt_of_lt_of_le (Heap.lt_size e) I.ok.above))).trans e1⟩
  ·by_cases hj:j=i
   ·subst hj;rw[hi] at e1;cases e1;rw[List.getElem?_set_self hiσ] at e2;cases e2;exact⟨u,r,.inl ⟨hk,by simp⟩⟩
   ·rw[List.getElem?_set_ne (Ne.symm hj)] at e2;obtain⟨u',r',q⟩:=hl j y v' e1 e2 e3;refine⟨u',r',?_⟩;rcases q with ⟨k,e⟩|⟨k,c,e,z⟩
    ·refine .inl ⟨k,?_⟩;have:y≠x:=λ e=>hj (q5w hN e1 (e▸hi));simp[this,e]
    ·exact .inr ⟨k,c,e,z.sameBut hs (cne y c e)⟩
  ·obtain⟨w',z⟩:=I.cell y c e;exact⟨w',z.sameBut hs (cne y c e)⟩
  ·obtain⟨e,n,ne,nf,d⟩:=I.pin p hp;exact⟨(hs.2 p.1 ne).trans e,n,ne,nf,d⟩
 ·have hfn:X.fn x=true:=by
   rcases hf with z|z
   ·exact z
   ·rw[z] at hk;cases hk
  obtain⟨c,hc⟩:=I.ok.has x (.inl hk);obtain⟨w',z⟩:=I.cell x c hc;refine wpAny_storeName_cell I.ok.kind hk hc z (λ h' hc' hs=>?_);obtain⟨oc,hoc,hocd⟩:=id z;refine h {s with heap:=h'} ⟨I.ok,I.os,I.bare,⟨λ b o e n hb hx=>?_,λ b o e n hb hx=>?_,I.base.free,λ b o e hx=>?_,I.base.tups,I.base.frzs,I.base.tbls⟩,⟨m,hn.sameBut hs (Ne.symm (cne x c hc)),λ j y v' e1 e2 e3=>?_⟩,λ y c' e=>?_,I.free,I.freeC,λ p hp=>?_,tracked ⟨oc,hoc,I.freeC x c hc⟩ hs,by simpa using I.len⟩ ⟨c,hs,.inr hc⟩
  ·exact (hs.2 b (Nat.ne_of_lt (Nat.lt_of_lt_of_le (Heap.lt_size e) (I.ok.cab x c hfn hc)))).trans (I.base.keep b o e n hb hx)
  ·obtain⟨sl,e1⟩:=I.base.slot b o e n hb hx;exact⟨sl,(hs.2 b (Nat.ne_of_lt (Nat.lt_of_lt_of_le (Heap.lt_size e) (I.ok.cab x c hfn hc)))).trans e1⟩
  ·obtain⟨o',e1⟩:=I.base.there b o e hx;exact⟨o',(hs.2 b (Nat.ne_of_lt (Nat.lt_of_lt_of_le (Heap.lt_size e) (I.ok.cab x c hfn hc)))).trans e1⟩
  ·by_cases hj:j=i
   ·subst hj;rw[hi] at e1;cases e1;rw[List.getElem?_set_self hiσ] at e2;cases e2;exact⟨u,r,.inr ⟨.inl hk,c,hc,hc'⟩⟩
   ·rw[List.getElem?_set_ne (Ne.symm hj)] at e2;obtain⟨u',r',q⟩:=hl j y v' e1 e2 e3;refine⟨u',r',?_⟩;rcases q with q|⟨k,c',e,z'⟩
    ·exact .inl q
    ·refine .inr ⟨k,c',e,z'.sameBut hs ?_⟩;rintro rfl;exact hj (q5w hN e1 (I.ok.inj _ _ _ e hc▸hi))
  ·by_cases hcc:c'=c
   ·subst hcc;exact⟨_,hc'⟩
   ·obtain⟨w2,z2⟩:=I.cell y c' e;exact⟨w2,z2.sameBut hs hcc⟩
  ·obtain⟨e,n,ne,nf,d⟩:=I.pin p hp;refine⟨(hs.2 p.1 ?_).trans e,n,ne,nf,d⟩;intro q;rw[q,hoc] at e;have q':oc=p.2:=Option.some.inj e;exact d w' (by rw[<-q'];exact hocd)
theorem q13 {M:Model}{A:Around}{E:Value->Shared->Prop}{v:V}{u:Value}{Q:Unit->Shared->Prop}(I:Inv X pins σ H s) (hN:X.N.Nodup) (hi:X.N[i]? = some x) (hx:Loc X.env.scope x) (r:RelV v u)
  (h:∀s',Inv X pins (σ.set i (some v)) H s'->Q () s') (hf:X.fn x=true\/X.env.scope.names.lookup x=some .local:=by first|exact .inl rfl|exact .inr rfl|assumption):wpAny M A (storeName X.env x u) Q E s :=
 qAn I hN hi hx r (λ s' I' _=>h s' I') hf
theorem Inv.qFS {s':Shared}(I:Inv X pins σ H s) (ho:s'.os=s.os) (u:Un (frs X.stack) ch H H' s.heap s'.heap) (hok:HOk X.prog X.w H' s'.heap) (hg:AllBare s'.gens)
  (hch:∀b∈ch,(b∈X.ex\/X.s₀.heap.objs.size<=b)/\b≠X.env.locals/\(∀x c,X.env.cells.lookup x=some c->c≠b)/\∀p∈X.pn++pins,p.1≠b):Inv X pins σ H' s':=by
 obtain⟨h',g',d',t',o'⟩:=s';have e:o'=s.os:=ho;subst e;exact I.call (g':=g') (t':=t') (d':=d') u hok hg hch
end
abbrev XK:=Value->Option Addr->Hp->Prop
abbrev St:=List (Option V)
abbrev VK:=V->Hp->Prop
def EP (X:Cx) (pins:List (Addr×Obj)) (σ:St) (Q:VK) (u:Value) (s':Shared):Prop:=∃v H',Inv X pins σ H' s'/\RelV v u/\Q v H'
def TP (X:Cx) (pins:List (Addr×Obj)) (σ:St) (Q:Bool->Hp->Prop) (b:Bool) (s':Shared):Prop:=∃H',Inv X pins σ H' s'/\Q b H'
theorem thn {α:Type}{t:Sem α}{Q Q':α->Shared->Prop}{s:Shared}(h:wpAny M A t Q E s) (hQ:∀a s,Q a s->Q' a s):wpAny M A t Q' E s:=wpAny_mono h hQ λ _ _ x=>x
end L2
namespace L2
open PySem PySem.Spec PyProof.Rows
section
variable {X:Cx}
def Gl (X:Cx) (x:Str):Prop:=X.env.kindOf x=some .globalImplicit
theorem q3f {E:Value->Shared->Prop}{pins:List (Addr×Obj)}{s:Shared}{σ:St}{H:Hp}{x:Str}{u:Value}{pos:Pos}{Q:Value->Shared->Prop}(I:Inv X pins σ H s) (hg:Gl X x) (hm:X.mg x=some u) (h:Q u s)
  (hd:(x==("__debug__":Str))=false:=by decide):wpAny (model X.prog X.w) X.A (eval (.Name x pos) X.env) Q E s :=
 Calls.Name_function_global I.ok.kind hg (Calls.loadGlobal_global (by rw[I.ok.glob];exact I.mod.glob.keeps I.bk) hm h) hd
theorem q1p {E:Value->Shared->Prop}{pins:List (Addr×Obj)}{s:Shared}{σ:St}{H:Hp}{x:Str}{u:Value}{pos:Pos}{Q:Value->Shared->Prop}(I:Inv X pins σ H s) (hg:Gl X x) (hm:X.mg x=none) (hv:bootBuiltins x=some u) (h:Q u s)
  (hn:x ≠ "__name__":=by decide) (hd:(x==("__debug__":Str))=false:=by decide):wpAny (model X.prog X.w) X.A (eval (.Name x pos) X.env) Q E s:=by
 obtain⟨mb,h1,h2⟩:=I.mod.blt;exact Calls.Name_function_global I.ok.kind hg (Calls.loadGlobal_builtin (by rw[I.ok.glob];exact I.mod.glob.keeps I.bk) hm (by rw[I.ok.blt];exact h1.keeps I.bk) ((h2 x hn).trans hv) h) hd
variable {a b:Expr}{ta tb:TE}{pos:Pos}
variable {tA tB':TT}{rest:List Expr}
end
end L2
namespace L2
open PySem PySem.Spec PyProof.Rows
variable {K:PySem.W.Frag}{tg:Expr}{P:Program}{w:World}
def SqL (K:PySem.W.Frag) (H:Hp) (a:Addr) (xs:List V):Prop :=
 Rd H a (.lst xs)\/
  ∃(o:Obj) (its:Array Value) (n:Nat),K.lookup a=some o/\o.cls = .type "list"/\o.dict=none/\o.data = .seq its n/\its.size<=sizeLine/\Vals xs its.toList
def SqT (K:PySem.W.Frag) (H:Hp) (a:Addr) (xs:List V):Prop :=
 Rd H a (.tup xs)\/
  ∃(o:Obj) (its:Array Value) (n:Nat),K.lookup a=some o/\o.cls = .type "tuple"/\o.data = .seq its n/\its.size<=sizeLine/\Vals xs its.toList
def absV:Value->Option V
 | .none=>some .non
 | .bool b=>some (.bl b)
 | .int i _=>some (.int i)
 | .str x _=>some (.str x)
 | .bytes b _=>some (.byt b)
 | .float b _=>some (.flt b)
 | .ref a=>some (.ref a)
 | .type n=>some (.ty n)
 |_=>none
theorem RelV.abs {x:V}{u:Value}(r:RelV x u):absV u=some x:=by
 cases x with
 |non=>cases r;rfl
 |bl _=>cases r;rfl
 |int _=>obtain⟨t,rfl⟩:=r;rfl
 |str _=>obtain⟨t,rfl⟩:=r;rfl
 |byt _=>obtain⟨t,rfl⟩:=r;rfl
 |flt _=>obtain⟨t,rfl⟩:=r;rfl
 |ref _=>cases r;rfl
 |ty _=>cases r;rfl
theorem RelV.inj {x y:V}{u:Value}(r:RelV x u) (q:RelV y u):x=y:=Option.some.inj (r.abs.symm.trans q.abs)
theorem Vals.inj:∀{xs ys:List V}{us:List Value},Vals xs us->Vals ys us->xs=ys
 |_,_,_,.nil,.nil=>rfl
 |_,_,_,.cons r t,.cons r' t'=>by rw[r.inj r',Vals.inj t t']
section
variable {X:Cx}{pins:List (Addr×Obj)}{σ:St}{H:Hp}{s:Shared}{a:Addr}{xs ys:List V}
theorem SqL.of (h:H a=some (.lst xs)):SqL K H a xs:= .inl (.inl h)
theorem SqT.of (h:H a=some (.tup xs)):SqT K H a xs:= .inl (.inl h)
theorem Inv.list (I:Inv X pins σ H s) (h:SqL X.K H a xs):∃its:List Value,Vals xs its/\PlainL s.heap a its.toArray/\xs.length<=sizeLine:=by
 rcases h with h|⟨o,its,n,hk,hc,hd,hs,hz,r⟩
 ·obtain⟨z,its,n,r,e⟩:=h.ok I.hok;exact⟨its,r,⟨_,n,e,rfl,rfl,rfl⟩,z⟩
 ·refine⟨its.toList,r,⟨o,n,I.kIn a o hk,hc,hd,by simpa using hs⟩,?_⟩;have e:=r.length;simp only[Array.length_toList] at e;lia
theorem Inv.tuple (I:Inv X pins σ H s) (h:SqT X.K H a xs):∃its:List Value,Vals xs its/\IsTup s.heap a its.toArray/\xs.length<=sizeLine:=by
 rcases h with h|⟨o,its,n,hk,hc,hs,hz,r⟩
 ·obtain⟨z,its,r,p⟩:=h.ok I.hok;exact⟨its,r,p,z⟩
 ·refine⟨its.toList,r,⟨o,I.kIn a o hk,hc,n,by simpa using hs⟩,?_⟩;have e:=r.length;simp only[Array.length_toList] at e;lia
theorem Inv.qD8 (I:Inv X pins σ H s) (h:SqL X.K H a xs) (h':SqL X.K H a ys):xs=ys:=by
 obtain⟨its,r,⟨o,n,e,_,_,d⟩,_⟩:=I.list h;obtain⟨its',r',⟨o',n',e',_,_,d'⟩,_⟩:=I.list h';rw[e] at e';cases e';rw[d] at d';injection d' with d1 _
 have:its=its':=by simpa using congrArg Array.toList d1
 subst this;exact r.inj r'
theorem Inv.qAo (I:Inv X pins σ H s) (h:SqT X.K H a xs) (h':SqT X.K H a ys):xs=ys:=by
 obtain⟨its,r,⟨o,e,_,n,d⟩,_⟩:=I.tuple h;obtain⟨its',r',⟨o',e',_,n',d'⟩,_⟩:=I.tuple h';rw[e] at e';cases e';rw[d] at d';injection d' with d1 _
 have:its=its':=by simpa using congrArg Array.toList d1
 subst this;exact r.inj r'
end
abbrev Cx.wish (X:Cx) (E:Value->Shared->Prop):Cx:={X with xe:=E}
theorem Cx.Ok.wish {X:Cx}(ok:X.Ok) (E:Value->Shared->Prop):(X.wish E).Ok :=
 ⟨ok.mod,ok.kind,ok.glob,ok.blt,ok.above,ok.inj,ok.has,ok.cab,ok.hd,ok.frames,ok.stk,ok.exf,ok.bs,ok.bsz,ok.noex,ok.exfs,ok.funs,ok.frf⟩
theorem Cx.Ok.q2k {X:Cx}{E:Value->Shared->Prop}(ok:(X.wish E).Ok):X.Ok :=
 ⟨ok.mod,ok.kind,ok.glob,ok.blt,ok.above,ok.inj,ok.has,ok.cab,ok.hd,ok.frames,ok.stk,ok.exf,ok.bs,ok.bsz,ok.noex,ok.exfs,ok.funs,ok.frf⟩
section
variable {X:Cx}{pins:List (Addr×Obj)}{σ:St}{H:Hp}{s:Shared}{E:Value->Shared->Prop}
theorem Inv.wish (I:Inv X pins σ H s) (E:Value->Shared->Prop):Inv (X.wish E) pins σ H s:=⟨I.ok.wish E,I.os,I.bare,I.base,I.loc,I.cell,I.free,I.freeC,I.pin,I.hok,I.len⟩
theorem Inv.q2k (I:Inv (X.wish E) pins σ H s):Inv X pins σ H s:=⟨I.ok.q2k,I.os,I.bare,I.base,I.loc,I.cell,I.free,I.freeC,I.pin,I.hok,I.len⟩
end
section
variable {X:Cx}{st:Stmt}{rest:List Stmt}{t u:TS}{e:Expr}{te:TE}{pos:Pos}
theorem Inv.quiet {pins:List (Addr×Obj)}{σ:St}{H:Hp}{s:Shared}(I:Inv X pins σ H s):interactive X.env=false:=by simp[interactive,I.ok.kind]
end
abbrev TG:=V->St->Hp->(St->Hp->Prop)->Prop
abbrev TGs:=List V->St->Hp->(St->Hp->Prop)->Prop
def PG (X:Cx) (target:Expr) (t:TG):Prop :=
 ∀(pins:List (Addr×Obj)) (s:Shared) (σ:St) (H:Hp) (v:V) (u:Value) (Q:St->Hp->Prop),Inv X pins σ H s->RelV v u->t v σ H Q->
  wpAny (model X.prog X.w) X.A (assign target X.env u) (λ _ s'=>∃σ' H',Inv X pins σ' H' s'/\Q σ' H') X.xe s
def PGs (X:Cx) (ts:List Expr) (t:TGs):Prop :=
 ∀(pins:List (Addr×Obj)) (s:Shared) (σ:St) (H:Hp) (vs:List V) (us:List Value) (Q:St->Hp->Prop),Inv X pins σ H s->Vals vs us->t vs σ H Q->
  wpAny (model X.prog X.w) X.A (assignInOrder ((assignEach ts X.env).map (·.2)) us) (λ _ s'=>∃σ' H',Inv X pins σ' H' s'/\Q σ' H') X.xe s
section
variable {X:Cx}{pos:Pos}
def qKV (i:Nat):TG:=λ v σ H Q=>Q (σ.set i (some v)) H
theorem qAp {i:Nat}{x:Str}(hN:X.N.Nodup) (hi:X.N[i]? = some x) (hx:Loc X.env.scope x) (hf:X.fn x=true\/X.env.scope.names.lookup x=some .local:=by first|exact .inl rfl|exact .inr rfl|assumption):PG X (.Name x pos) (qKV i):=by intro pins s σ H v u Q I r h;exact wpAny_assign_Name (q13 I hN hi hx r (λ s' I'=>⟨_,H,I',h⟩) hf)
def gNil:TGs:=λ vs σ H Q=>vs=[]/\Q σ H
def qKW (t:TG) (u:TGs):TGs:=λ vs σ H Q=>∃v r,vs=v::r/\t v σ H λ σ' H'=>u r σ' H' Q
theorem qFT:PGs X [] gNil:=by intro pins s σ H vs us Q I r h;obtain⟨e,h⟩:=h;subst e;cases r;exact assignInOrder_nil ⟨σ,H,I,h⟩
theorem q8z {e:Expr}{es:List Expr}{t:TG}{u:TGs}(h1:PG X e t) (h2:PGs X es u)
  (hs:(assignEach (e::es) X.env).map (·.2)=assign e X.env::(assignEach es X.env).map (·.2):=by rfl):PGs X (e::es) (qKW t u):=by
 intro pins s σ H vs us Q I r h;obtain⟨v,vr,e1,h⟩:=h;subst e1;cases r with
 |cons r rr =>
  rw[hs];refine assignInOrder_cons (thn (h1 pins s σ H _ _ _ I r h) λ _ s1 ⟨σ1,H1,I1,q1⟩=>?_);exact h2 pins s1 σ1 H1 _ _ Q I1 rr q1
def gTup (K:PySem.W.Frag) (n:Nat) (t:TGs):TG:=λ v σ H Q=>∃a xs,v = .ref a/\SqT K H a xs/\xs.length=n/\t xs σ H Q
theorem qHq {es:List Expr}{k:Nat}{t:TGs}{n:Nat}(hc:X.calm=true) (h:PGs X es t)
  (hn:(assignEach es X.env).length=n:=by rfl) (hst:(assignEach es X.env).findIdx? (·.1)=none:=by rfl):PG X (.Tuple es k pos) (gTup X.K n t):=by
 intro pins s σ H v u Q I r hw;obtain⟨a,xs,e1,hq,hl,hw⟩:=hw;subst e1;cases r;obtain⟨its,rv,ht,hz⟩:=I.tuple hq;refine assign_Tuple_tuple (I.ok.hd hc) ht (by simp[hn,<-hl,rv.length]) hst λ h' hx=>?_;have I1:Inv X pins σ H {s with heap:=h'}:=I.kept (t':=s.toks) λ b o e=>hx b o (Nat.ne_of_lt (Heap.lt_size e)) e;exact h pins _ σ H xs _ Q I1 (by simpa using rv) hw
end
structure It where
 go:Nat->Hp->Prop
 yld:Nat->Hp->V->Hp->Prop
 stop:Nat->Hp->Prop
def FpOk (X:Cx) (pins:List (Addr×Obj)) (H:Hp) (b:Addr):Prop :=
 H b=none/\b≠X.env.locals/\b∉X.fs/\(b∈X.ex\/X.s₀.heap.objs.size<=b)/\(∀x c,X.env.cells.lookup x=some c->c≠b)/\∀p∈X.pn++pins,p.1≠b
theorem Inv.fpOk {X:Cx}{pins:List (Addr×Obj)}{σ:St}{H H':Hp}{s:Shared}{b:Addr}(I:Inv X pins σ H s) (hb:s.heap.objs.size<=b) (hn:H' b=none):FpOk X pins H' b:=by
 refine⟨hn,Nat.ne_of_gt (Nat.lt_of_lt_of_le I.lt hb),I.nofs hb,.inr (Nat.le_trans I.sz hb),λ x c e z=>?_,λ p hp z=>?_⟩
 ·obtain⟨v,q⟩:=I.cell x c e;exact absurd (Nat.lt_of_lt_of_le q.lt (by rw[z];exact hb)) (Nat.lt_irrefl _)
 ·exact absurd (Nat.lt_of_lt_of_le (Heap.lt_size (I.pin p hp).1) (by rw[z];exact hb)) (Nat.lt_irrefl _)
structure Turn (P:Program) (w:World) (K:PySem.W.Frag) (tg:Expr) (J:It) (fp:List Addr) (it:Addr) (tn:Nat->Heap->Prop):Prop where
 mem:it∈fp
 obj:∀i h,tn i h->∀b∈fp,∃o,h.get? b=some o/\∀v,o.data ≠ .cell v
 keep:∀i h h',tn i h->(∀b∈fp,∀o,h.get? b=some o->h'.get? b=some o)->tn i h'
 item:∀(X:Cx),X.prog=P->X.w=w->X.K=K->X.calm=true->∀(i:Nat) (pins:List (Addr×Obj)) (s:Shared) (σ:St) (H:Hp) (E:Value->Shared->Prop),Inv X pins σ H s->(∀b∈fp,FpOk X pins H b)->tn i s.heap->J.go i H->
  wpAny (model P w) X.A (pyNext (.ref it)) (λ r s1=>∃u,r=some u/\
   wpAny (model P w) X.A (letOwnedTupleGo tg (.ref it) u) (λ _ s2=>∃x H',Inv X pins σ H' s2/\RelV x u/\J.yld i H x H'/\tn (i+1) s2.heap/\∀b∈fp,H' b=none) E s1) E s
 done:∀(X:Cx),X.prog=P->X.w=w->X.K=K->X.calm=true->∀(i:Nat) (pins:List (Addr×Obj)) (s:Shared) (σ:St) (H:Hp) (E:Value->Shared->Prop),Inv X pins σ H s->(∀b∈fp,FpOk X pins H b)->tn i s.heap->J.stop i H->
  wpAny (model P w) X.A (pyNext (.ref it)) (λ r s1=>r=none/\Inv X pins σ H s1) E s
 self:∀(A:Around) (i:Nat) (s:Shared) (Q:Value->Shared->Prop) (E:Value->Shared->Prop),tn i s.heap->Q (.ref it) s->wpAny (model P w) A (pyIter (.ref it)) Q E s
def PIE (X:Cx) (pins:List (Addr×Obj)) (σ:St) (tg:Expr) (R:It->Hp->Prop) (itv:Value) (s2:Shared):Prop :=
 ∃(it:Addr) (fp:List Addr) (tn:Nat->Heap->Prop) (J:It) (H':Hp),itv = .ref it/\Inv X pins σ H' s2/\Turn X.prog X.w X.K tg J fp it tn/\tn 0 s2.heap/\(∀b∈fp,FpOk X pins H' b)/\R J H'
theorem qD9 {M:Model}{A:Around}{E:Value->Shared->Prop}{s:Shared}{it:Addr}{u:Value}{o:Obj}{n:String}{vs:Array Value}{Q:Unit->Shared->Prop}(ho:s.heap.get? it=some o) (hc:o.cls = .type n) (hd:o.data = .fields vs)
  (hn:["enumerate", "zip", "dict_itemiterator", "dict_reverseitemiterator", "odict_iterator", "itertools.zip_longest", "itertools.pairwise"].contains n=false) (hQ:Q () s):wpAny M A (letOwnedTupleGo tg (.ref it) u) Q E s:=by
 unfold letOwnedTupleGo;cases tg<;>first
  |exact wpAny_pure hQ
  |(cases u<;>first
    |exact wpAny_pure hQ
    |(refine wpAny_bind (wpAny_load ho ?_)
      rw[hc,hd];show wpAny M A (if (["enumerate", "zip", "dict_itemiterator", "dict_reverseitemiterator", "odict_iterator", "itertools.zip_longest", "itertools.pairwise"].contains n&&vs[0]?==some (rawInt _))=true then _ else _) Q E s;rw[if_neg (by intro h;rw[hn,Bool.false_and] at h;cases h)];exact wpAny_pure hQ))
def Itl (K:PySem.W.Frag) (a:Addr):It :=
 ⟨λ i H=>∃xs x,SqL K H a xs/\xs[i]? = some x,λ i H x H'=>H'=H/\∀xs,SqL K H a xs->xs[i]? = some x,λ i H=>∃xs,SqL K H a xs/\xs.length<=i⟩
def Itt (K:PySem.W.Frag) (a:Addr):It :=
 ⟨λ i H=>∃xs x,SqT K H a xs/\xs[i]? = some x,λ i H x H'=>H'=H/\∀xs,SqT K H a xs->xs[i]? = some x,λ i H=>∃xs,SqT K H a xs/\xs.length<=i⟩
def Itr (lo:Int) (n:Nat):It:=⟨λ i _=>i<n,λ i H x H'=>H'=H/\x = .int (lo+i),λ i _=>n<=i⟩
theorem qAq (a it:Addr):Turn P w K tg (Itl K a) [it] it (λ i h=>h.IsListIter it a i) where
 mem:=by simp
 obj:=λ i h st b hb=>by
  have e:b=it:=by simpa using hb
  subst e;obtain⟨o,e,c,d⟩:=st;exact⟨o,e,λ v z=>by rw[d] at z;cases z⟩
 keep:=λ i h h' st k=>st.at λ o e=>k it (by simp) o e
 item:=by intro X hP hw hK hc i pins s σ H E I hf st hg;subst hP hw hK;obtain⟨xs,x,hq,hx⟩:=hg;obtain⟨its,rv,p,hz⟩:=I.list hq;obtain⟨u,hu,ru⟩:=rv.get hx;obtain⟨f0,f1,f2,f3,f4,f5⟩:=hf it (by simp);refine wpAny_pyNext_list_item st p.isList (x:=u) (by simpa using hu) λ h' st' sb=>?_;have I1:Inv X pins σ H {s with heap:=h'}:=I.turned (t':=s.toks) (λ b o hb e=>(sb.2 b hb).trans e) f0 f1 f3 f4 f5;obtain⟨o,e,c,d⟩:=id st';exact⟨u,rfl,qD9 (s:={s with heap:=h'}) e c d (by decide) ⟨x,H,I1,ru,⟨rfl,λ ys hy=>by rw[I.qD8 hy hq];exact hx⟩,st',λ b hb=>(hf b hb).1⟩⟩
 done:=by intro X hP hw hK hc i pins s σ H E I hf st hg;subst hP hw hK;obtain⟨xs,hq,hx⟩:=hg;obtain⟨its,rv,p,hz⟩:=I.list hq;obtain⟨f0,f1,f2,f3,f4,f5⟩:=hf it (by simp);have hl:=rv.length;exact wpAny_pyNext_list_end (I.ok.hd hc) st p.isList (by simp;lia) λ h' eb=>⟨rfl,I.turned (t':=s.toks) (λ b o hb e=>eb b o hb e) f0 f1 f3 f4 f5⟩
 self:=λ _ _ _ _ _ st h=>wpAny_pyIter_listiter st h
theorem qAA (a it:Addr):Turn P w K tg (Itt K a) [it] it (λ i h=>h.IsTupleIter it a i) where
 mem:=by simp
 obj:=λ i h st b hb=>by
  have e:b=it:=by simpa using hb
  subst e;obtain⟨o,e,c,d⟩:=st;exact⟨o,e,λ v z=>by rw[d] at z;cases z⟩
 keep:=λ i h h' st k=>st.at λ o e=>k it (by simp) o e
 item:=by intro X hP hw hK hc i pins s σ H E I hf st hg;subst hP hw hK;obtain⟨xs,x,hq,hx⟩:=hg;obtain⟨its,rv,p,hz⟩:=I.tuple hq;obtain⟨u,hu,ru⟩:=rv.get hx;obtain⟨f0,f1,f2,f3,f4,f5⟩:=hf it (by simp);refine wpAny_pyNext_tuple_item st (show s.heap.IsTuple a its.toArray from p) (x:=u) (by simpa using hu) λ h' st' sb=>?_;have I1:Inv X pins σ H {s with heap:=h'}:=I.turned (t':=s.toks) (λ b o hb e=>(sb.2 b hb).trans e) f0 f1 f3 f4 f5;obtain⟨o,e,c,d⟩:=id st';exact⟨u,rfl,qD9 (s:={s with heap:=h'}) e c d (by decide) ⟨x,H,I1,ru,⟨rfl,λ ys hy=>by rw[I.qAo hy hq];exact hx⟩,st',λ b hb=>(hf b hb).1⟩⟩
 done:=by intro X hP hw hK hc i pins s σ H E I hf st hg;subst hP hw hK;obtain⟨xs,hq,hx⟩:=hg;obtain⟨its,rv,p,hz⟩:=I.tuple hq;obtain⟨f0,f1,f2,f3,f4,f5⟩:=hf it (by simp);have hl:=rv.length;exact wpAny_pyNext_tuple_end (I.ok.hd hc) st (show s.heap.IsTuple a its.toArray from p) (by simp;lia) λ h' eb=>⟨rfl,I.turned (t':=s.toks) (λ b o hb e=>eb b o hb e) f0 f1 f3 f4 f5⟩
 self:=λ _ _ _ _ _ st h=>wpAny_pyIter_tupleiter st h
theorem qAB (it:Addr) (lo:Int) (n:Nat):Turn P w K tg (Itr lo n) [it] it (λ i h=>IsRangeIter h it (lo+(i:Nat)*1) ((n:Int)-(i:Nat)) 1) where
 mem:=by simp
 obj:=λ i h st b hb=>by
  have e:b=it:=by simpa using hb
  subst e;exact⟨_,st,λ v z=>by have z':Data.fields _=Data.cell v:=z;cases z'⟩
 keep:=λ i h h' st k=>k it (by simp) _ st
 item:=by intro X hP hw hK hc i pins s σ H E I hf st hg;subst hP hw hK;obtain⟨f0,f1,f2,f3,f4,f5⟩:=hf it (by simp);have W:=Walks.range (prog:=X.prog) (w:=X.w) (I.ok.hd hc) it lo 1 n;refine W.item i s _ _ hg st λ v h' tk hv st' kk=>?_;obtain⟨t,rfl⟩:=hv;have I1:Inv X pins σ H {s with heap:=h',toks:=tk}:=I.turned (λ b o hb e=>kk b o (by simpa using hb) e) f0 f1 f3 f4 f5;refine⟨_,rfl,qD9 (s:={s with heap:=h',toks:=tk}) (n := "range_iterator") st' rfl rfl (by decide) ⟨.int (lo+i),H,I1,⟨t,?_⟩,⟨rfl,rfl⟩,st',λ b hb=>(hf b hb).1⟩⟩;rw[Int.mul_one]
 done:=by intro X hP hw hK hc i pins s σ H E I hf st hg;subst hP hw hK;obtain⟨f0,f1,f2,f3,f4,f5⟩:=hf it (by simp);exact wpAny_pyNext_range_end (I.ok.hd hc) st (by have:n<=i:=hg;lia) λ h' eb=>⟨rfl,I.turned (t':=s.toks) (λ b o hb e=>eb b o hb e) f0 f1 f3 f4 f5⟩
 self:=λ _ _ _ _ _ st h=>wpAny_pyIter_rangeiter st h
end L2
namespace L2
open PySem PySem.Spec PyProof.Rows
variable {pins:List (Addr×Obj)}{σ:St}{H:Hp}{s:Shared}{fp:List Addr}
section
variable {X:Cx}{tg:Expr}
theorem q90 {R:It->Hp->Prop}{E:Value->Shared->Prop}{lo hi:Int}{t u v:Tok}{tk:Nat}(I:Inv X pins σ H s) (h1:-(2^62)<=lo) (h2:lo<2^62) (h3:-(2^62)<=hi) (h4:hi<2^62)
  (q:R (Itr lo (hi-lo).toNat) H):wpAny (model X.prog X.w) X.A (pyIter (.ref s.heap.objs.size)) (PIE X pins σ tg R) E {s with heap:=s.heap.push {cls:= .type "range",data:= .fields #[.int lo t,.int hi u,.int 1 v]},toks:=tk}:=by
 refine wpAny_pyIter_range (IsRange.new ..) (small_one h1 h2 h3 h4) ?_;have I1:Inv X pins σ H {s with heap:=s.heap.push {cls:= .type "range",data:= .fields #[.int lo t,.int hi u,.int 1 v]},toks:=tk}:=I.kept λ b o e=>Heap.get?_push_of_some _ e;refine⟨(s.heap.push {cls:= .type "range",data:= .fields #[.int lo t,.int hi u,.int 1 v]}).objs.size,[(s.heap.push {cls:= .type "range",data:= .fields #[.int lo t,.int hi u,.int 1 v]}).objs.size],_,_,H,rfl,
  I1.kept (t':=tk) λ b o e=>Heap.get?_push_of_some _ e,qAB _ lo (hi-lo).toNat,?_,λ b hb=>?_,q⟩
 ·have e1:lo+((0:Nat):Int)*1=lo:=by simp
  have e2:(((hi-lo).toNat:Nat):Int)-((0:Nat):Int)=Builtin.Range.rangeSize lo hi 1:=by rw[rangeSize_one];split<;>lia
  show IsRangeIter _ _ (lo+((0:Nat):Int)*1) ((((hi-lo).toNat:Nat):Int)-((0:Nat):Int)) 1;rw[e1,e2];exact Heap.get?_push_size _ rfl
 ·have e:b=(s.heap.push {cls:= .type "range",data:= .fields #[.int lo t,.int hi u,.int 1 v]}).objs.size:=by simpa using hb
  subst e;exact I1.fpOk (Nat.le_refl _) (I1.hok.fresh (Nat.le_refl _))
def q6r (fp:List Addr) (h:Heap):List (Addr×Obj):=fp.filterMap λ b=>(h.get? b).map λ o=>(b,o)
theorem q1a {h:Heap}{b:Addr}{o:Obj}(hb:b∈fp) (e:h.get? b=some o):(b,o)∈q6r fp h:=List.mem_filterMap.mpr ⟨b,hb,by rw[e];rfl⟩
theorem qAr {h:Heap}{p:Addr×Obj}(hp:p∈q6r fp h):p.1∈fp/\h.get? p.1=some p.2:=by
 obtain⟨b,hb,e⟩:=List.mem_filterMap.mp hp;cases q:h.get? b with
 |none=>rw[q] at e;cases e
 |some o =>
  rw[q] at e;have e':(b,o)=p:=Option.some.inj e;subst e';exact⟨hb,q⟩
theorem Inv.pinned (I:Inv X pins σ H s) (hf:∀b∈fp,FpOk X pins H b) (ho:∀b∈fp,∃o,s.heap.get? b=some o/\∀v,o.data ≠ .cell v):Inv X (pins++q6r fp s.heap) σ H s :=
 I.q5v λ p hp=>(List.mem_append.mp hp).elim (λ z=>I.pin p (List.mem_append_right _ z)) λ z=>by obtain⟨hb,e⟩:=qAr z;obtain⟨f0,f1,f2,_⟩:=hf p.1 hb;obtain⟨o,e',d⟩:=ho p.1 hb;rw[e] at e';cases e';exact⟨e,f0,f1,f2,d⟩
theorem Inv.q1E {pl:List (Addr×Obj)}(I:Inv X (pins++pl) σ H s):Inv X pins σ H s:=I.q5v λ p hp=>I.pin p (List.mem_append_right _ (List.mem_append_left _ hp))
end
end L2
namespace L2
open PySem PySem.Spec PyProof.Rows
variable {f:Value->Value->Sem Value}
abbrev R2:=V->V->Hp->VK->Prop
def OpR (X:Cx) (f:Value->Value->Sem Value) (r:R2):Prop :=
 ∀(pins:List (Addr×Obj)) (s:Shared) (σ:St) (H:Hp) (x y:V) (v u:Value) (Q:VK),Inv X pins σ H s->RelV x v->RelV y u->r x y H Q->
  wpAny (model X.prog X.w) X.A (f v u) (EP X pins σ Q) X.xe s
def q6s (X:Cx) (f:Value) (r:List V->Hp->VK->Prop):Prop :=
 ∀(pins:List (Addr×Obj)) (s:Shared) (σ:St) (H:Hp) (xs:List V) (us:List Value) (Q:VK),Inv X pins σ H s->Vals xs us->r xs H Q->
  wpAny (model X.prog X.w) X.A (call f us) (EP X pins σ Q) X.xe s
def TruR (X:Cx) (r:V->Hp->(Bool->Hp->Prop)->Prop):Prop :=
 ∀(pins:List (Addr×Obj)) (s:Shared) (σ:St) (H:Hp) (x:V) (v:Value) (Q:Bool->Hp->Prop),Inv X pins σ H s->RelV x v->r x H Q->
  wpAny (model X.prog X.w) X.A (truthy v) (TP X pins σ Q) X.xe s
def rI (C:Int->Int->Prop) (g:Int->Int->V):R2:=λ x y H Q=>∃i j,x = .int i/\y = .int j/\C i j/\Q (g i j) H
def rI0 (g:Int->Int->V):R2:=λ x y H Q=>∃i j,x = .int i/\y = .int j/\Q (g i j) H
section
variable {X:Cx}{a b c:Expr}{ta tb tc:TE}{pos:Pos}
theorem opI {f:Value->Value->Sem Value}{C:Int->Int->Prop}{g:Int->Int->Int}
  (rule:∀(i j:Int) (t u:Tok) (s:Shared) (Q:Value->Shared->Prop) (E:Value->Shared->Prop),C i j->Q (.int (g i j) s.toks) {s with toks:=s.toks+1}->wpAny (model X.prog X.w) X.A (f (.int i t) (.int j u)) Q E s) :
  OpR X f (rI C λ i j=> .int (g i j)):=by
 intro pins s σ H x y v u Q I rx ry h;obtain⟨i,j,rfl,rfl,hc,q⟩:=h;obtain⟨t,rfl⟩:=rx;obtain⟨t',rfl⟩:=ry;exact rule i j t t' s _ _ hc ⟨.int (g i j),H,I.tok _,⟨_,rfl⟩,q⟩
theorem opI0 {f:Value->Value->Sem Value}{g:Int->Int->Int}
  (rule:∀(i j:Int) (t u:Tok) (s:Shared) (Q:Value->Shared->Prop) (E:Value->Shared->Prop),Q (.int (g i j) s.toks) {s with toks:=s.toks+1}->wpAny (model X.prog X.w) X.A (f (.int i t) (.int j u)) Q E s) :
  OpR X f (rI0 λ i j=> .int (g i j)):=by
 intro pins s σ H x y v u Q I rx ry h;obtain⟨i,j,rfl,rfl,q⟩:=h;obtain⟨t,rfl⟩:=rx;obtain⟨t',rfl⟩:=ry;exact rule i j t t' s _ _ ⟨.int (g i j),H,I.tok _,⟨_,rfl⟩,q⟩
theorem opB0 {g:Int->Int->Bool}
  (rule:∀(i j:Int) (t u:Tok) (s:Shared) (Q:Value->Shared->Prop) (E:Value->Shared->Prop),Q (.bool (g i j)) s->wpAny (model X.prog X.w) X.A (f (.int i t) (.int j u)) Q E s) :
  OpR X f (rI0 λ i j=> .bl (g i j)):=by
 intro pins s σ H x y v u Q I rx ry h;obtain⟨i,j,rfl,rfl,q⟩:=h;obtain⟨t,rfl⟩:=rx;obtain⟨t',rfl⟩:=ry;exact rule i j t t' s _ _ ⟨.bl (g i j),H,I,rfl,q⟩
def CDiv (i j:Int):Prop:=0<j/\j<1073741824
def CPow (i j:Int):Prop:=0<=j/\j<=1000000/\i.natAbs<2^64
def CMul (i j:Int):Prop:=(-(2^64)<i/\i<2^64)\/(-(2^64)<j/\j<2^64)
theorem CMul.ok {i j:Int}(h:CMul i j):IntMulOk i j:=by
 rcases h with ⟨h1,h2⟩|⟨h1,h2⟩
 ·exact .of_left (intBits_le_64 h1 h2)
 ·exact .of_right (intBits_le_64 h1 h2)
theorem q5O (k:Nat):(0:Int)<=2^k:=by rw[two_pow_cast];exact Int.natCast_nonneg _
theorem qHr:OpR X (binaryOp .Add) (rI0 λ i j=> .int (i+j)):=opI0 λ _ _ _ _ _ _ _ q=>add_int q
theorem qHs:OpR X (binaryOp .Sub) (rI0 λ i j=> .int (i-j)):=opI0 λ _ _ _ _ _ _ _ q=>sub_int q
theorem qHt:OpR X (binaryOp .Mult) (rI CMul λ i j=> .int (i*j)):=opI λ _ _ _ _ _ _ _ hc q=>mul_int q hc.ok
theorem qFU:OpR X (binaryOp .FloorDiv) (rI CDiv λ i j=> .int (i / j)):=opI λ i j _ _ _ _ _ hc q=>by have h1:(0:Int)<j:=hc.1;have h2:j<1073741824:=hc.2;exact floordiv_int (by lia) (by rw[Int.fdiv_eq_ediv_of_nonneg i (by lia)];exact q) (.inl (PyProof.noPylong_small (by lia)))
theorem qHu:OpR X (binaryOp .Mod) (rI (λ _ j=>0<j) λ i j=> .int (i % j)):=opI λ i j _ _ _ _ _ hc q=>by have h1:(0:Int)<j:=hc;exact mod_int' (by lia) (by rw[Int.fmod_eq_emod_of_nonneg i (by lia)];exact q)
theorem qHv:OpR X (binaryOp .LShift) (rI CPow λ i j=> .int (i*2^j.toNat)):=opI λ _ _ _ _ _ _ _ hc q=>lshift_int_small hc.1 hc.2.1 hc.2.2 q
theorem qHw:OpR X (binaryOp .RShift) (rI (λ _ j=>0<=j) λ i j=> .int (i / 2^j.toNat)):=opI λ i j _ _ _ _ _ hc q =>
 rshift_int hc (by rw[Int.fdiv_eq_ediv_of_nonneg i (q5O _)];exact q)
theorem qHx:OpR X (binaryOp .BitAnd) (rI0 λ i j=> .int (Builtin.bitAnd i j)):=opI0 λ _ _ _ _ _ _ _ q=>and_int q
theorem qKX:OpR X (binaryOp .BitOr) (rI0 λ i j=> .int (Builtin.bitOr i j)):=opI0 λ _ _ _ _ _ _ _ q=>or_int q
theorem qHy:OpR X (binaryOp .BitXor) (rI0 λ i j=> .int (Builtin.bitXor i j)):=opI0 λ _ _ _ _ _ _ _ q=>xor_int q
theorem qFV:OpR X (inplaceOp .Add) (rI0 λ i j=> .int (i+j)):=opI0 λ _ _ _ _ _ _ _ q=>iadd_int q
theorem qFW:OpR X (inplaceOp .Sub) (rI0 λ i j=> .int (i-j)):=opI0 λ _ _ _ _ _ _ _ q=>isub_int q
theorem qFX:OpR X (inplaceOp .Mult) (rI CMul λ i j=> .int (i*j)):=opI λ _ _ _ _ _ _ _ hc q=>imul_int q hc.ok
theorem qDA:OpR X (inplaceOp .FloorDiv) (rI CDiv λ i j=> .int (i / j)):=opI λ i j _ _ _ _ _ hc q=>by have h1:(0:Int)<j:=hc.1;have h2:j<1073741824:=hc.2;exact ifloordiv_int (by lia) (by rw[Int.fdiv_eq_ediv_of_nonneg i (by lia)];exact q) (.inl (PyProof.noPylong_small (by lia)))
theorem qFY:OpR X (inplaceOp .Mod) (rI (λ _ j=>0<j) λ i j=> .int (i % j)):=opI λ i j _ _ _ _ _ hc q=>by have h1:(0:Int)<j:=hc;exact imod_int (by lia) (by rw[Int.fmod_eq_emod_of_nonneg i (by lia)];exact q)
theorem qFZ:OpR X (inplaceOp .LShift) (rI CPow λ i j=> .int (i*2^j.toNat)):=opI λ _ _ _ _ _ _ _ hc q=>ilshift_int_small hc.1 hc.2.1 hc.2.2 q
theorem qFa:OpR X (inplaceOp .RShift) (rI (λ _ j=>0<=j) λ i j=> .int (i / 2^j.toNat)):=opI λ i j _ _ _ _ _ hc q =>
 irshift_int hc (by rw[Int.fdiv_eq_ediv_of_nonneg i (q5O _)];exact q)
theorem qFb:OpR X (inplaceOp .BitAnd) (rI0 λ i j=> .int (Builtin.bitAnd i j)):=opI0 λ _ _ _ _ _ _ _ q=>iand_int q
theorem qHz:OpR X (inplaceOp .BitOr) (rI0 λ i j=> .int (Builtin.bitOr i j)):=opI0 λ _ _ _ _ _ _ _ q=>ior_int q
theorem qFc:OpR X (inplaceOp .BitXor) (rI0 λ i j=> .int (Builtin.bitXor i j)):=opI0 λ _ _ _ _ _ _ _ q=>ixor_int q
end
section
variable {X:Cx}{a b c:Expr}{ta tb tc:TE}{pos:Pos}
theorem q2l {pins:List (Addr×Obj)}{σ:St}{H:Hp}{s:Shared}{Q:VK}{k k':Bool}(I:Inv X pins σ H s) (q:Q (.bl k) H) (e:k=k'):EP X pins σ Q (.bool k') s:=by subst e;exact⟨.bl k,H,I,rfl,q⟩
theorem qKY:OpR X (compareOp .LtE) (rI0 λ i j=> .bl (decide (i<=j))):=opB0 λ _ _ _ _ _ _ _ q=>le_int q
theorem qKZ:OpR X (compareOp .Gt) (rI0 λ i j=> .bl (decide (j<i))):=opB0 λ _ _ _ _ _ _ _ q=>gt_int q
theorem qI0:OpR X (compareOp .Is) (λ x y H Q=>y = .non/\Q (.bl (decide (x = .non))) H):=by
 intro pins s σ H x y v u Q I rx ry h;obtain⟨rfl,q⟩:=h;cases ry;refine is_none_gen (q2l I q ?_);cases x<;>first
  |(cases rx;rfl)
  |(obtain⟨t,rfl⟩:=rx;rfl)
theorem qFd:OpR X (compareOp .IsNot) (λ x y H Q=>y = .non/\Q (.bl (!decide (x = .non))) H):=by
 intro pins s σ H x y v u Q I rx ry h;obtain⟨rfl,q⟩:=h;cases ry;refine isnot_none_gen (q2l I q ?_);cases x<;>first
  |(cases rx;rfl)
  |(obtain⟨t,rfl⟩:=rx;rfl)
def TruV (K:PySem.W.Frag) (x:V) (H:Hp) (k:Bool):Prop :=
 match x with
 | .non=>k=false
 | .bl b=>k=b
 | .int i=>k=(i != 0)
 | .str y=>y.length<=sizeLine/\k=((y.length:Int) != 0)
 | .byt y=>y.size<=sizeLine/\k=((y.size:Int) != 0)
 | .ref p=>(∃xs,SqL K H p xs/\k=!xs.isEmpty)\/(∃xs,SqT K H p xs/\k=!xs.isEmpty)\/∃kvs,H p=some (.dK kvs)/\k=!kvs.isEmpty
 |_=>False
theorem qAC {κ:Type}{kvs:List (κ×V)}{vs:List (κ×Value)}(r:KV kvs vs):(!vs.isEmpty)=!kvs.isEmpty:=by cases r<;>rfl
theorem q5P {xs:List V}{its:List Value}(r:Vals xs its):(!its.toArray.isEmpty)=!xs.isEmpty:=by cases r<;>simp
theorem q6t:(sizeLine:Nat)<2^63:=by rw[sizeLine_eq];decide
theorem qI1:TruR X (λ x H Q=>∃k,TruV X.K x H k/\Q k H):=by
 intro pins s σ H x v Q I rx h;obtain⟨k,e,q⟩:=h;have hl:=q6t;have hs:sizeLine=16777216:=sizeLine_eq;cases x with
 |non =>
  cases rx;have e':k=false:=e;subst e';exact truthy_none ⟨H,I,q⟩
 |bl b =>
  cases rx;have e':k=b:=e;subst e';exact wpAny_truthy_bool ⟨H,I,q⟩
 |int i =>
  obtain⟨t,rfl⟩:=rx;have e':k=(i != 0):=e;subst e';exact PySem.P.truthy_int ⟨H,I,q⟩
 |str y =>
  obtain⟨t,rfl⟩:=rx;obtain⟨hy,e'⟩:y.length<=sizeLine/\k=((y.length:Int) != 0):=e;subst e';exact PySem.P.truthy_str (by lia) ⟨H,I.tok _,q⟩
 |byt y =>
  obtain⟨t,rfl⟩:=rx;obtain⟨hy,e'⟩:y.size<=sizeLine/\k=((y.size:Int) != 0):=e;subst e';exact PySem.W.truthy_bytes (by lia) ⟨H,I.tok _,q⟩
 |ref p =>
  cases rx;have e':(∃xs,SqL X.K H p xs/\k=!xs.isEmpty)\/(∃xs,SqT X.K H p xs/\k=!xs.isEmpty)\/∃kvs,H p=some (.dK kvs)/\k=!kvs.isEmpty:=e;rcases e' with ⟨xs,hx,e'⟩|⟨xs,hx,e'⟩|⟨kvs,hx,e'⟩
  ·subst e';obtain⟨its,r,pl,hz⟩:=I.list hx;have hlen:=r.length;exact wpAny_truthy_list pl.isList (by simp only[List.size_toArray];lia) ⟨H,I.tok _,by rw[q5P r];exact q⟩
  ·subst e';obtain⟨its,r,pl,hz⟩:=I.tuple hx;have hlen:=r.length;exact truthy_tuple pl (by simp only[List.size_toArray];lia) ⟨H,I.tok _,by rw[q5P r];exact q⟩
  ·subst e';obtain⟨hz,hS,vs,r,m⟩:kvs.length<=sizeLine/\(p==sysModules)=false/\∃vs,KV kvs vs/\s.heap.DictOf (q0f X.prog X.w) p vs:=I.hok p _ hx;have hlen:kvs.length=vs.length:=Paired.length r;exact wpAny_truthy_dict hS m (by lia) ⟨H,I.tok _,by rw[qAC r];exact q⟩
 |_=>exact (show False from e).elim
theorem qAD:OpR X (binaryOp .Add) (λ x y H Q=>∃i j,x = .str i/\y = .str j/\i.length+j.length<=sizeLine/\Q (.str (i++j)) H):=by intro pins s σ H x y v u Q I rx ry h;obtain⟨i,j,rfl,rfl,hz,q⟩:=h;obtain⟨t,rfl⟩:=rx;obtain⟨t',rfl⟩:=ry;exact add_str (λ t' tk=>⟨.str (i++j),H,I.tok _,⟨_,rfl⟩,q⟩) hz
theorem vals1 {x:V}{us:List Value}(r:Vals [x] us):∃u,us=[u]/\RelV x u:=by
 cases r with
 |cons r1 r2=>cases r2;exact⟨_,rfl,r1⟩
theorem vals2 {x y:V}{us:List Value}(r:Vals [x,y] us):∃u w',us=[u,w']/\RelV x u/\RelV y w':=by
 cases r with
 |cons r1 r2 =>
  cases r2 with
  |cons r3 r4=>cases r4;exact⟨_,_,rfl,r1,r3⟩
theorem qAs (hc:X.calm=true):q6s X (.builtin "max") (λ xs H Q=>∃i j,xs=[.int i,.int j]/\Q (.int (if j > i then j else i)) H):=by
 intro pins s σ H xs us Q I r h;obtain⟨i,j,rfl,q⟩:=h;obtain⟨u,w',rfl,⟨t,rfl⟩,⟨t',rfl⟩⟩:=vals2 r;refine max_two_ints (I.ok.hd hc) λ h' tk k=>⟨_,H,I.kept k,?_,q⟩
 by_cases hj:j > i
 ·rw[if_pos hj,if_pos hj];exact⟨_,rfl⟩
 ·rw[if_neg hj,if_neg hj];exact⟨_,rfl⟩
theorem qAt (hc:X.calm=true):q6s X (.builtin "min") (λ xs H Q=>∃i j,xs=[.int i,.int j]/\Q (.int (if j<i then j else i)) H):=by
 intro pins s σ H xs us Q I r h;obtain⟨i,j,rfl,q⟩:=h;obtain⟨u,w',rfl,⟨t,rfl⟩,⟨t',rfl⟩⟩:=vals2 r;refine min_two_ints (I.ok.hd hc) λ h' tk k=>⟨_,H,I.kept k,?_,q⟩
 by_cases hj:j<i
 ·rw[if_pos hj,if_pos hj];exact⟨_,rfl⟩
 ·rw[if_neg hj,if_neg hj];exact⟨_,rfl⟩
theorem q6u:q6s X (.type "int") (λ xs H Q=>(∃i,xs=[.int i]/\Q (.int i) H)\/∃k,xs=[.bl k]/\Q (.int (if k then 1 else 0)) H):=by
 intro pins s σ H xs us Q I r h;rcases h with ⟨i,rfl,q⟩|⟨k,rfl,q⟩
 ·obtain⟨u,rfl,t,rfl⟩:=vals1 r;exact call_int_int ⟨.int i,H,I,⟨_,rfl⟩,q⟩
 ·obtain⟨u,rfl,r1⟩:=vals1 r;cases r1;exact call_int_bool ⟨.int (if k then 1 else 0),H,I.tok _,⟨_,rfl⟩,q⟩
end
end L2
namespace L2
open PySem PySem.Spec PyProof.Rows
theorem RelO.some_of {v:V}{o:Option Value}(r:RelO (some v) o):∃u,o=some u/\RelV v u:=by
 cases o with
 |none=>exact (show False from r).elim
 |some u=>exact⟨u,rfl,r⟩
end L2
namespace L2
open PySem PySem.Spec PyProof.Rows
variable {A:Around}{K:PySem.W.Frag}
structure Room (k:Nat) (A:Around):Prop where
 hd:A.handled=none
 dp:A.depth+3*k+5<recursionLimit
 un:A.units+16*k+200<cLine
theorem Room.mono {j k:Nat}(r:Room k A) (h:j<=k):Room j A:=⟨r.hd,by have:=r.dp;lia,by have:=r.un;lia⟩
theorem Room.deeper {k:Nat}(r:Room (k+1) A) (env:Env):Room k (A.deeper env) :=
 ⟨r.hd,by have:=r.dp;show A.depth+1+3*k+5<_;lia,by have:=r.un;show A.units+3+16*k+200<_;lia⟩
theorem Room.depth {k:Nat}(r:Room k A):A.depth<recursionLimit:=by have:=r.dp;lia
theorem Room.units {k:Nat}(r:Room k A):A.units+64<cLine:=by have:=r.un;lia
abbrev Sp:=List V->Hp->VK->XK->Prop
abbrev CXT:=List Env->Hp->Shared->XK->Value->Shared->Prop
structure Env0 (P:Program) (w:World) (K:PySem.W.Frag) (mg:Str->Option Value) (base:Heap) (A:Around) (outer:List Env) (s:Shared) (H:Hp):Prop where
 frames:A.frames=some outer
 mod:Mod K mg base
 bs:∀b o,base.get? b=some o->s.heap.get? b=some o/\H b=none
 bsz:base.objs.size<=s.heap.objs.size
 funs:s.heap.FunFrames base outer
 frf:∀b∈frs outer,H b=none
 hok:HOk P w H s.heap
 bare:AllBare s.gens
def CE (outer:List Env) (P:Program) (w:World) (H:Hp) (s:Shared) (Q:VK) (u:Value) (s':Shared):Prop :=
 ∃v H',s'.os=s.os/\AllBare s'.gens/\Un (frs outer) [] H H' s.heap s'.heap/\HOk P w H' s'.heap/\RelV v u/\Q v H'
def CR (CX:CXT) (outer:List Env) (P:Program) (w:World) (H:Hp) (s:Shared) (Q:VK) (E:XK) (r:Result) (s':Shared):Prop :=
 match r with
 | .ok (.ret u)=>CE outer P w H s Q u s'
 | .ok _=>False
 | .error e=>CX outer H s E e s'
structure FnOk (P:Program) (w:World) (K:PySem.W.Frag) (mg:Str->Option Value) (base:Heap) (CX:CXT) (k:Nat) (f:Addr) (fd:FuncData) (ps:List Str) (sp:Sp):Prop where
 len:∀vs H Q E,sp vs H Q E->vs.length=ps.length
 run:∀(A:Around) (outer:List Env) (s:Shared) (H:Hp) (args:Args) (us:List Value) (vs:List V) (Q:VK) (E:XK),Room k A->Env0 P w K mg base A outer s H->BindsTo s fd args (ps.zip us)->Vals vs us->sp vs H Q E->
  codeAny (model P w) A (.call (.ref f) args) (CR CX outer P w H s Q E) s
theorem FnOk.imp {P:Program}{w:World}{mg:Str->Option Value}{base:Heap}{CX:CXT}{k:Nat}{f:Addr}{fd:FuncData}{ps:List Str}{sp sp':Sp}(F:FnOk P w K mg base CX k f fd ps sp)
  (h:∀vs H Q E,sp' vs H Q E->sp vs H Q E):FnOk P w K mg base CX k f fd ps sp' :=
 ⟨λ vs H Q E q=>F.len vs H Q E (h _ _ _ _ q),λ A outer s H args us vs Q E hr he hb hv hs=>F.run A outer s H args us vs Q E hr he hb hv (h _ _ _ _ hs)⟩
section
variable {X:Cx}{pins:List (Addr×Obj)}{σ:St}{H:Hp}{s s':Shared}
theorem Inv.env0 (I:Inv X pins σ H s):Env0 X.prog X.w X.K X.mg X.base X.A X.stack s H :=
 ⟨I.ok.frames,I.ok.mod,I.bs,Nat.le_trans I.ok.bsz I.sz,I.stack,I.q89,I.hok,I.bare⟩
theorem Inv.after {Q:VK}{u:Value}(I:Inv X pins σ H s) (h:CE X.stack X.prog X.w H s Q u s'):EP X pins σ Q u s':=by obtain⟨v,H',os,bare,un,hok,r,q⟩:=h;obtain⟨hh,g,d,t,os'⟩:=s';obtain rfl:os'=s.os:=os;exact⟨v,H',I.call (h':=hh) (g':=g) (d':=d) (t':=t) (ch:=[]) un hok bare (λ b z=>absurd z (by simp)),r,q⟩
end
def Binds (K:PySem.W.Frag) (fd:FuncData) (ps:List Str) (ds:List Value):Prop :=
 ∀(s:Shared) (us:List Value),K.In s.heap->(us++ds).length=ps.length->BindsTo s fd ⟨us,[]⟩ (ps.zip (us++ds))
theorem Binds.all {fd:FuncData}{ps:List Str}(h:∀us:List Value,us.length=ps.length->bindArgs fd ⟨us,[]⟩=pure (ps.zip us)):Binds K fd ps []:=λ s us _ hl=>by rw[List.append_nil] at hl |-;exact .of_eq (h us hl)
section
variable {X:Cx}{CX:CXT}{k:Nat}{f C:Addr}{fd:FuncData}{ps:List Str}{sp:Sp}{dvs:List V}{ds:List Value}{E:XK}{x m:Str}{p pos apos:Pos}{e o:Expr}{es:List Expr}{ta:TE}{t:TA}
structure Mk (K:PySem.W.Frag) (C f:Addr):Prop where
 makes:PySem.W.makesIn K C=true
 init:PySem.W.findIn K (.ref C) "__init__" = some (some (.ref f))
 fn:PySem.W.isFn K (.ref f)=true
 kp:PySem.W.keepIn K (.ref C)=true
end
structure FnScope (N P:List Str) (sc:Scope):Prop where
 kind:sc.kind = .function
 co:sc.isCoroutine=false
 gen:sc.isGenerator=false
 nd:N.Nodup
 pre:N.take P.length=P
 par:∀x∈P,sc.names.lookup x=some .local\/sc.names.lookup x=some .cell
 nofree:∀y∈sc.names,y.2 ≠ .free
theorem q6v {kindOf:Str->Option NameKind}{x:Str}:∀{binds:List (Str×Value)}{m:Str->Option Value},(∀v,(x,v)∉binds)->bindL kindOf binds m x=m x
 |[],_,_=>rfl
 |(n,v)::r,m,h=>by
  unfold bindL;rw[q6v λ w hw=>h w (List.mem_cons_of_mem _ hw)];split
  ·have:x≠n:=(by rintro rfl;exact h v List.mem_cons_self);simp[this]
  ·rfl
theorem q6w {kindOf:Str->Option NameKind}{x:Str}:∀{binds:List (Str×Value)}{m:Str->Option Value},(∀v,(x,v)∉binds)->bindC kindOf binds m x=m x
 |[],_,_=>rfl
 |(n,v)::r,m,h=>by
  unfold bindC;rw[q6w λ w hw=>h w (List.mem_cons_of_mem _ hw)];split
  ·rfl
  ·have:x≠n:=(by rintro rfl;exact h v List.mem_cons_self);simp[this]
theorem q6x {kindOf:Str->Option NameKind}{x:Str}{v:Value}:∀{P:List Str}{vs:List Value}{i:Nat}{m:Str->Option Value},P.Nodup->P[i]? = some x->vs[i]? = some v->kindOf x=some .local->
  bindL kindOf (P.zip vs) m x=some v
 |[],_,_,_,_,h,_,_=>by simp at h
 |_::_,[],_,_,_,_,h,_=>by simp at h
 |p::P,w::vs,0,m,nd,h1,h2,hk=>by simp at h1 h2;subst h1;subst h2;show bindL kindOf ((p,w)::P.zip vs) m p=_;unfold bindL;rw[q6v λ v hv=>(List.nodup_cons.mp nd).1 (List.of_mem_zip hv).1,if_pos hk];simp
 |p::P,w::vs,i+1,m,nd,h1,h2,hk=>by show bindL kindOf ((p,w)::P.zip vs) m x=_;unfold bindL;exact q6x (i:=i) (List.nodup_cons.mp nd).2 (by simpa using h1) (by simpa using h2) hk
theorem q6y {kindOf:Str->Option NameKind}{x:Str}{v:Value}:∀{P:List Str}{vs:List Value}{i:Nat}{m:Str->Option Value},P.Nodup->P[i]? = some x->vs[i]? = some v->kindOf x≠some .local->
  bindC kindOf (P.zip vs) m x=some v
 |[],_,_,_,_,h,_,_=>by simp at h
 |_::_,[],_,_,_,_,h,_=>by simp at h
 |p::P,w::vs,0,m,nd,h1,h2,hk=>by simp at h1 h2;subst h1;subst h2;show bindC kindOf ((p,w)::P.zip vs) m p=_;unfold bindC;rw[q6w λ v hv=>(List.nodup_cons.mp nd).1 (List.of_mem_zip hv).1,if_neg hk];simp
 |p::P,w::vs,i+1,m,nd,h1,h2,hk=>by show bindC kindOf ((p,w)::P.zip vs) m x=_;unfold bindC;exact q6y (i:=i) (List.nodup_cons.mp nd).2 (by simpa using h1) (by simpa using h2) hk
def start (N:List Str) (vs:List V):St:=vs.map some++List.replicate (N.length-vs.length) none
def cxOf (CX:CXT) (P:Program) (w:World) (K:PySem.W.Frag) (mg:Str->Option Value) (base:Heap) (N:List Str) (qual:Str) (scope:Scope) (f:Addr) (cd:Value) (A:Around) (outer:List Env) (s:Shared) (H:Hp) (E:XK):Cx where
 prog:=P
 w:=w
 K:=K
 mg:=mg
 base:=base
 A:=A.deeper (envOfC qual scope s.heap.objs.size f cd)
 N:=N
 s₀:=s
 H₀:=H
 env:=envOfC qual scope s.heap.objs.size f cd
 outer:=outer
 stack:=envOfC qual scope s.heap.objs.size f cd::outer
 ex:=[]
 calm:=true
 fn:=λ _=>true
 pn:=[]
 xe:=λ e s'=>wpAny (model P w) (A.deeper (envOfC qual scope s.heap.objs.size f cd)) (leaving (envOfC qual scope s.heap.objs.size f cd) e) (λ _ s''=>CX outer H s E e s'') (λ e' s''=>CX outer H s E e' s'') s'
theorem q91 {sc:Scope}{n:Nat}{x:Str}(h:sc.names.lookup x=some .cell):∃c,(cellsFrom n sc.names []).lookup x=some c:=by have q:=PySem.W.cellsFrom_some sc.names n [] (.inl h);exact Option.isSome_iff_exists.mp q
theorem qAu {CX:CXT}{P:Program}{w:World}{mg:Str->Option Value}{base:Heap}{N ps:List Str}{qual:Str}{scope:Scope}{f:Addr}{cd:Value}{outer:List Env}{s s1:Shared}{H:Hp}{E:XK}{us:List Value}{vs:List V}
  (S:FnScope N ps scope) (hd:A.handled=none) (e0:Env0 P w K mg base A outer s H) (hl:vs.length=ps.length) (r:Vals vs us)
  (x:InCallC s s.heap.objs.size (bindL (envOfC qual scope s.heap.objs.size f cd).kindOf (ps.zip us) λ _=>none) (cellsFrom (s.heap.objs.size+1) scope.names []) (bindC (envOfC qual scope s.heap.objs.size f cd).kindOf (ps.zip us) λ _=>none) s1) :
  Inv (cxOf CX P w K mg base N qual scope f cd A outer s H E) [] (start N vs) H s1:=by
 have hpl:ps.length<=N.length:=by have:=congrArg List.length S.pre;rw[List.length_take] at this;lia
 obtain⟨h1,tk,rfl,hk⟩:=x.done;have noA:∀b:Addr,b∉(cxOf CX P w K mg base N qual scope f cd A outer s H E).ex:=λ b z=>absurd (show b∈([]:List Addr) from z) (by simp);refine⟨⟨e0.mod,S.kind,rfl,rfl,Nat.le_refl _,λ y z c h1 h2=>?_,λ y hy=>?_,λ y c _ h=>?_,λ _=>hd,Around.frames_deeper e0.frames,.inr ⟨rfl,rfl⟩,λ b z=>absurd z (noA b),e0.bs,e0.bsz,λ b _ _=>noA b,λ b z=>absurd z (noA b),e0.funs,e0.frf⟩,
  rfl,e0.bare,Un.kept hk,⟨_,x.toInCall.ns,λ i y v h1 h2 h3=>?_⟩,λ y c h=>⟨_,x.cell y c h⟩,e0.hok.fresh (Nat.le_refl _),λ y c h=>?_,λ p hp=>absurd (show p∈([]:List (Addr×Obj)) from hp) (by simp),e0.hok.kept hk,?_⟩
 ·exact name_of_addr x.apart (PySem.mem_of_lookup h1) (PySem.mem_of_lookup h2)
 ·have hy:scope.names.lookup y=some .cell\/scope.names.lookup y=some .free:=hy;rcases hy with hy|hy
  ·exact q91 hy
  ·exact absurd rfl (S.nofree _ (PySem.mem_of_lookup hy))
 ·exact Nat.le_of_lt (x.above y c (PySem.mem_of_lookup h))
 ·have hi:i<vs.length:=by
   unfold start at h2
   by_cases hi:i<vs.length
   ·exact hi
   ·rw[List.getElem?_append_right (by simpa using hi)] at h2;rw[List.getElem?_replicate] at h2;split at h2<;>cases h2
  have ha:vs[i]? = some v:=by
   unfold start at h2;rw[List.getElem?_append_left (by simpa using hi),List.getElem?_map] at h2;cases e:vs[i]? with
   |none=>rw[e] at h2;cases h2
   |some a=>rw[e] at h2;cases h2;rfl
  obtain⟨u,hu,rv⟩:=r.get ha;have hp:ps[i]? = some y:=by rw[<-S.pre,List.getElem?_take_of_lt (by lia)];exact h1
  have ndP:ps.Nodup:=by rw[<-S.pre];exact S.nd.sublist (List.take_sublist _ _)
  refine⟨u,rv,?_⟩;rcases S.par y (List.mem_of_getElem? hp) with k|k
  ·exact .inl ⟨k,q6x ndP hp hu k⟩
  ·obtain⟨c,e⟩:=q91 (n:=s.heap.objs.size+1) k;refine .inr ⟨.inl k,c,e,?_⟩;have q:=x.cell y c e;rw[q6y ndP hp hu (by show scope.names.lookup y≠_;rw[k];decide)] at q;exact q
 ·exact e0.hok.fresh (Nat.le_of_lt (x.above y c (PySem.mem_of_lookup h)))
 ·unfold start;show _=N.length;rw[List.length_append,List.length_map,List.length_replicate];lia
end L2
namespace L2
open PySem PySem.Spec PyProof.Rows
variable {xs:List (List Key×Addr×Value)}{H':Hp}{Q:Value->Shared->Prop}
section
variable {κ:Type}[DecidableEq κ]
def valV (kvs:List (κ×V)) (k:κ):Option V:=(kvs.find? λ kv=>decide (kv.1=k)).map (·.2)
def putK (kvs:List (κ×V)) (k:κ) (v:V):List (κ×V) :=
 if (kvs.any λ kv=>decide (kv.1=k))=true then kvs.map (λ kv=>if kv.1=k then (kv.1,v) else kv) else kvs++[(k,v)]
theorem q3A {p:κ×V}{r:List (κ×V)}{k:κ}(e:p.1=k):valV (p::r) k=some p.2:=by simp[valV,List.find?_cons,e]
theorem q2X {p:κ×V}{r:List (κ×V)}{k:κ}(e:¬p.1=k):valV (p::r) k=valV r k:=by simp[valV,List.find?_cons,e]
theorem q92 (k:κ):∀kvs:List (κ×V),(kvs.any λ kv=>decide (kv.1=k))=(valV kvs k).isSome
 |[]=>rfl
 |p::r=>by
  rw[List.any_cons]
  by_cases e:p.1=k
  ·simp only[q3A e,decide_eq_true e,Bool.true_or,Option.isSome_some]
  ·rw[q2X e,decide_eq_false e,Bool.false_or];exact q92 k r
theorem q4c (kvs:List (κ×V)) (k:κ) (v:V):(putK kvs k v).length<=kvs.length+1:=by
 unfold putK;split
 ·rw[List.length_map];lia
 ·rw[List.length_append,List.length_cons,List.length_nil];lia
theorem RelO.q2I {o:Option V}{u:Option Value}(r:RelO o u):o.isSome=u.isSome:=by
 cases o with
 |none=>cases u with
  |none=>rfl
  |some _=>exact (show False from r).elim
 |some _=>cases u with
  |none=>exact (show False from r).elim
  |some _=>rfl
theorem KV.val {kvs:List (κ×V)}{vs:List (κ×Value)}(r:KV kvs vs) (k:κ):RelO (valV kvs k) (valueAt vs k):=by
 unfold KV at r
 induction r with
 |nil=>exact True.intro
 |@cons p q ps qs h t ih =>
  obtain⟨h1,h2⟩:=h
  by_cases e:p.1=k
  ·have e':q.1=k:=h1.symm.trans e;have b:valueAt (q::qs) k=some q.2:=(by simp[valueAt,List.find?_cons,e']);rw[q3A e,b];exact h2
  ·have e':¬q.1=k:=λ z=>e (h1.trans z);have b:valueAt (q::qs) k=valueAt qs k:=(by simp[valueAt,List.find?_cons,e']);rw[q2X e,b];exact ih
theorem KV.any {kvs:List (κ×V)}{vs:List (κ×Value)}(r:KV kvs vs) (k:κ):(kvs.any λ kv=>decide (kv.1=k))=vs.any λ kv=>decide (kv.1=k):=by
 unfold KV at r
 induction r with
 |nil=>rfl
 |cons h t ih=>rw[List.any_cons,List.any_cons,ih,h.1]
theorem KV.repl {kvs:List (κ×V)}{vs:List (κ×Value)}(r:KV kvs vs) (k:κ) {y:V}{u:Value}(ry:RelV y u) :
  KV (kvs.map λ kv=>if kv.1=k then (kv.1,y) else kv) (vs.map λ kv=>if kv.1=k then (kv.1,u) else kv):=by
 unfold KV at r |-
 induction r with
 |nil=>exact .nil
 |@cons p q ps qs h t ih =>
  rw[List.map_cons,List.map_cons];refine .cons ?_ ih;obtain⟨h1,h2⟩:=h
  by_cases e:p.1=k
  ·rw[if_pos e,if_pos (h1.symm.trans e)];exact⟨h1,ry⟩
  ·rw[if_neg e,if_neg (λ z=>e (h1.trans z))];exact⟨h1,h2⟩
theorem KV.put {kvs:List (κ×V)}{vs:List (κ×Value)}(r:KV kvs vs) (k:κ) {y:V}{u:Value}(ry:RelV y u):KV (putK kvs k y) (stored vs k u):=by
 unfold putK stored;rw[r.any k]
 by_cases e:(vs.any λ kv=>decide (kv.1=k))=true
 ·rw[if_pos e,if_pos e];exact r.repl k ry
 ·rw[if_neg e,if_neg e];exact Paired.snoc r ⟨rfl,ry⟩
theorem KV.length {kvs:List (κ×V)}{vs:List (κ×Value)}(r:KV kvs vs):kvs.length=vs.length:=Paired.length r
end
theorem qAE {P:Program}{w:World}{k:Key}{u:Value}(r:RelV (kV k) u):(q0f P w).is k u=true:=by
 cases k with
 |inl i=>obtain⟨t,e⟩:=(show ∃t,u=Value.int i t from r);subst e;exact q87 P w i t
 |inr x=>obtain⟨t,e⟩:=(show ∃t,u=Value.str x t from r);subst e;exact q88 P w x t
theorem q6z {P:Program}{w:World}:∀{ks:List Key}{us:List Value},Vals (ks.map kV) us->ItemsAre (q0f P w) ks us
 |[],_,r=>by rw[List.map_nil] at r;cases r;exact .nil
 |k::ks,_,r=>by
  rw[List.map_cons] at r;cases r with
  |cons h t=>exact .cons (qAE h) (q6z t)
abbrev KT (H:Hp):List (List Key×V)->List (List Key×Addr×Value)->Prop:=Paired λ p q=>p.1=q.1/\H q.2.1=some (.tup (p.1.map kV))/\RelV p.2 q.2.2
theorem KT.val {H:Hp}{kvs:List (List Key×V)}(r:KT H kvs xs) (k:List Key):RelO (valV kvs k) ((atKey xs k).map (·.2)):=by
 induction r with
 |nil=>exact True.intro
 |@cons p q ps qs h t ih =>
  obtain⟨h1,_,h2⟩:=h
  by_cases e:p.1=k
  ·have e':q.1=k:=h1.symm.trans e;have b:atKey (q::qs) k=some q.2:=(by simp[atKey,List.find?_cons,e']);rw[q3A e,b];exact h2
  ·have e':¬q.1=k:=λ z=>e (h1.trans z);have b:atKey (q::qs) k=atKey qs k:=(by simp[atKey,List.find?_cons,e']);rw[q2X e,b];exact ih
theorem KT.repl {H:Hp}{kvs:List (List Key×V)}(r:KT H kvs xs) (k:List Key) {y:V}{u:Value}(ry:RelV y u) :
  KT H (kvs.map λ kv=>if kv.1=k then (kv.1,y) else kv) (xs.map (putAt k u)):=by
 induction r with
 |nil=>exact .nil
 |@cons p q ps qs h t ih =>
  rw[List.map_cons,List.map_cons];refine .cons ?_ ih;obtain⟨h1,h2,h3⟩:=h;unfold putAt
  by_cases e:p.1=k
  ·rw[if_pos e,if_pos (h1.symm.trans e)];exact⟨h1,h2,ry⟩
  ·rw[if_neg e,if_neg (λ z=>e (h1.trans z))];exact⟨h1,h2,h3⟩
theorem KT.put {H:Hp}{kvs:List (List Key×V)}(r:KT H kvs xs) (k:List Key) {b:Addr}{y:V}{u:Value}(hb:H b=some (.tup (k.map kV))) (ry:RelV y u) :
  KT H (putK kvs k y) (storedH xs k b u):=by
 have e:(kvs.any λ kv=>decide (kv.1=k))=(atKey xs k).isSome:=by rw[q92,(r.val k).q2I,Option.isSome_map]
 unfold putK storedH;rw[e]
 by_cases q:(atKey xs k).isSome=true
 ·rw[if_pos q,if_pos q];exact r.repl k ry
 ·rw[if_neg q,if_neg q];exact Paired.snoc r ⟨rfl,hb,ry⟩
theorem KT.keeps {H:Hp}{kvs:List (List Key×V)}(r:KT H kvs xs) (ht:∀b ys,H b=some (.tup ys)->H' b=some (.tup ys)):KT H' kvs xs :=
 Paired.mapP r λ _ _ z=>⟨z.1,ht _ _ z.2.1,z.2.2⟩
section
variable {P:Program}{w:World}{H:Hp}{h:Heap}{a:Addr}
theorem qI2 {u:HO}(ok:HOk P w H h) (e:Rd H a u):q1T P w H h a u:=e.ok ok
theorem q8A {kvs:List (Key×V)}(ok:HOk P w H h) (e:Rd H a (.dK kvs)):kvs.length<=sizeLine/\(a==sysModules)=false/\∃vs,KV kvs vs/\h.DictOf (q0f P w) a vs :=
 show q1T P w H h a (.dK kvs) from qI2 ok e
theorem qFe {kvs:List (Key×V)}(ok:HOk P w H h) (e:H a=some (.dK kvs)):kvs.length<=sizeLine/\(a==sysModules)=false/\∃vs,KV kvs vs/\h.DictOf (q0f P w) a vs:=q8A ok (.inl e)
theorem q70 {ks:List Key}(ok:HOk P w H h) (e:H a=some (.tup (ks.map kV))):(tupleKind (q0f P w)).is h ks a:=by
 obtain⟨_,its,r,o,h1,h2,n,h3⟩:=(show q1T P w H h a (.tup (ks.map kV)) from ok a _ e)
 exact⟨o,its.toArray,n,h1,h2,h3,by simpa using q6z r⟩
theorem qAv {kvs:List (List Key×V)}(ok:HOk P w H h) (e:Rd H a (.dT kvs)):kvs.length<=sizeLine/\(a==sysModules)=false/\
  ∃xs,KT H kvs xs/\h.DictOfH (tupleKind (q0f P w)) a xs:=by
 obtain⟨z,y,xs,r,o,es,ep,h1,h2,h3,h4,h5⟩:=(show q1T P w H h a (.dT kvs) from qI2 ok e)
 refine⟨z,y,xs,r,o,es,ep,h1,h2,h3,h4,λ x hx=>?_,h5⟩;have all:∀{l:List (List Key×V)}{m:List (List Key×Addr×Value)},KT H l m->∀x∈m,(tupleKind (q0f P w)).is h x.1 x.2.1:=by
  intro l m q
  induction q with
  |nil=>intro x hx;exact nomatch hx
  |@cons p q ps qs hq t ih =>
   intro x hx;rcases List.mem_cons.mp hx with e|hx
   ·subst e;exact q70 ok (by rw[<-hq.1];exact hq.2.1)
   ·exact ih x hx
 exact all r x hx
theorem qKa {kvs:List (List Key×V)}(ok:HOk P w H h) (e:H a=some (.dT kvs)):kvs.length<=sizeLine/\(a==sysModules)=false/\
  ∃xs,KT H kvs xs/\h.DictOfH (tupleKind (q0f P w)) a xs:=qAv ok (.inl e)
end
def DGet (H:Hp) (a:Addr) (y:V) (r:Option V):Prop :=
 (∃kvs k,Rd H a (.dK kvs)/\y=kV k/\r=valV kvs k)\/∃kvs k b,Rd H a (.dT kvs)/\y = .ref b/\H b=some (.tup (k.map kV))/\r=valV kvs k
def DPut (H:Hp) (a:Addr) (y v:V) (H':Hp):Prop :=
 (∃kvs k,H a=some (.dK kvs)/\y=kV k/\kvs.length<sizeLine/\H'=upd H a (.dK (putK kvs k v)))\/
 ∃kvs k b,H a=some (.dT kvs)/\y = .ref b/\H b=some (.tup (k.map kV))/\kvs.length<sizeLine/\H'=upd H a (.dT (putK kvs k v))
theorem DPut.k {H:Hp}{a:Addr}{kvs:List (Key×V)}{k:Key}{v:V}(e:H a=some (.dK kvs)) (hl:kvs.length<sizeLine):DPut H a (kV k) v (upd H a (.dK (putK kvs k v))):= .inl ⟨kvs,k,e,rfl,hl,rfl⟩
section
variable {X:Cx}{pins:List (Addr×Obj)}{σ:St}{H:Hp}{s:Shared}{a:Addr}{y v:V}{u r:Value}{o:Option V}{A:Around}{E:Value->Shared->Prop}
theorem Inv.big (I:Inv X pins σ H s):sysModules<s.heap.objs.size:=by have h:mainGlobals<s.heap.objs.size:=(I.mod.glob.keeps I.bk).lt;exact Nat.lt_trans (by decide) h
theorem qAw (hu:A.units+1<cLine) (I:Inv X pins σ H s) (g:DGet H a y (some v)) (ry:RelV y u) (h:∀w' s',Inv X pins σ H s'->RelV v w'->Q w' s') :
  wpAny (model X.prog X.w) A (getItem (.ref a) u) Q E s:=by
 rcases g with ⟨kvs,k,e,ey,l⟩|⟨kvs,k,b,e,ey,eb,l⟩
 ·subst ey;obtain⟨z,hd,vs,rel,dd⟩:=q8A I.hok e;obtain⟨w',hw,rw'⟩:=RelO.some_of (v:=v) (o:=valueAt vs k) (by rw[l];exact rel.val k);exact wpAny_getItem_of (qAE ry) dd.mapOf hw (h w' _ (I.tok _) rw')
 ·subst ey;cases (show u=Value.ref b from ry);obtain⟨z,hd,xs,rel,dd⟩:=qAv I.hok e;obtain⟨w',hw,rw'⟩:=RelO.some_of (v:=v) (o:=(atKey xs k).map (·.2)) (by rw[l];exact rel.val k);obtain⟨p,hp,hp2⟩:=Option.map_eq_some_iff.mp hw;refine wpAny_getItem_heap (tupleKind_room_in1 hu) (q70 I.hok eb) dd hp ?_;rw[hp2];exact h w' _ (I.tok _) rw'
theorem d_in (hu:A.units+1<cLine) (I:Inv X pins σ H s) (g:DGet H a y o) (ry:RelV y u) (h:∀s',Inv X pins σ H s'->Q (.bool o.isSome) s') :
  wpAny (model X.prog X.w) A (compareOp .In u (.ref a)) Q E s:=by
 rcases g with ⟨kvs,k,e,ey,l⟩|⟨kvs,k,b,e,ey,eb,l⟩
 ·subst ey;obtain⟨z,hd,vs,rel,dd⟩:=q8A I.hok e;refine wpAny_in_of (qAE ry) hd dd.mapOf ?_;rw[<-(rel.val k).q2I,<-l];exact h _ (I.tok _)
 ·subst ey;cases (show u=Value.ref b from ry);obtain⟨z,hd,xs,rel,dd⟩:=qAv I.hok e;refine wpAny_in_heap (tupleKind_room_in1 hu) (q70 I.hok eb) hd dd ?_;have q:=(rel.val k).q2I;rw[Option.isSome_map] at q;rw[<-q,<-l];exact h _ (I.tok _)
theorem qFf (hu:A.units+1<cLine) (I:Inv X pins σ H s) (g:DGet H a y o) (ry:RelV y u) (h:∀s',Inv X pins σ H s'->Q (.bool (!o.isSome)) s') :
  wpAny (model X.prog X.w) A (compareOp .NotIn u (.ref a)) Q E s:=by
 rcases g with ⟨kvs,k,e,ey,l⟩|⟨kvs,k,b,e,ey,eb,l⟩
 ·subst ey;obtain⟨z,hd,vs,rel,dd⟩:=q8A I.hok e;refine wpAny_notIn_of (qAE ry) hd dd.mapOf ?_;rw[<-(rel.val k).q2I,<-l];exact h _ (I.tok _)
 ·subst ey;cases (show u=Value.ref b from ry);obtain⟨z,hd,xs,rel,dd⟩:=qAv I.hok e;refine wpAny_notIn_heap (tupleKind_room_in1 hu) (q70 I.hok eb) hd dd ?_;have q:=(rel.val k).q2I;rw[Option.isSome_map] at q;rw[<-q,<-l];exact h _ (I.tok _)
theorem q8B {h':Heap}{t':Nat}{ob:HO}(I:Inv X pins σ H s) (mu:Mut (H a)) (hs:Heap.SameBut a s.heap h') (he:∃q,h'.get? a=some q) (new:q1T X.prog X.w (upd H a ob) h' a ob) :
  Inv X pins σ (upd H a ob) {s with heap:=h',toks:=t'} :=
 I.write (x:=a) (e:=a) mu (.inl rfl) (λ b q hb z=>(hs.2 b hb).trans z) he new
theorem qEn {P:Program}{w:World}{h':Heap}{kvs:List (Key×V)}{vs:List (Key×Value)}(z:kvs.length<=sizeLine) (hd:(a==sysModules)=false) (rel:KV kvs vs) (dd:h'.DictOf (q0f P w) a vs) :
  q1T P w H' h' a (.dK kvs):=⟨z,hd,vs,rel,dd⟩
theorem qAx {Q:Unit->Shared->Prop}(hu:A.units+1<cLine) (I:Inv X pins σ H s) (g:DPut H a y v H') (ry:RelV y u) (rv:RelV v r) (h:∀s',Inv X pins σ H' s'->Q () s') :
  wpAny (model X.prog X.w) A (setItem (.ref a) u r) Q E s:=by
 rcases g with ⟨kvs,k,e,ey,l,eH⟩|⟨kvs,k,b,e,ey,eb,l,eH⟩
 ·subst ey eH;obtain⟨z,hd,vs,rel,dd⟩:=qFe I.hok e;have hz:vs.length<=sizeLine:=by rw[<-rel.length];exact z
  have hl:(putK kvs k v).length<=sizeLine:=by have:=q4c kvs k v;lia
  refine wpAny_setItem_pairs (hsz:=hz) (qAE ry) dd λ h' dd' hs=>h _ ?_;have he:∃q,h'.get? a=some q:=let ⟨q,_,_,hq,_⟩:=dd';⟨q,hq⟩;exact q8B I (by rw[e];exact True.intro) hs he (qEn hl hd (rel.put k rv) dd')
 ·subst ey eH;cases (show u=Value.ref b from ry);obtain⟨z,hd,xs,rel,dd⟩:=qKa I.hok e;have hz:xs.length<=sizeLine:=by rw[<-Paired.length rel];exact z
  have hl:(putK kvs k v).length<=sizeLine:=by have:=q4c kvs k v;lia
  refine wpAny_setItem_heap (hsz:=hz) (tupleKind_room_in1 hu) (q70 I.hok eb) dd λ h' dd' hs=>h _ ?_;obtain⟨q,es,ep,hq,h2,h3,h4,_,h5⟩:=dd';refine q8B I (by rw[e];exact True.intro) hs ⟨q,hq⟩ ⟨hl,hd,_,(rel.put k eb rv).keeps λ c ys ec=>?_,q,es,ep,hq,h2,h3,h4,h5⟩;rw[q06 (qKU ec e (λ z=>nomatch z))];exact ec
end
section
variable {X:Cx}{pins:List (Addr×Obj)}{σ:St}{H:Hp}{s:Shared}{a:Addr}{kvs:List (Key×V)}{k:Key}{u:Value}{A:Around}{E:Value->Shared->Prop}
theorem qKb (I:Inv X pins σ H s) (e:Rd H a (.dK kvs)) (h:∀t s',Inv X pins σ H s'->Q (.int kvs.length t) s'):wpAny (model X.prog X.w) A (call (.builtin "len") [.ref a]) Q E s:=by obtain⟨z,hd,vs,rel,dd⟩:=q8A I.hok e;refine call_len_dict hd dd (by rw[<-rel.length];rw[sizeLine_eq] at z;lia) ?_;rw[<-rel.length];exact h _ _ (I.tok _)
end
theorem qDB {P:Program}{w:World}{H:Hp}(h:Heap) (hb:sysModules<h.objs.size):q1T P w H (h.push {cls:= .type "dict",data:= .dict #[]}) h.objs.size (.dK []) :=
 ⟨Nat.zero_le _,beq_eq_false_iff_ne.mpr (Ne.symm (Nat.ne_of_lt hb)),[],.nil,Heap.DictOf.new h⟩
abbrev VV:List (V×V)->List (Value×Value)->Prop:=Paired λ p q=>RelV p.1 q.1/\RelV p.2 q.2
def qEo (kvs more:List (Key×V)):List (Key×V):=more.foldl (λ acc kv=>putK acc kv.1 kv.2) kvs
theorem KV.merge:∀{more:List (Key×V)}{rs:List (Key×Value)}{kvs:List (Key×V)}{vs:List (Key×Value)},KV more rs->KV kvs vs->KV (qEo kvs more) (merged vs rs):=by
 intro more rs kvs vs r;unfold KV at r
 induction r generalizing kvs vs with
 |nil=>intro q;exact q
 |@cons p q ps qs h t ih =>
  intro r0;have e:KV (putK kvs p.1 p.2) (stored vs q.1 q.2):=by have:=r0.put p.1 h.2;rw[<-h.1];exact this
  exact ih e
theorem q5Q {P:Program}{w:World}:∀{kvs:List (Key×V)}{ws:List (Value×Value)},VV (kvs.map λ kv=>(kV kv.1,kv.2)) ws->∃rs,Carries (q0f P w) ws rs/\KV kvs rs
 |[],_,r=>by rw[List.map_nil] at r;cases r;exact⟨[],True.intro,.nil⟩
 |p::kvs,_,r=>by
  rw[List.map_cons] at r;cases r with
  |@cons a b as bs h t =>
   obtain⟨rs,c,q⟩:=q5Q (P:=P) (w:=w) t;obtain⟨b1,b2⟩:=b;exact⟨(p.1,b2)::rs,⟨qAE h.1,rfl,c⟩,.cons ⟨rfl,h.2⟩ q⟩
def IsD (H:Hp) (a:Addr):Prop:=(∃kvs,Rd H a (.dK kvs))\/∃kvs,Rd H a (.dT kvs)
theorem qI3 {X:Cx}{pins:List (Addr×Obj)}{σ:St}{H:Hp}{s:Shared}{a:Addr}(I:Inv X pins σ H s) (d:IsD H a) :
  s.TypeIs (.ref a) "dict"/\(∀b,Value.ref a = .ref b->∃ob,s.heap.get? b=some ob/\ob.dict=none)/\(a==sysModules)=false:=by
 rcases d with ⟨kvs,e⟩|⟨kvs,e⟩
 ·obtain⟨_,hd,vs,_,dd⟩:=q8A I.hok e;refine⟨dd.typeIs,λ b q=>?_,hd⟩;cases q;obtain⟨ob,_,_,h1,h2,_⟩:=dd;exact⟨ob,h1,h2.2.1⟩
 ·obtain⟨_,hd,xs,_,dd⟩:=qAv I.hok e;refine⟨dd.typeIs,λ b q=>?_,hd⟩;cases q;obtain⟨ob,_,_,h1,h2,_⟩:=dd;exact⟨ob,h1,h2.2.1⟩
end L2
namespace HT
open PySem PyProof.Rows
section
variable {prog:Program}{w:World}{A:Around}{E:Value->Shared->Prop}{s:Shared}
theorem qFg {t b:Addr}{vs ws:List Value}{Q:Value->Shared->Prop}(ht:IsTup s.heap t vs.toArray) (hb:IsTup s.heap b ws.toArray) (hv:vs≠[])
  (h1:ws=[]->Q (.ref t) s) (h2:ws≠[]->Q (.ref s.heap.objs.size) {s with heap:=s.heap.push {cls:= .type "tuple",data:= .seq (vs++ws).toArray}})
  (hsz:vs.length+ws.length<=sizeLine):wpAny (model prog w) A (binaryOp .Add (.ref t) (.ref b)) Q E s:=by
 obtain⟨⟨cls,dd,data,sl⟩,ho,hc,n,hd⟩:=id ht;obtain⟨⟨cls2,dd2,data2,sl2⟩,ho2,hc2,n2,hd2⟩:=id hb;simp only at hc hd hc2 hd2;subst hc hd hc2 hd2;have e:vs.toArray++ws.toArray=(vs++ws).toArray:=by simp
 by_cases hw:ws=[]
 ·exact concat_meets ⟨_,ho,rfl⟩ ⟨_,ho2,rfl⟩ noFill_tuple_add seq_tuple_add PySem.F.slot_tuple_add PySem.F.entry_tuple_add (PySem.F.args_tuple_add_2 _ _)
   (tuple_addW1 t b vs.toArray ws.toArray n n2 dd dd2 sl sl2 (by simpa using hv) (by simp[hw])) ⟨ho,ho2,h1 hw⟩
 ·refine concat_meets ⟨_,ho,rfl⟩ ⟨_,ho2,rfl⟩ noFill_tuple_add seq_tuple_add PySem.F.slot_tuple_add PySem.F.entry_tuple_add (PySem.F.args_tuple_add_2 _ _)
   (tuple_addW2 t b vs.toArray ws.toArray n n2 dd dd2 sl sl2 (by simpa using hv) (by simpa using hw) (by rw[List.size_toArray,List.size_toArray];exact hsz)) ⟨ho,ho2,?_⟩
  rw[e];exact h2 hw
def sIx (n d:Nat):Option Int->Nat
 |none=>d
 |some v=>if v<0 then (v+(n:Int)).toNat else min v.toNat n
theorem qI4 (n d:Nat) (hd:d<=n) (o:Option Int):sIx n d o<=n:=by
 cases o with
 |none=>exact hd
 |some v =>
  show (if v<0 then (v+(n:Int)).toNat else min v.toNat n)<=n
  by_cases hv:v<0
  ·rw[if_pos hv];lia
  ·rw[if_neg hv];exact Nat.min_le_right _ _
theorem qAy (v:Int) (n d:Nat):(if v<0 then max (v+(n:Int)) 0 else min v (n:Int))=((sIx n d (some v):Nat):Int):=by
 show (if v<0 then max (v+(n:Int)) 0 else min v (n:Int))=(((if v<0 then (v+(n:Int)).toNat else min v.toNat n):Nat):Int)
 by_cases hv:v<0
 ·simp only[if_pos hv];lia
 ·simp only[if_neg hv];lia
theorem qAF (lo hi:Option Int) (n:Nat):Builtin.Slice.sliceAdjust lo hi 1 (n:Int)=(((sIx n 0 lo:Nat):Int),((sIx n n hi:Nat):Int)):=by
 have h1:¬((1:Int)<0):=by lia
 unfold Builtin.Slice.sliceAdjust;simp only[h1,if_false];refine Prod.ext ?_ ?_
 ·cases lo with
  |none=>rfl
  |some v=>exact qAy v n 0
 ·cases hi with
  |none=>rfl
  |some v=>exact qAy v n n
theorem qAG (i j:Nat):Builtin.Slice.slicePlaces (i:Int) (j:Int) 1=j-i:=by
 unfold Builtin.Slice.slicePlaces;have h1:(1:Int) > 0:=by lia
 simp only[h1,if_true,Int.ediv_one];split<;>lia
theorem q5R {v:Value}{o:Option Int}{Q:Option Int->Shared->Prop}(p:IsPart v o) (h:Q o s):wpAny (model prog w) A (Builtin.Slice.slicePartIndex v) Q E s:=by
 cases p with
 |none=>exact slicePart_none h
 |int i t=>exact slicePart_int h
theorem q2E {sl:Addr}{vl vu:Value}{lo hi:Option Int}{n:Nat}{Q:Int×Int×Nat->Shared->Prop}(hs:s.heap.IsSliceOf sl vl vu .none) (pl:IsPart vl lo) (pu:IsPart vu hi)
  (h:Q (((sIx n 0 lo:Nat):Int),1,sIx n n hi-sIx n 0 lo) s):wpAny (model prog w) A (Builtin.Slice.sliceApplied (.ref sl) (pure (n:Int))) Q E s:=by
 obtain⟨os,hos,hcs,hds⟩:=id hs;unfold Builtin.Slice.sliceApplied Builtin.Slice.sliceFields;refine wpAny_bind (wpAny_bind (wpAny_field hos hds (x:=vl) rfl (wpAny_bind (wpAny_field hos hds (x:=vu) rfl (wpAny_bind (wpAny_field hos hds (x:= .none) rfl (wpAny_pure ?_)))))));refine wpAny_bind (slicePart_none ?_);show wpAny _ _ (if ((1:Int)==0)=true then _ else _) _ _ s;rw[if_neg (by decide)];refine wpAny_bind (q5R pl (wpAny_bind (q5R pu (wpAny_bind (wpAny_pure ?_)))));show wpAny _ _ (match Builtin.Slice.sliceAdjust lo hi 1 (n:Int) with|(lo,hi)=>pure (lo,(1:Int),Builtin.Slice.slicePlaces lo hi 1)) _ _ s;rw[qAF lo hi n];show wpAny _ _ (pure (((sIx n 0 lo:Nat):Int),(1:Int),Builtin.Slice.slicePlaces ((sIx n 0 lo:Nat):Int) ((sIx n n hi:Nat):Int) 1)) _ _ s;rw[qAG];exact wpAny_pure h
theorem qDC (xs:Array Value) (i k:Nat):((List.range k).filterMap λ (m:Nat)=>xs[((i:Int)+(m:Int)*1).toNat]?).toArray=((xs.toList.drop i).take k).toArray:=by
 have e:(λ (m:Nat)=>xs[((i:Int)+(m:Int)*1).toNat]?)=λ m=>xs[i+m]?:=by
  funext m;have:((i:Int)+(m:Int)*1).toNat=i+m:=by lia
  rw[this]
 rw[e];have:=pick_run xs i k;rw[List.filterMap_map] at this;have e2:((λ x=>xs[x]?) ∘ λ x=>i+x)=λ m=>xs[i+m]?:=rfl;rw[e2] at this;rw[this]
theorem q3g {t sl:Addr}{items:Array Value}{vl vu:Value}{lo hi:Option Int}{Q:Value->Shared->Prop}(ht:IsTup s.heap t items) (hs:s.heap.IsSliceOf sl vl vu .none) (pl:IsPart vl lo) (pu:IsPart vu hi)
  (hw:¬(sIx items.size 0 lo=0/\sIx items.size items.size hi=items.size))
  (h:Q (.ref s.heap.objs.size) {s with heap:=s.heap.push {cls:= .type "tuple",data:= .seq ((items.toList.drop (sIx items.size 0 lo)).take (sIx items.size items.size hi-sIx items.size 0 lo)).toArray}})
  (hsz:items.size<=sizeLine):wpAny (model prog w) A (getItem (.ref t) (.ref sl)) Q E s:=by
 have htake:sizeOk (.seq ((items.toList.drop (sIx items.size 0 lo)).take (sIx items.size items.size hi-sIx items.size 0 lo)).toArray):=by show ((items.toList.drop (sIx items.size 0 lo)).take (sIx items.size items.size hi-sIx items.size 0 lo)).toArray.size<=sizeLine;rw[List.size_toArray,List.length_take,List.length_drop,Array.length_toList];lia
 have hj:sIx items.size items.size hi<=items.size:=qI4 _ _ (Nat.le_refl _) hi;obtain⟨os,hos,hcs,hds⟩:=id hs;have hTs:s.TypeIs (.ref sl) "slice":=⟨os,hos,hcs⟩
 unfold getItem
 try with_reducible refine wpAny_holding ?_
 first|refine wpAny_bind (wpAny_pure ?_)|skip
 refine wpAny_bind (wpAny_sequenceKey ht.typeIs (by decide) ?_);refine wpAny_bind (wpAny_callSpecial?_slot (name:=Str.ofString "__getitem__") ht.typeIs PyProof.Rows.slot_tuple_getitem
  (wpAny_call_entry PyProof.Rows.slot_tuple_getitem ht.typeIs entry_tuple_getitem ?_ (args_tuple_getitem _ _)))
 show wpAny _ _ (Builtin.Tuple.tupleItemsOf (.ref t) >>= _) _ _ s;refine wpAny_bind (tupleItemsOf_ ht ?_);refine wpAny_bind (wpAny_typeOf hTs ?_);rw[if_pos (by decide)];refine wpAny_bind (q2E hs pl pu ?_);have hno:¬((((sIx items.size 0 lo:Nat):Int)==0&&(1:Int)==1&&(sIx items.size items.size hi-sIx items.size 0 lo)==items.size)=true):=by intro q;rw[Bool.and_eq_true,Bool.and_eq_true] at q;have q1:((sIx items.size 0 lo:Nat):Int)=0:=eq_of_beq q.1.1;have q2:sIx items.size items.size hi-sIx items.size 0 lo=items.size:=eq_of_beq q.2;exact hw ⟨by lia,by lia⟩
 show wpAny _ _ (if (((sIx items.size 0 lo:Nat):Int)==0&&(1:Int)==1&&(sIx items.size items.size hi-sIx items.size 0 lo)==items.size)=true then _ else _) _ _ s;rw[if_neg hno,qDC]
 first
  |exact wpAny_bind (m:=Builtin.Tuple.tupleExact _) (wpAny_newObj_type (wpAny_pure ⟨_,rfl,wpAny_pure h⟩) htake)
  |exact wpAny_bind (m:=Builtin.Tuple.tupleExact _) (wpAny_newObj_type (wpAny_bind (wpAny_pure (wpAny_pure ⟨_,rfl,wpAny_pure h⟩))) htake)
  |exact wpAny_bind (wpAny_bind (m:=Builtin.Tuple.tupleExact _) (wpAny_newObj_type (wpAny_pure (wpAny_pure ⟨_,rfl,wpAny_pure h⟩)) htake))
  |exact wpAny_bind (wpAny_bind (m:=Builtin.Tuple.tupleExact _) (wpAny_newObj_type (wpAny_pure ⟨_,rfl,wpAny_pure h⟩) htake))
end
end HT
namespace L2
open PySem PySem.Spec PyProof.Rows
section
variable {X:Cx}{e:Expr}{te:TE}{lo hi:Option Expr}{tl th:TO}{pos p2:Pos}
def SlR (X:Cx) (r:V->Option Int->Option Int->Hp->VK->Prop):Prop :=
 ∀(pins:List (Addr×Obj)) (s:Shared) (σ:St) (H:Hp) (x:V) (v vl vu:Value) (lo hi:Option Int) (sl:Addr) (Q:VK),Inv X pins σ H s->RelV x v->s.heap.IsSliceOf sl vl vu .none->IsPart vl lo->IsPart vu hi->r x lo hi H Q->
  ∃T id,typeLookup (.type T) "__getitem__" = pure (some (.builtin id))/\s.TypeIs v T/\wpAny (model X.prog X.w) X.A (getItem v (.ref sl)) (EP X pins σ Q) X.xe s
def cutV (xs:List V) (lo hi:Option Int):List V:=(xs.drop (HT.sIx xs.length 0 lo)).take (HT.sIx xs.length xs.length hi-HT.sIx xs.length 0 lo)
theorem q2s (xs:List V) (lo hi:Option Int):(cutV xs lo hi).length<=xs.length:=by unfold cutV;rw[List.length_take,List.length_drop];lia
def rSlT (K:PySem.W.Frag):V->Option Int->Option Int->Hp->VK->Prop:=λ x lo hi H Q=>∃a xs,x = .ref a/\SqT K H a xs/\
 ¬(HT.sIx xs.length 0 lo=0/\HT.sIx xs.length xs.length hi=xs.length)/\∀p,H p=none->Q (.ref p) (upd H p (.tup (cutV xs lo hi)))
theorem qI5:SlR X (rSlT X.K):=by
 intro pins s σ H x v vl vu lo hi sl Q I rx hs pl pu h;obtain⟨a,xs,rfl,hx,hw,q⟩:=h;cases rx;obtain⟨its,r,ht,hz⟩:=I.tuple hx;have hlen:its.toArray.size=xs.length:=by rw[List.size_toArray];exact r.length.symm
 refine⟨"tuple",_,PyProof.Rows.slot_tuple_getitem.lookup,ht.typeIs,?_⟩;refine HT.q3g ht hs pl pu (by rw[hlen];exact hw) ?_ (by rw[hlen];exact hz);rw[hlen];refine⟨.ref s.heap.objs.size,_,I.laid (t':=s.toks) (o:= .tup (cutV xs lo hi)) (λ b ob q=>Heap.get?_push_of_some _ q) (Nat.le_refl _) ?_,rfl,q _ (I.hok.fresh (Nat.le_refl _))⟩;exact⟨Nat.le_trans (q2s xs lo hi) hz,_,(r.drop (HT.sIx xs.length 0 lo)).take (HT.sIx xs.length xs.length hi-HT.sIx xs.length 0 lo),IsTup.new _ _⟩
def qKc (K:PySem.W.Frag):R2:=λ x y H Q=>∃a b xs ys,x = .ref a/\y = .ref b/\SqT K H a xs/\SqT K H b ys/\xs≠[]/\xs.length+ys.length<=sizeLine/\
 (ys=[]->Q (.ref a) H)/\(ys≠[]->∀p,H p=none->Q (.ref p) (upd H p (.tup (xs++ys))))
theorem Vals.q5x {xs:List V}{us:List Value}(r:Vals xs us):us=[]↔xs=[]:=by
 cases r with
 |nil=>simp
 |cons _ _=>simp
theorem qFh:OpR X (binaryOp .Add) (qKc X.K):=by intro pins s σ H x y v u Q I rx ry h;obtain⟨a,b,xs,ys,rfl,rfl,ha,hb,hx,hz,q1,q2⟩:=h;cases rx;cases ry;obtain⟨its,r1,p1,_⟩:=I.tuple ha;obtain⟨its2,r2,p2,_⟩:=I.tuple hb;refine HT.qFg p1 p2 (λ z=>hx (r1.q5x.mp z)) (λ z=>⟨.ref a,H,I,rfl,q1 (r2.q5x.mp z)⟩) (λ z=>?_) (by rw[<-r1.length,<-r2.length];exact hz);refine⟨.ref s.heap.objs.size,_,I.laid (t':=s.toks) (o:= .tup (xs++ys)) (λ b ob q=>Heap.get?_push_of_some _ q) (Nat.le_refl _) ?_,rfl,q2 (λ w=>z (r2.q5x.mpr w)) _ (I.hok.fresh (Nat.le_refl _))⟩;exact⟨by rw[List.length_append];exact hz,_,r1.append r2,IsTup.new _ _⟩
end
end L2
namespace L2
open PySem PySem.Spec PyProof.Rows
def ixN (n:Nat) (i:Int):Option Nat:=if 0<=i then (if i<n then some i.toNat else none) else if -(n:Int)<=i then some (i+n).toNat else none
def atI {α:Type}(xs:List α) (i:Int):Option α:=(ixN xs.length i).bind λ j=>xs[j]?
theorem qFi {n:Nat}{i:Int}{j:Nat}(h:ixN n i=some j):seqIndex? i n=some j/\j<n/\-(n:Int)<=i/\i<n:=by
 unfold ixN at h
 by_cases h0:0<=i
 ·rw[if_pos h0] at h
  by_cases h1:i<n
  ·rw[if_pos h1] at h;have e:i.toNat=j:=Option.some.inj h;exact⟨by rw[seqIndex_of h0 h1,e],by lia,by lia,h1⟩
  ·rw[if_neg h1] at h;cases h
 ·rw[if_neg h0] at h
  by_cases h1:-(n:Int)<=i
  ·rw[if_pos h1] at h;have e:(i+n).toNat=j:=Option.some.inj h;exact⟨by rw[seqIndex_neg (by lia) h1,e],by lia,h1,by lia⟩
  ·rw[if_neg h1] at h;cases h
theorem qAz {α:Type}{xs:List α}{i:Int}{v:α}(h:atI xs i=some v):∃j,seqIndex? i xs.length=some j/\xs[j]? = some v/\j<xs.length/\-(xs.length:Int)<=i/\i<xs.length:=by
 unfold atI at h;cases e:ixN xs.length i with
 |none=>rw[e] at h;cases h
 |some j =>
  rw[e] at h;obtain⟨h1,h2,h3,h4⟩:=qFi e;exact⟨j,h1,h,h2,h3,h4⟩
def q8C (b:Expr):Prop:=∀o i,subscripted b false o i=operate [o,i] (getItem o i)
def IxR (X:Cx) (r:R2):Prop :=
 ∀(value slice:Expr) (pins:List (Addr×Obj)) (s:Shared) (σ:St) (H:Hp) (x y:V) (v u:Value) (Q:VK),Inv X pins σ H s->RelV x v->RelV y u->r x y H Q->
  subscripted slice false v u=operate [v,u] (getItem v u)->wpAny (model X.prog X.w) X.A (subscriptTail value slice v u) (EP X pins σ Q) X.xe s
section
variable {X:Cx}{a b:Expr}{ta tb:TE}{pos:Pos}
def rIxL (K:PySem.W.Frag):R2:=λ x y H Q=>∃p xs i v,x = .ref p/\y = .int i/\SqL K H p xs/\atI xs i=some v/\Q v H
def rIxT (K:PySem.W.Frag):R2:=λ x y H Q=>∃p xs i v,x = .ref p/\y = .int i/\SqT K H p xs/\atI xs i=some v/\Q v H
theorem qB0:IxR X (rIxL X.K):=by
 intro value slice pins s σ H x y v u Q I rx ry h hs;obtain⟨p,xs,i,z,rfl,rfl,hq,he,q⟩:=h;cases rx;obtain⟨t,rfl⟩:=ry;obtain⟨its,r,pl,hz⟩:=I.list hq;obtain⟨j,h1,h2,h3,h4,h5⟩:=qAz he;obtain⟨w,ew,rw'⟩:=r.get h2;have hl:=r.length;have hn:=q6t;have fin:EP X pins σ Q w s:=⟨z,H,I,rw',q⟩
 by_cases h0:0<=i
 ·have hj:i.toNat=j:=by rw[seqIndex_of h0 h5] at h1;exact Option.some.inj h1
  exact item_listR pl.isList h0 (by lia) (by rw[hj];simpa using ew) fin hs
 ·have hj:(i+(its.toArray.size:Int)).toNat=j:=by rw[seqIndex_neg (by lia) h4] at h1;rw[List.size_toArray,<-hl];exact Option.some.inj h1
  exact subscriptTail_builtinR (x:=w) pl.isList.typeIs slot_list_getitem.lookup
   (wpAny_getItem_list_neg (Q:=λ r s'=>r=w/\EP X pins σ Q r s') pl.isList (by lia) (by rw[List.size_toArray]<;>lia) (by lia) (by rw[hj];simpa using ew) ⟨rfl,fin⟩) hs
theorem qI6:IxR X (rIxT X.K):=by
 intro value slice pins s σ H x y v u Q I rx ry h hs;obtain⟨p,xs,i,z,rfl,rfl,hq,he,q⟩:=h;cases rx;obtain⟨t,rfl⟩:=ry;obtain⟨its,r,pl,hz⟩:=I.tuple hq;obtain⟨j,h1,h2,h3,h4,h5⟩:=qAz he;obtain⟨w,ew,rw'⟩:=r.get h2;have hl:=r.length;have hn:=q6t;have fin:EP X pins σ Q w s:=⟨z,H,I,rw',q⟩
 exact subscriptTail_builtinR (x:=w) pl.typeIs slot_tuple_getitem.lookup
  (getItem_tuple (j:=j) (Q:=λ r s'=>r=w/\EP X pins σ Q r s') pl (by lia) (by lia) (by rw[List.size_toArray,<-hl];exact h1) (by simpa using ew) ⟨rfl,fin⟩) hs
theorem q71 (lo hi:Option Int) (n:Nat):(sliceBounds lo hi none n).1=((HT.sIx n 0 lo:Nat):Int)/\(sliceBounds lo hi none n).2.1=((HT.sIx n n hi:Nat):Int)/\(sliceBounds lo hi none n).2.2=1:=by
 refine⟨?_,?_,rfl⟩
 ·cases lo with
  |none=>simp[sliceBounds,HT.sIx]
  |some i =>
   simp only[sliceBounds,HT.sIx,Option.getD_none,show (1:Int) > 0 by decide,if_true]
   by_cases h:i<0
   ·simp only[h,if_true]<;>lia
   ·simp only[h,if_false]<;>lia
 ·cases hi with
  |none=>simp[sliceBounds,HT.sIx]
  |some i =>
   simp only[sliceBounds,HT.sIx,Option.getD_none,show (1:Int) > 0 by decide,if_true]
   by_cases h:i<0
   ·simp only[h,if_true]<;>lia
   ·simp only[h,if_false]<;>lia
theorem q5y (its:List Value) (lo hi:Option Int):slicePick its.toArray lo hi none=((its.drop (HT.sIx its.length 0 lo)).take (HT.sIx its.length its.length hi-HT.sIx its.length 0 lo)).toArray:=by obtain⟨h1,h2,h3⟩:=q71 lo hi its.toArray.size;unfold slicePick;rw[h1,h2,h3];simp only[sliceRange_one,pick_run,List.size_toArray]<;>rfl
def rSlL (K:PySem.W.Frag):V->Option Int->Option Int->Hp->VK->Prop:=λ x lo hi H Q=>∃a xs,x = .ref a/\SqL K H a xs/\∀p,H p=none->Q (.ref p) (upd H p (.lst (cutV xs lo hi)))
theorem qFj:SlR X (rSlL X.K):=by intro pins s σ H x v vl vu lo hi sl Q I rx hs pl pu h;obtain⟨a,xs,rfl,hx,q⟩:=h;cases rx;obtain⟨its,r,ht,hz⟩:=I.list hx;have hlen:=r.length;refine⟨"list",_,slot_list_getitem.lookup,ht.isList.typeIs,?_⟩;refine wpAny_getItem_list_slice ht.isList hs pl pu .none (by simp) ?_ (by rw[List.size_toArray]<;>lia);rw[q5y,<-hlen];refine⟨.ref s.heap.objs.size,_,I.laid (t':=s.toks) (o:= .lst (cutV xs lo hi)) (λ b ob q=>Heap.get?_push_of_some _ q) (Nat.le_refl _) ?_,rfl,q _ (I.hok.fresh (Nat.le_refl _))⟩;exact⟨Nat.le_trans (q2s xs lo hi) hz,_,0,(r.drop (HT.sIx xs.length 0 lo)).take (HT.sIx xs.length xs.length hi-HT.sIx xs.length 0 lo),Heap.get?_push_size _ rfl⟩
theorem q4C:q6s X (.builtin "len") (λ xs H Q=>∃p ys,xs=[.ref p]/\(SqL X.K H p ys\/SqT X.K H p ys)/\Q (.int ys.length) H):=by
 intro pins s σ H xs us Q I r h;obtain⟨p,ys,rfl,hq,q⟩:=h;obtain⟨u,rfl,rx⟩:=vals1 r;cases rx;have hn:=q6t;rcases hq with hq|hq
 ·obtain⟨its,r',pl,hz⟩:=I.list hq;have hlen:=r'.length;exact Calls.call_len_list pl.isList (by simp only[List.size_toArray]<;>lia) ⟨.int ys.length,H,I.tok _,⟨s.toks+1,by rw[List.size_toArray,hlen]⟩,q⟩
 ·obtain⟨its,r',pl,hz⟩:=I.tuple hq;have hlen:=r'.length;exact len_tuple pl (by simp only[List.size_toArray]<;>lia) ⟨.int ys.length,H,I.tok _,⟨s.toks+1,by rw[List.size_toArray,hlen]⟩,q⟩
theorem q72:q6s X (.builtin "len") (λ xs H Q=>∃z,xs=[.str z]/\z.length<=sizeLine/\Q (.int z.length) H):=by intro pins s σ H xs us Q I r h;obtain⟨z,rfl,hz,q⟩:=h;obtain⟨u,rfl,t,rfl⟩:=vals1 r;have hn:=q6t;exact len_str (by lia) ⟨.int z.length,H,I.tok _,⟨_,rfl⟩,q⟩
theorem q4D:q6s X (.type "list") (λ xs H Q=>∃p ys,xs=[.ref p]/\(SqL X.K H p ys\/SqT X.K H p ys)/\∀l,H l=none->Q (.ref l) (upd H l (.lst ys))):=by
 intro pins s σ H xs us Q I r h;obtain⟨p,ys,rfl,hq,q⟩:=h;obtain⟨u,rfl,rx⟩:=vals1 r;cases rx;have fin:∀(its:List Value),Vals ys its->ys.length<=sizeLine->∀(h':Heap) (c':Nat),(∀b o',s.heap.get? b=some o'->h'.get? b=some o')->
   h'.get? s.heap.objs.size=some {cls:= .type "list",dict:=none,data:= .seq its.toArray c',slots:=#[]}->EP X pins σ Q (.ref s.heap.objs.size) {s with heap:=h'}:=λ its r' hz h' c' kp e =>
  ⟨.ref s.heap.objs.size,_,I.laid (t':=s.toks) kp (Nat.le_refl _) (show q1T X.prog X.w _ h' _ (.lst ys) from⟨hz,its,c',r',e⟩),rfl,q _ (I.hok.fresh (Nat.le_refl _))⟩
 rcases hq with hq|hq
 ·obtain⟨its,r',pl,hz⟩:=I.list hq;have hlen:=r'.length;obtain⟨o,ho,hc,n,hd⟩:=pl.isList;exact call_list_seq p (.inl rfl) ho hc hd (λ h' c' kp e=>fin its r' hz h' c' kp e) (by simp only[List.size_toArray]<;>lia)
 ·obtain⟨its,r',pl,hz⟩:=I.tuple hq;have hlen:=r'.length;obtain⟨o,ho,hc,n,hd⟩:=pl;exact call_list_seq p (.inr rfl) ho hc hd (λ h' c' kp e=>fin its r' hz h' c' kp e) (by simp only[List.size_toArray]<;>lia)
theorem q3B:q6s X (.type "tuple") (λ xs H Q=>∃p ys,xs=[.ref p]/\((SqL X.K H p ys/\∀l,H l=none->Q (.ref l) (upd H l (.tup ys)))\/(SqT X.K H p ys/\Q (.ref p) H))):=by
 intro pins s σ H xs us Q I r h;obtain⟨p,ys,rfl,h⟩:=h;obtain⟨u,rfl,rx⟩:=vals1 r;cases rx;rcases h with ⟨hq,q⟩|⟨hq,q⟩
 ·obtain⟨its,r',pl,hz⟩:=I.list hq;have hlen:=r'.length;refine call_tuple_list pl.isList (λ h' kp=>?_) (by simp only[List.size_toArray]<;>lia);have I1:Inv X pins σ H {s with heap:=h'}:=I.kept (t':=s.toks) kp;have I2:Inv X pins σ (upd H h'.objs.size (.tup ys)) {s with heap:=h'.push {cls:= .type "tuple",data:= .seq its.toArray}} :=
   I1.laid (t':=s.toks) (λ b o e=>Heap.get?_push_of_some _ e) (Nat.le_refl _) (show q1T X.prog X.w _ _ _ (.tup ys) from⟨hz,its,r',IsTup.new _ _⟩)
  exact⟨.ref h'.objs.size,_,I2,rfl,q _ (I1.hok.fresh (Nat.le_refl _))⟩
 ·obtain⟨its,r',pl,hz⟩:=I.tuple hq;exact call_tuple_same pl ⟨.ref p,H,I,rfl,q⟩
def tyV (K:PySem.W.Frag) (T:String) (x:V) (H:Hp):Prop:=match x with
 | .str _=>T = "str"
 | .int _=>T = "int"
 | .ref p=>(T = "list"/\∃xs,SqL K H p xs)\/(T = "tuple"/\∃o,K.lookup p=some o/\o.cls = .type "tuple"/\o.dict=none)\/
   (T = "dict"/\((∃kvs,H p=some (.dK kvs))\/∃kvs,H p=some (.dT kvs)))\/(T = "set"/\∃S n,H p=some (.set S n))
 |_=>False
theorem q93 {pins:List (Addr×Obj)}{σ:St}{H:Hp}{s:Shared}{T:String}{x:V}{v:Value}(I:Inv X pins σ H s) (r:RelV x v) (ty:tyV X.K T x H) :
  s.TypeIs v T/\∀a,v = .ref a->∃ob,s.heap.get? a=some ob/\ob.dict=none:=by
 cases x with
 |str z =>
  obtain⟨t,rfl⟩:=r;cases (show T = "str" from ty);exact⟨typeIs_str s z t,λ _ e=>nomatch e⟩
 |int i =>
  obtain⟨t,rfl⟩:=r;cases (show T = "int" from ty);exact⟨typeIs_int s i t,λ _ e=>nomatch e⟩
 |ref p =>
  cases r;rcases ty with ⟨rfl,xs,hq⟩|⟨rfl,o,hk,hc,hd⟩|⟨rfl,hk⟩|⟨rfl,S,n,hk⟩
  ·obtain⟨its,_,pl,_⟩:=I.list hq;refine⟨pl.isList.typeIs,λ a e=>?_⟩;cases e;obtain⟨o,n,e,c,hd,_⟩:=pl;exact⟨o,e,hd⟩
  ·refine⟨⟨o,I.kIn p o hk,hc⟩,λ a e=>?_⟩;cases e;exact⟨o,I.kIn _ o hk,hd⟩
  ·have z:∃o,s.heap.get? p=some o/\o.ExactDict:=by
    rcases hk with ⟨kvs,hk⟩|⟨kvs,hk⟩
    ·obtain⟨_,_,_,_,o,_,_,e,ex,_⟩:=I.hok p _ hk;exact⟨o,e,ex⟩
    ·obtain⟨_,_,_,_,o,_,_,e,ex,_⟩:=I.hok p _ hk;exact⟨o,e,ex⟩
   obtain⟨o,e,ex⟩:=z;refine⟨⟨o,e,ex.1⟩,λ a e2=>?_⟩;cases e2;exact⟨o,e,ex.2.1⟩
  ·obtain⟨o,_,_,_,e,ex,_⟩:=I.hok p _ hk;refine⟨⟨o,e,ex.1⟩,λ a e2=>?_⟩;cases e2;exact⟨o,e,ex.2.1⟩
 |_=>exact False.elim ty
variable {o e:Expr}{es:List Expr}{to:TE}{t:TA}{name:Str}{apos cpos:Pos}{T id:String}{r:V->List V->Hp->VK->Prop}
end
end L2
namespace L2
open PySem PySem.Spec PyProof.Rows
def MtM (X:Cx) (id:String) (r:V->List V->Hp->VK->Prop):Prop :=
 ∀(pins:List (Addr×Obj)) (s:Shared) (σ:St) (H:Hp) (x:V) (xs:List V) (v:Value) (us:List Value) (Q:VK),Inv X pins σ H s->RelV x v->Vals xs us->r x xs H Q->
  wpAny (model X.prog X.w) X.A (call (.builtin id) (v::us)) (EP X pins σ Q) X.xe s
theorem Vals.one:∀{x:V}{us:List Value},Vals [x] us->∃u,us=[u]/\RelV x u
 |_,_,.cons r .nil=>⟨_,rfl,r⟩
theorem Vals.zero:∀{us:List Value},Vals [] us->us=[]
 |_,.nil=>rfl
theorem Vals.dropLast {xs:List V}{us:List Value}(h:Vals xs us):Vals xs.dropLast us.dropLast:=by
 induction h with
 |nil=>exact .nil
 |cons r t ih =>
  cases t with
  |nil=>exact .nil
  |cons q t'=>exact .cons r ih
theorem Vals.rep {xs:List V}{us:List Value}(h:Vals xs us):∀k:Nat,Vals (List.replicate k xs).flatten (List.replicate k us).flatten
 |0=> .nil
 |k+1=>by rw[List.replicate_succ,List.replicate_succ,List.flatten_cons,List.flatten_cons];exact Vals.append h (Vals.rep h k)
theorem qAH {α:Type}(l:List α):l.eraseIdx (l.length-1)=l.dropLast:=by
 induction l with
 |nil=>rfl
 |cons a r ih =>
  cases r with
  |nil=>rfl
  |cons b r =>
   have e:(a::b::r).length-1=((b::r).length-1)+1:=by have h1:(a::b::r).length=r.length+2:=rfl;have h2:(b::r).length=r.length+1:=rfl;lia
   rw[e,List.eraseIdx_cons_succ,ih]
   all_goals rfl
section
variable {X:Cx}{pins:List (Addr×Obj)}{σ:St}{H:Hp}{s:Shared}{l b:Addr}{xs ys zs:List V}
theorem Inv.lset {its its':List Value}{n:Nat}{f:Array Value->Array Value}{t':Nat}(I:Inv X pins σ H s) (hH:H l=some (.lst xs))
  (e:s.heap.get? l=some {cls:= .type "list",data:= .seq its.toArray n}) (hf:f its.toArray=its'.toArray) (hv:Vals ys its') (hz:ys.length<=sizeLine) :
  Inv X pins σ (upd H l (.lst ys)) {s with heap:=s.heap.update l (Obj.mapSeq f),toks:=t'}:=by
 have q:=PySem.IsL.update e f;rw[hf] at q;refine I.write (x:=l) (e:=l) (by rw[hH];exact trivial) (.inl rfl) (λ b' u hb hu=>(Heap.get?_update_other s.heap (Obj.mapSeq f) (Ne.symm hb)).trans hu) ⟨_,q⟩ ?_;exact⟨hz,its',_,hv,q⟩
theorem Inv.lnew {its:List Value}{t':Nat}(I:Inv X pins σ H s) (hv:Vals ys its) (hz:ys.length<=sizeLine) :
  Inv X pins σ (upd H s.heap.objs.size (.lst ys)) {s with heap:=s.heap.push {cls:= .type "list",data:= .seq its.toArray},toks:=t'} :=
 I.laid (λ _ _ q=>Heap.get?_push_of_some _ q) (Nat.le_refl _) ⟨hz,its,0,hv,Heap.get?_push_size _ rfl⟩
theorem Inv.fresh (I:Inv X pins σ H s):H s.heap.objs.size=none:=I.hok.fresh (Nat.le_refl _)
theorem Inv.lstM (I:Inv X pins σ H s) (hH:H l=some (.lst xs)):xs.length<=sizeLine/\∃(its:List Value) (n:Nat),Vals xs its/\xs.length=its.length/\s.heap.get? l=some {cls:= .type "list",data:= .seq its.toArray n}:=by obtain⟨z,its,n,r,e⟩:=I.hok l _ hH;exact⟨z,its,n,r,r.length,e⟩
end
section
variable {X:Cx}
def qFk:V->List V->Hp->VK->Prop:=λ x vs H Q=>∃l xs y,x = .ref l/\vs=[y]/\H l=some (.lst xs)/\xs.length<sizeLine/\Q .non (upd H l (.lst (xs++[y])))
theorem q3C:MtM X "list.append" qFk:=by intro pins s σ H x vs v us Q I rx rv h;obtain⟨l,xs,y,rfl,rfl,hH,hz,q⟩:=h;cases rx;obtain⟨u,rfl,ru⟩:=rv.one;obtain⟨z,its,n,r,hl,e⟩:=I.lstM hH;refine call_meets F.slot_list_append ⟨_,e,rfl⟩ F.entry_list_append (F.args_list_append_2 _ _) (PySem.list_append l its.toArray n u (by rw[List.size_toArray];lia)) ⟨e,?_⟩;refine⟨.non,_,I.lset (its':=its++[u]) hH e (by simp) (r.append (.cons ru .nil)) ?_,rfl,q⟩;rw[List.length_append,List.length_singleton];lia
def rPop:V->List V->Hp->VK->Prop:=λ x vs H Q=>∃l xs y,x = .ref l/\vs=[]/\H l=some (.lst xs)/\xs[xs.length-1]? = some y/\Q y (upd H l (.lst xs.dropLast))
theorem qI7:MtM X "list.pop" rPop:=by
 intro pins s σ H x vs v us Q I rx rv h;obtain⟨l,xs,y,rfl,rfl,hH,hy,q⟩:=h;cases rx;have hus:=rv.zero;subst hus;obtain⟨z,its,n,r,hl,e⟩:=I.lstM hH;obtain⟨u,hu,ru⟩:=r.get hy;have hy':its.toArray[its.toArray.size-1]? = some u:=by show its.toArray[its.length-1]? = some u;rw[<-Array.getElem?_toList,<-hl];exact hu
 refine call_meets F.slot_list_pop ⟨_,e,rfl⟩ F.entry_list_pop (F.args_list_pop_1 _) (MeetsSeq.list_pop_last l its.toArray n u hy' (by rw[List.size_toArray];lia)) ⟨e,?_⟩;refine⟨y,_,I.lset (its':=its.dropLast) hH e ?_ r.dropLast ?_,ru,q⟩
 ·show its.toArray.eraseIdxIfInBounds (its.toArray.size-1)=its.dropLast.toArray;rw[List.size_toArray,List.eraseIdxIfInBounds_toArray,qAH]
 ·rw[List.length_dropLast];lia
theorem len_rep {α:Type}(xs:List α) (k:Nat):(List.replicate k xs).flatten.length=k*xs.length:=by
 induction k with
 |zero=>simp
 |succ k ih=>rw[List.replicate_succ,List.flatten_cons,List.length_append,ih,Nat.succ_mul,Nat.add_comm]
end
end L2
namespace Att
open PySem PySem.W PySem.Calls PyProof.Rows
theorem q4d {P:Params}{h:Heap}:∀(ns:List Int) (vs:List Value),WellAll P h vs (ns.map WData.int)->IntsAre vs ns:=by
 intro ns
 induction ns with
 |nil =>
  intro vs w;rw[List.map_nil] at w;cases w;exact .nil
 |cons n ns ih =>
  intro vs w;rw[List.map_cons] at w;cases w with
  |cons a b =>
   cases a;exact .cons _ _ (ih _ b)
theorem qB1 {l:OpenLaw}{n:Nat}(hn:l.most=some n) {P:Params}{h:Heap}{args:List WData}{vals:List Value}
  (hpre:l.row.toRowW.claim.pre args=true) (hwl:WellAll P h vals args) :
  ∃a vs ns,vals=[Value.ref a]/\args=[WData.list (ns.map WData.int)]/\h.get? a=some {cls:= .type "list",data:= .seq vs.toArray}/\IntsAre vs ns/\ns.length<=n:=by
 have hsh:WShape.hasAll [] args [.list .int]=true:=(pre_splitW hpre).1;have hc:l.pre.holds [] {args:=args}=true:=(pre_splitW hpre).2;obtain⟨d,r,rfl,h1,h2⟩:=hasAllW_cons hsh;obtain rfl:=hasAllW_nil h2;obtain⟨xs,rfl,h3⟩:=hasW_list h1;obtain⟨ns,rfl⟩:=items_int h3;have hlen:ns.length<=n:=by
  unfold OpenLaw.pre at hc;have h4:(WTm.not (.lt (.lit (.int (n:Int))) (.len (.arg 0)))).holds [] {args:=[.list (ns.map .int)]}=true:=by have h4:=(holds_andW hc).1;rw[hn] at h4;exact h4
  have h5:=condW_of h4 (w_not (w_lt w_lit (w_len_list (w_arg rfl))));rw[List.length_map] at h5;refine Nat.le_of_not_lt λ q=>?_;have q':(n:Int)<((ns.length:Nat):Int):=by lia
  first
   |(rw[decide_eq_true q'] at h5;exact absurd h5 (by decide))
   |(simp at h5;lia)
 cases hwl with
 |cons w1 w2 =>
  cases w2;cases w1 with
  |list ho hall=>exact⟨_,_,ns,rfl,rfl,ho,q4d ns _ hall,hlen⟩
theorem qB2 (l:OpenLaw) (args:List WData):l.row.toRowW.claim.post args (.bool true) args=true :=
 postW_of (r:=l.row.toRowW) (X:=(true==true))
  (show WShape.has [] (.bool true) .bool=true by first|rfl|decide|simp[WShape.has,WShape.arms,WShape.armsAll])
  (show (WTm.eq .res (.lit (.bool true))).value [] {args:=args,res:=some (.bool true),after:=args}=some (.bool (true==true)) from w_eq_bool (w_res rfl) w_lit) rfl
theorem q8D {l:OpenLaw}{n:Nat}{q:Program}{loose:List Str}{XP:(Str->Option Value)->Heap->Prop}{YP:World->Heap->Prop}{d:DefRec}
  (hn:l.most=some n) (hdf:d.params.defaults=[])
  (call:∀(w:World) (s₀ s₁:Shared) (mg mb:Str->Option Value) (fa:Addr) (o:Obj) (pm cd doc:Value) (a:Addr) (vs:List Value) (ns:List Int),
   Ground q loose [] XP w s₀ mg mb s₁.heap->YP w s₁.heap->
   s₁.heap.get? fa=some o->o.data = .func (docDef d.name d.params d.body d.scope pm cd doc)->s₁.heap.CodeRec cd d.name->mg d.name=some (.ref fa)->
   s₁.heap.get? a=some {cls:= .type "list",data:= .seq vs.toArray}->IntsAre vs ns->ns.length<=n->s₁.gens=#[]->
   codeAny (model l.prog w) callerA (.call (.ref fa) ⟨[.ref a],[]⟩) (λ r s'=>r = .ok (.ret (.bool true))/\OldK s₁.heap s'.heap/\s'.os=s₁.os/\AllBare s'.gens) s₁) :
  WalkO q loose XP YP l.row.toRowW d [] (λ f vs=>PySem.call f vs):=by
 intro w s₀ s₁ mg mb G Y fa o pm cd doc dV kV ho hd hcd hD hmg hg args vals as hpre hlay hrd hwl hlo;obtain rfl:dV = .none:=Dflts.none hD hdf;obtain rfl:kV = .none:=Dflts.noKw hD;obtain⟨a,vs,ns,rfl,rfl,hobj,hints,hlen⟩:=qB1 hn hpre hwl;refine enter_call (codeAny_mono (call w s₀ s₁ mg mb fa o pm cd doc a vs ns G Y ho (fd_plain hd) hcd hmg hobj hints hlen hg) λ r s' hq=>?_);obtain⟨rfl,h2,h3,h4⟩:=hq;exact⟨.inl ⟨.bool true,.bool true,[],rfl,λ _=>rfl,.bool true,qB2 l _,λ _=>⟨List.Pairwise.nil,λ _ hm=>(nomatch hm)⟩⟩,h2,h3,h4⟩
end Att
namespace L2
open PySem PySem.Spec PyProof.Rows
theorem q2J:∀{vs:List Value}{ns:List Int},IntsAre vs ns->Vals (ns.map V.int) vs
 |_,_,.nil=> .nil
 |_,_,.cons n t h=> .cons ⟨t,rfl⟩ (q2J h)
def Only (H:Hp):Prop:=∀b,H b=none\/∃o xs,H b=some (.frz o (.lst xs))
theorem qDD {P:Program}{w:World}{K:PySem.W.Frag}{mg mb:Str->Option Value}{CX:CXT}{k:Nat}{fa a:Addr}{fd:FuncData}{x:Str}{sp:Sp}{s₁:Shared}{vs:List Value}{ns:List Int}
  (KX:K.In s₁.heap) (hns:s₁.heap.Ns mainGlobals mg) (hb:s₁.heap.Ns builtinsNs mb) (hbb:∀x:Str,x ≠ "__name__"->mb x=bootBuiltins x) (hlim:s₁.heap.NoLimit) (hg:s₁.gens=#[])
  (ha:s₁.heap.get? a=some {cls:= .type "list",data:= .seq vs.toArray}) (hi:IntsAre vs ns) (hl:ns.length<=sizeLine) (hr:Room k callerA)
  (F:∀base:Heap,K.In base->base.Ns mainGlobals mg->FnOk P w K mg base CX k fa fd [x] sp) (hbind:∀(s:Shared) (u:Value),BindsTo s fd ⟨[u],[]⟩ [(x,u)])
  (hsp:∀H:Hp,Only H->SqL K H a (ns.map V.int)->sp [.ref a] H (λ v _=>v = .bl true) λ _ _ _=>False)
  (hCX:∀H e s',CX [] H s₁ (λ _ _ _=>False) e s'->False) :
  codeAny (model P w) callerA (.call (.ref fa) ⟨[.ref a],[]⟩) (λ r s'=>r = .ok (.ret (.bool true))/\OldK s₁.heap s'.heap/\s'.os=s₁.os/\AllBare s'.gens) s₁:=by
 have rv:=q2J hi;have lenV:=hi.length;have core:∀H:Hp,Only H->SqL K H a (ns.map V.int)->HOk P w H s₁.heap->(∀b,H b≠none->b=a)->(H a≠none->K.lookup a=none)->
   codeAny (model P w) callerA (.call (.ref fa) ⟨[.ref a],[]⟩) (λ r s'=>r = .ok (.ret (.bool true))/\OldK s₁.heap s'.heap/\s'.os=s₁.os/\AllBare s'.gens) s₁:=by
  intro H hO hS hok hA hK;have base_of:∀{b:Addr}{o:Obj},s₁.heap.get? b=some o->H b=none->(hidT s₁.heap H).get? b=some o:=λ e n=>qD7 e n;have noA:∀{b:Addr}{o:Obj}{es:Array DictEntry}{ep:Nat},s₁.heap.get? b=some o->o.data = .dict es ep->H b=none:=λ {b o es ep} e d=>by
   cases q:H b with
   |none=>rfl
   |some u =>
    have e':b=a:=hA b (by rw[q];simp);subst e';rw[ha] at e;cases e;have d':Data.seq vs.toArray _=Data.dict es ep:=d;cases d'
  have nsK:∀{b:Addr}{m:Str->Option Value},s₁.heap.Ns b m->(hidT s₁.heap H).Ns b m:=λ {b m} ⟨o,es,ep,e,d,r⟩=>⟨o,es,ep,base_of e (noA e d),d,r⟩
  have hKb:K.In (hidT s₁.heap H):=λ b o e=>base_of (KX b o e) (by
   cases q:H b with
   |none=>rfl
   |some u =>
    have e':b=a:=hA b (by rw[q];simp);subst e';rw[hK (by rw[q];simp)] at e;cases e)
  have hM:Mod K mg (hidT s₁.heap H):=⟨hKb,nsK hns,⟨mb,nsK hb,hbb⟩,let ⟨mc,h1,h2⟩:=hlim;⟨mc,nsK h1,h2⟩⟩
  have e0:Env0 P w K mg (hidT s₁.heap H) callerA [] s₁ H:=⟨rfl,hM,λ b o e=>qFR e,Nat.le_of_eq (qAm _ _),trivial,λ b hb=>absurd (show b∈([]:List Addr) from hb) (by simp),hok,.of_eq hg⟩
  refine codeAny_mono ((F _ hKb (nsK hns)).run callerA [] s₁ H ⟨[.ref a],[]⟩ [.ref a] [.ref a] _ _ hr e0 (hbind s₁ (.ref a)) (.cons rfl .nil) (hsp H hO hS)) λ r s' h=>?_;cases r with
  |error e=>exact (hCX H e s' h).elim
  |ok fl =>
   cases fl with
   |next=>exact False.elim h
   |brk=>exact False.elim h
   |cont=>exact False.elim h
   |ret u =>
    obtain⟨v,H',os,bare,un,hok',r',q⟩:=h;have q':v = .bl true:=q;subst q';obtain rfl:u=Value.bool true:=r';refine⟨rfl,OldK.of_keep λ b o e=>?_,os,bare⟩;cases q:H b with
    |none=>exact un.keep b o e q (by intro z;exact absurd (show b∈([]:List Addr) from z) (by simp)) (by simp)
    |some u =>
     rcases hO b with z|⟨ob,xs,z⟩
     ·rw[q] at z;cases z
     ·have z2:=un.frzs b ob _ z;obtain⟨e1,_⟩:=hok b _ z;obtain⟨e2,_⟩:=hok' b _ z2;rw[e] at e1;cases e1;exact e2
 cases hk:K.lookup a with
 |some o =>
  have e:=KX a o hk;rw[ha] at e;cases e;refine core (λ _=>none) (λ _=> .inl rfl) (.inr ⟨_,vs.toArray,_,hk,rfl,rfl,rfl,by rw[List.size_toArray,lenV];exact hl,by simpa using rv⟩) (λ b u z=>by have z':(none:Option HO)=some u:=z;cases z') (λ b z=>absurd rfl z) λ z=>absurd rfl z
 |none =>
  refine core (λ b=>if b=a then some (.frz {cls:= .type "list",data:= .seq vs.toArray} (.lst (ns.map V.int))) else none) (λ b=>?_) (.inl (.inr ⟨{cls:= .type "list",data:= .seq vs.toArray},if_pos rfl⟩)) (λ b u z=>?_) (λ b z=>?_) λ _=>hk
  ·by_cases hb:b=a
   ·exact .inr ⟨_,_,if_pos hb⟩
   ·exact .inl (if_neg hb)
  ·by_cases hb:b=a
   ·have z':=(if_pos hb).symm.trans z;cases z';subst hb;exact⟨ha,by rw[List.length_map];exact hl,vs,_,rv,ha⟩
   ·have z':=(if_neg hb).symm.trans z;cases z'
  ·by_cases hb:b=a
   ·exact hb
   ·exact absurd (if_neg hb) z
end L2
namespace L2
open PySem PySem.Spec PyProof.Rows
abbrev KOf {K:PySem.W.Frag}{h:Heap}(_:K.In h):PySem.W.Frag:=K
theorem qFl {l:PySem.W.OpenLaw}{n k:Nat}{q:Program}{loose:List Str}{XP:(Str->Option Value)->Heap->Prop}{YP:World->Heap->Prop}{d:DefRec}{K:Params->PySem.W.Frag}{CX:World->CXT}{sp:World->Sp}{x:Str}
  (hn:l.most=some n) (hn2:n<=sizeLine) (hdf:d.params.defaults=[]) (hr:Room k callerA)
  (hY:∀(w:World) (h:Heap),YP w h->(K w.params).In h)
  (F:∀(w:World) (mg:Str->Option Value) (fa:Addr) (h:Heap),(K w.params).In h->h.Ns mainGlobals mg->mg d.name=some (.ref fa)->
   ∃fd:FuncData,(∀(s:Shared) (u:Value),BindsTo s fd ⟨[u],[]⟩ [(x,u)])/\
    ∀base:Heap,(K w.params).In base->base.Ns mainGlobals mg->FnOk l.prog w (K w.params) mg base (CX w) k fa fd [x] (sp w))
  (hsp:∀(w:World) (H:Hp) (a:Addr) (ns:List Int),ns.length<=n->Only H->SqL (K w.params) H a (ns.map V.int)->sp w [.ref a] H (λ v _=>v = .bl true) λ _ _ _=>False)
  (hCX:∀(w:World) (H:Hp) (s:Shared) (e:Value) (s':Shared),CX w [] H s (λ _ _ _=>False) e s'->False) :
  PySem.W.WalkO q loose XP YP l.row.toRowW d [] (λ f vs=>PySem.call f vs):=by
 refine Att.q8D hn hdf λ w s₀ s₁ mg mb fa o pm cd doc a vs ns G Y ho hd hcd hmg hobj hints hlen hg=>?_;have KX:=hY w _ Y;obtain⟨fd,hb,hF⟩:=F w mg fa _ KX G.T.g hmg;exact qDD KX G.T.g G.T.b G.T.builtins G.T.nolimit hg hobj hints (Nat.le_trans hlen hn2) hr hF hb (λ H hO hS=>hsp w H a ns hlen hO hS) λ H e s'=>hCX w H s₁ e s'
end L2
namespace L2
open PySem PySem.Spec PyProof.Rows
def q3h (s:Stmt):Arguments:=match s with
 | .FunctionDef _ a _ _ _ _ _ _ _ _=>a
 |_=>{posonlyargs:=[],args:=[],vararg:=none,kwonlyargs:=[],kw_defaults:=[],kwarg:=none,defaults:=[]}
def q2t (s:Stmt):List Stmt:=match s with
 | .FunctionDef _ _ b _ _ _ _ _ _ _=>b
 |_=>[]
def q1q (s:Stmt):Scope:=match s with
 | .FunctionDef _ _ _ _ _ _ sc _ _ _=>sc
 |_=>{kind:= .function,names:=[],isGenerator:=false,isCoroutine:=false}
structure Fun (K:PySem.W.Frag) (x qual:Str) (st:Stmt) (f:Addr) (fd:FuncData):Prop where
 ex:∃(oc:Value) (od:Option Addr) (kV doc pm:Value) (an:Option Addr) (cdv ct:Value) (osl:Array (Option Value)),
  fd=PySem.W.fnOf x qual (q3h st) (q2t st) (q1q st) .none kV doc pm an cdv ct/\K.lookup f=some ⟨oc,od,.func fd,osl⟩/\PySem.W.codeIn K cdv qual=true
 kp:PySem.W.keepIn K (.ref f)=true
section
variable {P:Program}{w:World}{K:PySem.W.Frag}{mg:Str->Option Value}{base:Heap}
theorem Fun.binds {x qual:Str}{st:Stmt}{f:Addr}{fd:FuncData}{ps:List Str}(F:Fun K x qual st f fd)
  (h:∀(kV doc pm:Value) (an:Option Addr) (cdv ct:Value) (us:List Value),us.length=ps.length->bindArgs (PySem.W.fnOf x qual (q3h st) (q2t st) (q1q st) .none kV doc pm an cdv ct) ⟨us,[]⟩=pure (ps.zip us)):Binds K fd ps []:=by
 obtain⟨oc,od,kV,doc,pm,an,cdv,ct,osl,rfl,lk,hcd⟩:=F.ex;exact .all (h kV doc pm an cdv ct)
theorem qI8 {x qual:Str}{st:Stmt}{f:Addr}{oc:Value}{od an:Option Addr}{osl:Array (Option Value)}{kV doc pm cdv ct:Value}(l:K.lookup f=some ⟨oc,od,.func (PySem.W.fnOf x qual (q3h st) (q2t st) (q1q st) .none kV doc pm an cdv ct),osl⟩)
  (c:PySem.W.codeIn K cdv qual=true) (k:PySem.W.keepIn K (.ref f)=true):Fun K x qual st f (PySem.W.fnOf x qual (q3h st) (q2t st) (q1q st) .none kV doc pm an cdv ct):=⟨⟨oc,od,kV,doc,pm,an,cdv,ct,osl,rfl,l,c⟩,k⟩
end
end L2
set_option autoImplicit false
namespace Ev
theorem oB {α β:Type}{o:Option α}{f:α->Option β}{b:β}(h:o.bind f=some b):∃a,o=some a/\f a=some b:=Option.bind_eq_some_iff.mp h
theorem oM {α β:Type}{o:Option α}{f:α->β}{b:β}(h:o.map f=some b):∃a,o=some a/\f a=b:=Option.map_eq_some_iff.mp h
open PySem
inductive D where
 |non|bl (b:Bool)|int (i:Int)|str (x:Str)|tup (xs:List D)|lst (xs:List D)|dct (ks vs:List D)|exc (c:Nat)
 deriving Inhabited
inductive R (α:Type) where
 |ok (a:α)|err (c:Nat)|stuck
 deriving Inhabited
def R.bind {α β:Type}:R α->(α->R β)->R β
 | .ok a,f=>f a
 | .err c,_=> .err c
 | .stuck,_=> .stuck
@[simp] theorem q00 {α β:Type}(a:α) (f:α->R β):(R.ok a).bind f=f a:=rfl
@[simp] theorem qKI {α β:Type}(c:Nat) (f:α->R β):(R.err c).bind f = .err c:=rfl
@[simp] theorem qHf {α β:Type}(f:α->R β):(R.stuck:R α).bind f = .stuck:=rfl
def b2i (b:Bool):Int:=if b then 1 else 0
mutual
noncomputable def eqb:D->D->Bool
 | .non,.non=>true
 | .bl a,.bl b=>a==b
 | .int a,.int b=>decide (a=b)
 | .bl a,.int b=>decide (b2i a=b)
 | .int a,.bl b=>decide (a=b2i b)
 | .str a,.str b=>decide (a=b)
 | .tup a,.tup b=>eqbL a b
 | .lst a,.lst b=>eqbL a b
 |_,_=>false
noncomputable def eqbL:List D->List D->Bool
 |[],[]=>true
 |a::l,b::m=>eqb a b&&eqbL l m
 |_,_=>false
end
def plN:Nat->D->Bool
 |_,.non=>true
 |_,.bl _=>true
 |_,.int _=>true
 |_,.str _=>true
 |k+1,.tup a=>a.all (plN k)
 |k+1,.lst a=>a.all (plN k)
 |_,_=>false
def pl (d:D):Bool:=plN 8 d
def plL (l:List D):Bool:=l.all pl
mutual
noncomputable def ltb:D->D->Bool
 | .int a,.int b=>decide (a<b)
 | .tup a,.tup b=>ltbL a b
 | .lst a,.lst b=>ltbL a b
 |_,_=>false
noncomputable def ltbL:List D->List D->Bool
 |[],_::_=>true
 |a::l,b::m=>if eqb a b then ltbL l m else ltb a b
 |_,[]=>false
end
mutual
noncomputable def q0o:D->D->Bool
 | .int _,.int _=>true
 | .tup a,.tup b=>q0t a b
 | .lst a,.lst b=>q0t a b
 |_,_=>false
noncomputable def q0t:List D->List D->Bool
 |a::l,b::m=>if eqb a b then q0t l m else q0o a b
 |_,_=>true
end
mutual
def q03:D->Bool
 | .int _=>true
 | .tup a=>q0A a
 |_=>false
def q0A:List D->Bool
 |[]=>true
 |a::l=>q03 a&&q0A l
end
def ins (x:D):List D->List D
 |[]=>[x]
 |y::l=>if ltb x y then x::y::l else y::ins x l
def q1F:List D->List D
 |[]=>[]
 |x::l=>ins x (q1F l)
def q3D (p:D->D->Bool) (l:List D):Bool:=l.all λ a=>l.all λ b=>p a b
def dedup:List D->List D
 |[]=>[]
 |x::l=>if l.any (eqb x) then dedup l else x::dedup l
def qDE (l:List D):Bool:=decide ((dedup l).length=l.length)
def tr:D->R Bool
 | .non=> .ok false
 | .bl b=> .ok b
 | .int i=> .ok (i != 0)
 | .str x=> .ok (x.length != 0)
 | .tup xs=> .ok (!xs.isEmpty)
 | .lst xs=> .ok (!xs.isEmpty)
 | .dct _ _=> .stuck
 | .exc _=> .stuck
inductive Op2 where|add|sub|mul|fdiv|mod|shl|shr|band|bor|bxor
 deriving DecidableEq,Repr
inductive Cm where|eq|ne|lt|le|gt|ge|isN|notN|mem|nmem
 deriving DecidableEq,Repr
inductive Bi where
 |len|sorted|sortedRev|sortedSet|tuple|list|sum|all|bits|count|index|min2|max2|toInt|abs|isTup|isLst|isInt|isBool|isVal|isExc (c:Nat)
 deriving DecidableEq,Repr
def big:Nat:=1000000
def lstD (f:List D->R D):D->R D
 | .lst xs=>f xs
 |_=> .stuck
def intD (f:Int->R D):D->R D
 | .int i=>f i
 |_=> .stuck
def tupD (f:List D->R D):D->R D
 | .tup xs=>f xs
 |_=> .stuck
def strD (f:Str->R D):D->R D
 | .str x=>f x
 |_=> .stuck
def nonD (r:R D):D->R D
 | .non=>r
 |_=> .stuck
noncomputable def addD (x y:D):R D:=match x with
 | .int a=>intD (λ b=> .ok (.int (a+b))) y
 | .lst a=>lstD (λ b=>if a.length+b.length<=big then .ok (.lst (a++b)) else .stuck) y
 | .tup a=>tupD (λ b=>if a.length+b.length<=big then .ok (.tup (a++b)) else .stuck) y
 | .str a=>strD (λ b=>if a.length+b.length<=big then .ok (.str (a++b)) else .stuck) y
 |_=> .stuck
noncomputable def mulD (x y:D):R D:=match x with
 | .int a=>intD (λ b=>if (-(2^62)<a/\a<2^62)\/(-(2^62)<b/\b<2^62) then .ok (.int (a*b)) else .stuck) y
 | .lst a=>intD (λ k=>if 0<=k/\k<=1000/\a.length*k.toNat<=big then .ok (.lst (List.replicate k.toNat a).flatten) else .stuck) y
 |_=> .stuck
noncomputable def opI:Op2->Int->Int->R D
 | .sub,a,b=> .ok (.int (a-b))
 | .fdiv,a,b=>if 0<b/\b<1073741824 then .ok (.int (a / b)) else .stuck
 | .mod,a,b=>if 0<b then .ok (.int (a % b)) else .stuck
 | .shl,a,b=>if 0<=a/\a<2^62/\0<=b/\b<=1000 then .ok (.int ((a.toNat <<< b.toNat:Nat):Int)) else .stuck
 | .shr,a,b=>if 0<=a/\0<=b then .ok (.int ((a.toNat >>> b.toNat:Nat):Int)) else .stuck
 | .band,a,b=>if 0<=a/\0<=b then .ok (.int ((a.toNat &&& b.toNat:Nat):Int)) else .stuck
 | .bor,a,b=>if 0<=a/\0<=b then .ok (.int ((a.toNat ||| b.toNat:Nat):Int)) else .stuck
 | .bxor,a,b=>if 0<=a/\0<=b then .ok (.int ((a.toNat ^^^ b.toNat:Nat):Int)) else .stuck
 |_,_,_=> .stuck
def opD (o:Op2) (x y:D):R D:=match o with
 | .add=>addD x y
 | .mul=>mulD x y
 |_=>intD (λ a=>intD (opI o a) y) x
theorem q73 (o:Op2) (h:o ≠ .add) (h2:o ≠ .mul) (a b:Int):opD o (.int a) (.int b)=opI o a b:=by
 unfold opD;split
 ·exact absurd rfl h
 ·exact absurd rfl h2
 ·dsimp only[intD]
noncomputable def memD (x:D):D->R Bool
 | .lst xs=>if pl x&&plL xs then .ok (xs.any λ y=>eqb y x) else .stuck
 | .tup xs=>if pl x&&plL xs then .ok (xs.any λ y=>eqb y x) else .stuck
 | .dct ks _=>match x with
  | .int i=> .ok (ks.any λ y=>eqb y (.int i))
  |_=> .stuck
 |_=> .stuck
noncomputable def cmD (o:Cm) (a b:D):R D:=match o with
 | .eq=>if pl a&&pl b then .ok (.bl (eqb a b)) else .stuck
 | .ne=>if pl a&&pl b then .ok (.bl (!eqb a b)) else .stuck
 | .lt=>if pl a&&pl b&&q03 a&&q03 b&&q0o a b then .ok (.bl (ltb a b)) else .stuck
 | .gt=>intD (λ a=>intD (λ b=> .ok (.bl (decide (b<a)))) b) a
 | .le=>intD (λ a=>intD (λ b=> .ok (.bl (decide (a<=b)))) b) a
 | .ge=>if pl a&&pl b&&q03 a&&q03 b&&q0o a b then .ok (.bl (!ltb a b)) else .stuck
 | .isN=>nonD (.ok (.bl (match a with | .non=>true|_=>false))) b
 | .notN=>nonD (.ok (.bl (match a with | .non=>false|_=>true))) b
 | .mem=>(memD a b).bind λ r=> .ok (.bl r)
 | .nmem=>(memD a b).bind λ r=> .ok (.bl (!r))
def nth (xs:List D) (i:Int):R D :=
 match (if 0<=i then xs[i.toNat]? else if -(xs.length:Int)<=i then xs[(i+xs.length).toNat]? else none) with
 |some d=> .ok d
 |none=> .stuck
def look (i:Int):List D->List D->R D
 | .int k::ks,v::vs=>if k=i then .ok v else look i ks vs
 |_,_=> .stuck
noncomputable def put (i:Int) (x:D):List D->List D->R (List D×List D)
 |[],[]=> .ok ([.int i],[x])
 | .int k::ks,v::vs=>if k=i then .ok (.int k::ks,x::vs) else (put i x ks vs).bind λ r=> .ok (.int k::r.1,v::r.2)
 |_,_=> .stuck
def idxD:D->D->R D
 | .lst xs,.int i=>nth xs i
 | .tup xs,.int i=>nth xs i
 | .dct ks vs,.int i=>look i ks vs
 |_,_=> .stuck
def bnd (n d:Nat):Option Int->Nat
 |none=>d
 |some v=>if v<0 then (v+n).toNat else min v.toNat n
def cutL {α:Type}(xs:List α) (lo hi:Option Int):List α:=(xs.drop (bnd xs.length 0 lo)).take (bnd xs.length xs.length hi-bnd xs.length 0 lo)
def qI9 {α:Type}:List α->List α
 |[]=>[]
 |[a]=>[a]
 |[a,_]=>[a]
 |a::_::_::l=>a::qI9 l
noncomputable def slD (st:Nat) (lo hi:Option Int):D->R D
 | .lst xs=>if st=0 then .ok (.lst (cutL xs lo hi)) else if st=1 then .ok (.lst xs.reverse) else if st=3 then .ok (.lst (qI9 xs)) else .stuck
 | .tup xs=>if st=0 then .ok (.tup (cutL xs lo hi)) else .stuck
 |_=> .stuck
def ints?:List D->Option (List Int)
 |[]=>some []
 | .int i::l=>(ints? l).map (i::·)
 |_=>none
def bools?:List D->Option (List Bool)
 |[]=>some []
 | .bl i::l=>(bools? l).map (i::·)
 |_=>none
def q0L:D->R (List D)
 | .lst xs=> .ok xs
 | .tup xs=> .ok xs
 | .dct ks _=>if (ints? ks).isSome then .ok ks else .stuck
 |_=> .stuck
def q1r:D->R (List D)
 | .lst xs=> .ok xs
 | .tup xs=> .ok xs
 |_=> .stuck
def q1w:D->Bool
 | .int _=>true
 |_=>false
def q2m:D->Bool
 | .tup (.int _::_)=>true
 |_=>false
def q1I (xs:List D):Bool:=decide (xs.length<64)&&q0A xs&&plL xs&&q3D q0o xs&&qDE xs&&(xs.all q1w || xs.all q2m)
def idxOf (x:D):List D->Nat->R D
 |[],_=> .stuck
 |y::l,n=>if eqb y x then .ok (.int n) else idxOf x l (n+1)
def oneD (f:D->R D):List D->R D
 |[d]=>f d
 |_=> .stuck
def twoD (f:D->D->R D):List D->R D
 |[d,e]=>f d e
 |_=> .stuck
def lenD:D->R D
 | .lst xs=> .ok (.int xs.length)
 | .tup xs=> .ok (.int xs.length)
 | .dct ks _=> .ok (.int ks.length)
 | .str x=> .ok (.int x.length)
 |_=> .stuck
def seqD (f:List D->R D):D->R D
 | .lst xs=>f xs
 | .tup xs=>f xs
 |_=> .stuck
def qIA:D->R D
 | .int a=> .ok (.int a)
 | .bl a=> .ok (.int (b2i a))
 |_=> .stuck
def qFm:D->R D
 | .int _=> .ok (.bl false)
 | .bl _=> .ok (.bl true)
 |_=> .stuck
def qIB:D->R D
 | .tup _=> .ok (.bl true)
 |_=> .stuck
def excD (f:Nat->R D):D->R D
 | .exc c=>f c
 |_=> .stuck
def sumD (xs:List D):R D:=match ints? xs with
 |some ns=> .ok (.int ns.sum)
 |none=> .stuck
def allD (xs:List D):R D:=match bools? xs with
 |some bs=> .ok (.bl (bs.all id))
 |none=> .stuck
noncomputable def biD (sub:Nat->Nat->Bool) (b:Bi) (ds:List D):R D:=match b with
 | .len=>oneD lenD ds
 | .sorted=>oneD (λ d=>(q0L d).bind λ xs=>if q1I xs then .ok (.lst (q1F xs)) else .stuck) ds
 | .sortedRev=>oneD (λ d=>(q0L d).bind λ xs=>if q1I xs&&xs.all q1w then .ok (.lst (q1F xs).reverse) else .stuck) ds
 | .sortedSet=>oneD (λ d=>(q1r d).bind λ xs=>if q0A xs&&plL xs&&decide (xs.length<=1000)&&q1I (dedup xs) then .ok (.lst (q1F (dedup xs))) else .stuck) ds
 | .tuple=>oneD (seqD λ xs=> .ok (.tup xs)) ds
 | .list=>oneD (seqD λ xs=> .ok (.lst xs)) ds
 | .sum=>oneD (lstD sumD) ds
 | .all=>oneD (lstD allD) ds
 | .bits=>oneD (intD λ i=>if 0<=i then .ok (.int (if i=0 then 0 else ((i.toNat.log2+1:Nat):Int))) else .stuck) ds
 | .count=>twoD (λ d x=>lstD (λ xs=>if pl x&&plL xs then .ok (.int ((xs.filter λ y=>eqb y x).length)) else .stuck) d) ds
 | .index=>twoD (λ d x=>lstD (λ xs=>if pl x&&plL xs then idxOf x xs 0 else .stuck) d) ds
 | .min2=>twoD (λ x y=>intD (λ a=>intD (λ b=> .ok (.int (if b<a then b else a))) y) x) ds
 | .max2=>twoD (λ x y=>intD (λ a=>intD (λ b=> .ok (.int (if b > a then b else a))) y) x) ds
 | .toInt=>oneD qIA ds
 | .abs=>oneD (intD λ a=> .ok (.int (if a<0 then -a else a))) ds
 | .isTup=>oneD qIB ds
 | .isLst=>oneD (lstD λ _=> .ok (.bl true)) ds
 | .isInt=>oneD (intD λ _=> .ok (.bl true)) ds
 | .isBool=>oneD qFm ds
 | .isVal=>oneD (excD λ _=> .ok (.bl true)) ds
 | .isExc c=>oneD (excD λ e=> .ok (.bl (sub e c))) ds
mutual
inductive L where
 |var (i:Nat)|bor (i:Nat)|con (d:D)
 |op (o:Op2) (a b:L)|cm (o:Cm) (a b:L)|neg (a:L)|not (a:L)|and (a b:L)|or (a b:L)|ite (c:T) (a b:L)
 |tup (xs:List L)|lst (xs:List L)|dct (k v:L)
 |idx (a i:L)|sl (st:Nat) (a:L) (lo hi:List L)
 |call (f:Nat) (xs:List L)|bi (b:Bi) (xs:List L)
 |comp (k:Nat) (elt:L) (it:I) (cond:List T)
 |skey (a:L) (f:Nat)|lrng (xs:List L)
inductive T where
 |e (a:L)|and (a b:T)|or (a b:T)|not (a:T)
inductive I where
 |rng (xs:List L)|e (a:L)|b (i:Nat)
end
inductive Sl where|val (d:D)|own (d:D)|own2 (xss:List (List D))
 deriving Inhabited
abbrev Env:=List (Option Sl)
def getV (ρ:Env) (i:Nat):R D:=match ρ[i]? with
 |some (some (.val d))=> .ok d
 |_=> .stuck
def getB (ρ:Env) (i:Nat):R D:=match ρ[i]? with
 |some (some (.val d))=> .ok d
 |some (some (.own d))=> .ok d
 |_=> .stuck
noncomputable def rngD:List D->R (List D)
 |[.int j]=>if -(2^62)<=j/\j<2^62 then .ok ((List.range j.toNat).map λ (k:Nat)=> .int k) else .stuck
 |[.int i,.int j]=>if -(2^62)<=i/\i<2^62/\-(2^62)<=j/\j<2^62 then .ok ((List.range (j-i).toNat).map λ (k:Nat)=> .int (i+k)) else .stuck
 |_=> .stuck
def unp (k:Nat) (d:D):R (List D) :=
 if k=0 then .ok [d] else match d with
  | .tup xs=>if xs.length=k then .ok xs else .stuck
  |_=> .stuck
def vals (ds:List D):Env:=ds.map λ d=>some (.val d)
noncomputable def q0c (elt:Env->R D) (cond:Env->R Bool) (k:Nat) (ρ:Env):List D->R (List D)
 |[]=> .ok []
 |d::ds=>(unp k d).bind λ xs=>(cond (vals xs++ρ)).bind λ b =>
   if b then (elt (vals xs++ρ)).bind λ e=>(q0c elt cond k ρ ds).bind λ es=> .ok (e::es) else q0c elt cond k ρ ds
def R.q5z {α:Type}:R α->R α
 | .err _=> .stuck
 |r=>r
@[simp] theorem q14 {α:Type}(a:α):(R.ok a).q5z = .ok a:=rfl
@[simp] theorem qFn {α:Type}:(R.stuck:R α).q5z = .stuck:=rfl
@[simp] theorem qIC {α:Type}(c:Nat):(R.err c:R α).q5z = .stuck:=rfl
def optI:List D->R (Option Int)
 |[]=> .ok none
 |[.int i]=> .ok (some i)
 |_=> .stuck
def q74 (ps:List (D×D)):List (D×D):=ps.foldr (λ x l=>insK x l) []
where
 insK (x:D×D):List (D×D)->List (D×D)
  |[]=>[x]
  |y::l=>if ltb x.1 y.1 then x::y::l else y::insK x l
def mapR (f:D->R D):List D->R (List D)
 |[]=> .ok []
 |x::l=>(f x).bind λ y=>(mapR f l).bind λ m=> .ok (y::m)
section
variable (G:Nat->List D->R D) (sub:Nat->Nat->Bool)
mutual
noncomputable def ev:L->Env->R D
 | .var i,ρ=>getV ρ i
 | .bor i,ρ=>getB ρ i
 | .con d,_=> .ok d
 | .op o a b,ρ=>(ev a ρ).bind λ x=>(ev b ρ).bind λ y=>opD o x y
 | .cm o a b,ρ=>(ev a ρ).bind λ x=>(ev b ρ).bind λ y=>cmD o x y
 | .neg a,ρ=>(ev a ρ).bind λ x=>match x with
   | .int i=> .ok (.int (-i))
   |_=> .stuck
 | .not a,ρ=>(ev a ρ).bind λ x=>(tr x).bind λ b=> .ok (.bl (!b))
 | .and a b,ρ=>(ev a ρ).bind λ x=>match x with
   | .bl true=>ev b ρ
   | .bl false=> .ok (.bl false)
   |_=> .stuck
 | .or a b,ρ=>(ev a ρ).bind λ x=>match x with
   | .bl true=> .ok (.bl true)
   | .bl false=>ev b ρ
   |_=> .stuck
 | .ite c a b,ρ=>(tst c ρ).bind λ t=>if t then ev a ρ else ev b ρ
 | .tup xs,ρ=>(evs xs ρ).bind λ ds=>if ds.length<=big then .ok (.tup ds) else .stuck
 | .lst xs,ρ=>(evs xs ρ).bind λ ds=>if ds.length<=big then .ok (.lst ds) else .stuck
 | .dct k v,ρ=>(ev k ρ).bind λ x=>(ev v ρ).bind λ y=>match x with
   | .int i=> .ok (.dct [.int i] [y])
   |_=> .stuck
 | .idx a i,ρ=>(ev a ρ).bind λ x=>(ev i ρ).bind λ y=>idxD x y
 | .sl st a lo hi,ρ=>(ev a ρ).bind λ x=>(evs lo ρ).bind λ l=>(evs hi ρ).bind λ h=>(optI l).bind λ l=>(optI h).bind λ h=>slD st l h x
 | .call f xs,ρ=>(evs xs ρ).bind λ ds=>G f ds
 | .bi b xs,ρ=>(evs xs ρ).bind λ ds=>biD sub b ds
 | .comp k elt it cond,ρ=>(evi it ρ).bind λ ds=>(q0c (ev elt) (tsts cond) k ρ ds).q5z.bind λ es=>if es.length<=big then .ok (.lst es) else .stuck
 | .skey a f,ρ=>(ev a ρ).bind λ d=>(q0L d).bind λ xs=>(mapR (λ x=>G f [x]) xs).q5z.bind λ ks =>
   if q1I ks then .ok (.lst ((q74 (ks.zip xs)).map (·.2))) else .stuck
 | .lrng xs,ρ=>(evs xs ρ).bind λ ds=>(rngD ds).bind λ is=>if is.length<=big then .ok (.lst is) else .stuck
noncomputable def evs:List L->Env->R (List D)
 |[],_=> .ok []
 |a::l,ρ=>(ev a ρ).bind λ x=>(evs l ρ).bind λ xs=> .ok (x::xs)
noncomputable def evi:I->Env->R (List D)
 | .rng xs,ρ=>(evs xs ρ).bind rngD
 | .e a,ρ=>(ev a ρ).bind q0L
 | .b i,ρ=>(getB ρ i).bind q1r
noncomputable def tst:T->Env->R Bool
 | .and a b,ρ=>(tst a ρ).bind λ t=>if t then tst b ρ else .ok false
 | .or a b,ρ=>(tst a ρ).bind λ t=>if t then .ok true else tst b ρ
 | .not a,ρ=>(tst a ρ).bind λ t=> .ok (!t)
 | .e a,ρ=>(ev a ρ).bind tr
noncomputable def tsts:List T->Env->R Bool
 |[],_=> .ok true
 |a::l,ρ=>(tst a ρ).bind λ t=>if t then tsts l ρ else .ok false
end
end
inductive S where
 |set (i:Nat) (a:L)|setO (i:Nat) (a:L)|setT (is:List Nat) (a:L)|aug (i:Nat) (o:Op2) (a:L)
 |setE (i:Nat) (a:L)|app2 (i:Nat) (k a:L)|frz (i j:Nat)
 |app (i:Nat) (a:L)|ext (i:Nat) (a:L)|pop (j i:Nat)|put (i:Nat) (k v:L)
 |expr (a:L)|ifs (c:T) (a b:List S)|forr (k:Nat) (is:List Nat) (it:I) (body:List S)|whl (c:T) (body:List S)
 |ret (a:L)|retN|retO (i:Nat)|brk|cont|pass
 |raise (c:Nat)|tryE (body:List S) (c i j:Nat)
inductive F where|nx|brk|cont|ret (d:D)
inductive RS where|ok (ρ:Env) (f:F)|err (c:Nat) (ρ:Env)|stuck
def R.go {α:Type}(r:R α) (ρ:Env) (f:α->RS):RS:=match r with
 | .ok a=>f a
 | .err c=> .err c ρ
 | .stuck=> .stuck
@[simp] theorem q05 {α:Type}(a:α) (ρ:Env) (f:α->RS):(R.ok a).go ρ f=f a:=rfl
@[simp] theorem go_err {α:Type}(c:Nat) (ρ:Env) (f:α->RS):(R.err c:R α).go ρ f = .err c ρ:=rfl
@[simp] theorem qKJ {α:Type}(ρ:Env) (f:α->RS):(R.stuck:R α).go ρ f = .stuck:=rfl
def RS.nx (r:RS) (f:Env->RS):RS:=match r with
 | .ok ρ .nx=>f ρ
 |r=>r
@[simp] theorem q5L (ρ:Env) (f:Env->RS):(RS.ok ρ .nx).nx f=f ρ:=rfl
@[simp] theorem qID (ρ:Env) (d:D) (f:Env->RS):(RS.ok ρ (.ret d)).nx f = .ok ρ (.ret d):=rfl
@[simp] theorem qEp (ρ:Env) (f:Env->RS):(RS.ok ρ .brk).nx f = .ok ρ .brk:=rfl
@[simp] theorem qKd (ρ:Env) (f:Env->RS):(RS.ok ρ .cont).nx f = .ok ρ .cont:=rfl
@[simp] theorem qB3 (ρ:Env) (c:Nat) (f:Env->RS):(RS.err c ρ).nx f = .err c ρ:=rfl
def RS.turn (r:RS) (f:Env->RS):RS:=match r with
 | .ok ρ .nx=>f ρ
 | .ok ρ .cont=>f ρ
 | .ok ρ .brk=> .ok ρ .nx
 | .ok ρ (.ret d)=> .ok ρ (.ret d)
 | .err c ρ=> .err c ρ
 | .stuck=> .stuck
@[simp] theorem q0u (ρ:Env) (f:Env->RS):(RS.ok ρ .nx).turn f=f ρ:=rfl
@[simp] theorem qIE (ρ:Env) (f:Env->RS):(RS.ok ρ .cont).turn f=f ρ:=rfl
@[simp] theorem qDF (ρ:Env) (f:Env->RS):(RS.ok ρ .brk).turn f = .ok ρ .nx:=rfl
@[simp] theorem qDG (ρ:Env) (d:D) (f:Env->RS):(RS.ok ρ (.ret d)).turn f = .ok ρ (.ret d):=rfl
@[simp] theorem qDH (ρ:Env) (c:Nat) (f:Env->RS):(RS.err c ρ).turn f = .err c ρ:=rfl
def q2n:List Nat->List D->Env->Env
 |i::is,d::ds,ρ=>q2n is ds (ρ.set i (some (.val d)))
 |_,_,ρ=>ρ
def q0k (body:Env->RS) (k:Nat) (is:List Nat):List D->Env->RS
 |[],ρ=> .ok ρ .nx
 |d::ds,ρ=>(unp k d).go ρ λ xs=>(body (q2n is xs ρ)).turn λ ρ'=>q0k body k is ds ρ'
def q1L (c:Env->R Bool) (body:Env->RS):Nat->Env->RS
 |0,_=> .stuck
 |n+1,ρ=>(c ρ).go ρ λ t=>if t then (body ρ).turn λ ρ'=>q1L c body n ρ' else .ok ρ .nx
def augD (o:Op2):D->D->R D
 | .int m,.int n=>opD o (.int m) (.int n)
 |_,_=> .stuck
section
variable (G:Nat->List D->R D) (sub:Nat->Nat->Bool)
mutual
noncomputable def ex:S->Env->RS
 | .set i a,ρ=>(ev G sub a ρ).go ρ λ d=> .ok (ρ.set i (some (.val d))) .nx
 | .setO i a,ρ=>(ev G sub a ρ).go ρ λ d=> .ok (ρ.set i (some (.own d))) .nx
 | .setT is a,ρ=>(ev G sub a ρ).go ρ λ d=>(unp is.length d).go ρ λ xs=> .ok (q2n is xs ρ) .nx
 | .aug i o a,ρ=>(getV ρ i).go ρ λ x=>(ev G sub a ρ).go ρ λ y=>(augD o x y).go ρ λ z=> .ok (ρ.set i (some (.val z))) .nx
 | .app i a,ρ=>match ρ[i]? with
   |some (some (.own (.lst xs)))=>(ev G sub a ρ).go ρ λ d=>if xs.length<big then .ok (ρ.set i (some (.own (.lst (xs++[d]))))) .nx else .stuck
   |_=> .stuck
 | .ext i a,ρ=>match ρ[i]? with
   |some (some (.own (.lst xs)))=>(ev G sub a ρ).go ρ λ d=>match d with
     | .lst ys=>if xs.length+ys.length<=big then .ok (ρ.set i (some (.own (.lst (xs++ys))))) .nx else .stuck
     |_=> .stuck
   |_=> .stuck
 | .pop j i,ρ=>match ρ[i]? with
   |some (some (.own (.lst xs)))=>match xs.getLast? with
     |some d=> .ok ((ρ.set i (some (.own (.lst xs.dropLast)))).set j (some (.val d))) .nx
     |none=> .stuck
   |_=> .stuck
 | .put i k v,ρ=>match ρ[i]? with
   |some (some (.own (.dct ks vs)))=>(ev G sub v ρ).go ρ λ y=>(ev G sub k ρ).go ρ λ x=>match x with
     | .int n=>if ks.length<big then (put n y ks vs).go ρ λ r=> .ok (ρ.set i (some (.own (.dct r.1 r.2)))) .nx else .stuck
     |_=> .stuck
   |_=> .stuck
 | .setE i a,ρ=>(ev G sub a ρ).go ρ λ d=>match d with
   | .int n=>if 0<=n/\n<=1000 then .ok (ρ.set i (some (.own2 (List.replicate n.toNat [])))) .nx else .stuck
   |_=> .stuck
 | .app2 i k a,ρ=>match ρ[i]? with
   |some (some (.own2 xss))=>(ev G sub k ρ).go ρ λ x=>match x with
     | .int n=>if 0<=n then (match xss[n.toNat]? with
       |some ys=>(ev G sub a ρ).go ρ λ d=>if ys.length<big then .ok (ρ.set i (some (.own2 (xss.set n.toNat (ys++[d]))))) .nx else .stuck
       |none=> .stuck) else .stuck
     |_=> .stuck
   |_=> .stuck
 | .frz i j,ρ=>match ρ[j]? with
   |some (some (.own (.lst xs)))=>if i=j then .stuck else .ok ((ρ.set j (some (.val (.lst xs)))).set i (some (.val (.lst xs)))) .nx
   |_=> .stuck
 | .expr a,ρ=>(ev G sub a ρ).go ρ λ _=> .ok ρ .nx
 | .ifs c a b,ρ=>(tst G sub c ρ).go ρ λ t=>if t then exs a ρ else exs b ρ
 | .forr k is it body,ρ=>(evi G sub it ρ).go ρ λ ds=>q0k (exs body) k is ds ρ
 | .whl c body,ρ=>q1L (tst G sub c) (exs body) 100000 ρ
 | .ret a,ρ=>(ev G sub a ρ).go ρ λ d=> .ok ρ (.ret d)
 | .retN,ρ=> .ok ρ (.ret .non)
 | .retO i,ρ=>match ρ[i]? with
   |some (some (.own d))=> .ok (ρ.set i none) (.ret d)
   |some (some (.own2 xss))=> .ok (ρ.set i none) (.ret (.lst (xss.map .lst)))
   |_=> .stuck
 | .brk,ρ=> .ok ρ .brk
 | .cont,ρ=> .ok ρ .cont
 | .pass,ρ=> .ok ρ .nx
 | .raise c,ρ=> .err c ρ
 | .tryE body c i j,ρ=>match exs body ρ with
   | .err e ρ'=>if sub e c then .ok ((ρ'.set j (some (.val (.exc e)))).set i none) .nx else .stuck
   |r=>r
noncomputable def exs:List S->Env->RS
 |[],ρ=> .ok ρ .nx
 |s::l,ρ=>(ex s ρ).nx λ ρ'=>exs l ρ'
end
def run (n:Nat) (body:List S) (ds:List D):R D:=match exs G sub body (vals ds++List.replicate (n-ds.length) none) with
 | .ok _ .nx=> .ok .non
 | .ok _ (.ret d)=> .ok d
 | .err c _=> .err c
 |_=> .stuck
end
structure Ct where
 N:List Str
 kinds:List (Str×NameKind)
 funs:List Str
 consts:List (Str×D)
 excs:List Str
 muts:List Str
 fresh:List Str
 deep:List Str
def ixOf (x:Str):List Str->Option Nat
 |[]=>none
 |y::l=>if x=y then some 0 else (ixOf x l).map (·+1)
def q2o (x:Str):Bool:=!(x==Str.ofString "__debug__")&&!(x==Str.ofString "__classdict__")
def Ct.vis (C:Ct) (x:Str):Bool:=q2o x&&match C.kinds.lookup x with
 |some .local|some .cell|some .free=>true
 |_=>false
def Ct.loc (C:Ct) (x:Str):Option Nat:=if q2o x then (match C.kinds.lookup x with
 |some .local|some .cell=>ixOf x C.N
 |_=>none) else none
def Ct.glob (C:Ct) (x:Str):Bool:=q2o x&&decide (C.kinds.lookup x=some .globalImplicit)
noncomputable def opOf:Operator->Option Op2
 | .Add=>some .add | .Sub=>some .sub | .Mult=>some .mul | .FloorDiv=>some .fdiv | .Mod=>some .mod | .LShift=>some .shl | .RShift=>some .shr
 | .BitAnd=>some .band | .BitOr=>some .bor | .BitXor=>some .bxor|_=>none
def cmOf:CmpOp->Cm
 | .Eq=> .eq | .NotEq=> .ne | .Lt=> .lt | .LtE=> .le | .Gt=> .gt | .GtE=> .ge | .Is=> .isN | .IsNot=> .notN | .In=> .mem | .NotIn=> .nmem
def q8E:Const->Option D
 | .none=>some .non | .bool b=>some (.bl b) | .int i=>some (.int i) | .str x=>if x.length<=1000 then some (.str x) else none|_=>none
def qB4 (x:Str):Str:=⟨#[33]++x.cps⟩
def Ct.inner (C:Ct) (ts:List Str) (sc:Scope):Ct :=
 {C with N:=ts++C.N.map (λ x=>if x∈ts then qB4 x else x),kinds:=sc.names,muts:=C.muts.filter (λ x=>!decide (x∈ts))}
noncomputable def Ct.scOk (C:Ct) (ts:List Str) (sc:Scope):Bool :=
 decide (sc.kind = .function)&&decide ((C.inner ts sc).N.Nodup)&&ts.all (λ x=>decide (sc.names.lookup x=some .local)) &&
 sc.names.all (λ y=>decide (y.2 ≠ .cell)&&(decide (y.2 ≠ .free) || decide (C.kinds.lookup y.1=some .cell) || decide (C.kinds.lookup y.1=some .free))&&(decide (y.2 ≠ .local) || decide (sc.names.lookup y.1=some .local))) &&
 C.N.all (λ y=>if y∈ts then decide (sc.names.lookup (qB4 y)=none) else decide (sc.names.lookup y≠some .local))
def Expr.isName:Expr->Option Str
 | .Name x _=>some x
 |_=>none
theorem q0I {e:Expr}{x:Str}(h:Expr.isName e=some x):∃q,e = .Name x q:=by
 unfold Expr.isName at h;split at h
 ·cases h;exact⟨_,rfl⟩
 ·cases h
def pair {α:Type}:List α->Option (α×α)
 |[a,b]=>some (a,b)
 |_=>none
theorem qFo {α:Type}{l:List α}{r:α×α}(h:pair l=some r):l=[r.1,r.2]:=by
 cases l with
 |nil=>cases h
 |cons a l=>cases l with
  |nil=>cases h
  |cons b l=>cases l with
   |nil=>cases h;rfl
   |cons _ _=>cases h
def tgs:Expr->Option (Nat×List Str)
 | .Name x _=>some (0,[x])
 | .Tuple xs _ _=>(pair xs).bind λ ab=>(Expr.isName ab.1).bind λ x=>(Expr.isName ab.2).map λ y=>(2,[x,y])
 |_=>none
noncomputable def bi1 (x:Str):Option Bi :=
 if x=Str.ofString "len" then some .len else if x=Str.ofString "sorted" then some .sorted else if x=Str.ofString "tuple" then some .tuple else if x=Str.ofString "list" then some .list
 else if x=Str.ofString "sum" then some .sum else if x=Str.ofString "all" then some .all else if x=Str.ofString "int" then some .toInt else none
def bi2 (x:Str):Option Bi:=if x=Str.ofString "min" then some .min2 else if x=Str.ofString "max" then some .max2 else none
noncomputable def isOf (C:Ct) (x:Str):Option Bi :=
 if C.glob x then
  if x=Str.ofString "tuple" then some .isTup else if x=Str.ofString "list" then some .isLst else if x=Str.ofString "int" then some .isInt else if x=Str.ofString "bool" then some .isBool
  else if x=Str.ofString "ValueError" then some .isVal else (ixOf x C.excs).map .isExc
 else none
def q8F:Expr->Bool
 | .BoolOp _ _ _=>true
 | .UnaryOp .Not _ _=>true
 |_=>false
def sole {α:Type}:List α->Option α
 |[a]=>some a
 |_=>none
theorem q0v {α:Type}{l:List α}{a:α}(h:sole l=some a):l=[a]:=by
 cases l with
 |nil=>cases h
 |cons b r=>cases r with
  |nil=>cases h;rfl
  |cons _ _=>cases h
def qEq:Option Expr->Option Nat
 |none=>some 0
 |_=>none
def qB5:Expr->Bool
 | .Constant c _ _=>match c with
  | .bool b=>b
  |_=>false
 |_=>false
def qB6 (l:List Keyword):Bool:=match sole l with
 |some k=>decide (k.arg=some (Str.ofString "reverse"))&&qB5 k.value
 |none=>false
theorem qDI {l:List Keyword}(h:qB6 l=true):∃k q p,l=[⟨some (Str.ofString "reverse"),.Constant (.bool true) k q,p⟩]:=by
 unfold qB6 at h;split at h
 ·rename_i kw hk;obtain⟨a,e,p⟩:=kw;rw[Bool.and_eq_true,decide_eq_true_eq] at h;obtain⟨h1,h2⟩:=h;dsimp only at h1 h2;unfold qB5 at h2;split at h2
  ·split at h2
   ·rw[q0v hk,h1,h2];exact⟨_,_,_,rfl⟩
   ·cases h2
  ·cases h2
 ·cases h
def qDJ:Expr->Option (Str×List Expr)
 | .Call f args kws _=>if kws.isEmpty then (Expr.isName f).map λ f=>(f,args) else none
 |_=>none
theorem q94 {e:Expr}{f:Str}{args:List Expr}(h:qDJ e=some (f,args)):∃q pos,e = .Call (.Name f q) args [] pos:=by
 unfold qDJ at h;split at h
 ·split at h
  ·rename_i hk;obtain⟨x,e1,e2⟩:=oM h;obtain⟨q,rfl⟩:=q0I e1;cases e2;cases List.isEmpty_iff.mp hk;exact⟨_,_,rfl⟩
  ·cases h
 ·cases h
def qIF (C:Ct) (e:Expr):Option (List Expr):=(qDJ e).bind λ y=>if y.1=Str.ofString "range"/\C.glob y.1/\ixOf y.1 C.funs=none then some y.2 else none
def q60 (e:Expr):Option (Str×Expr):=(qDJ e).bind λ y=>(sole y.2).map λ a=>(y.1,a)
theorem q3i {e:Expr}{g:Str}{a:Expr}(h:q60 e=some (g,a)):∃q pos,e = .Call (.Name g q) [a] [] pos:=by obtain⟨⟨f,as⟩,g1,h⟩:=oB h;obtain⟨b,g2,h⟩:=oM h;cases h;have z:as=[_]:=q0v g2;subst z;exact q94 g1
mutual
/-- a value -/
noncomputable def cE:Nat->Ct->Expr->Option L
 |0,_,_=>none
 |n+1,C,e=>match e with
  | .Constant c _ _=>(q8E c).map .con
  | .Name x _=>if C.vis x then (if x∈C.muts then none else (ixOf x C.N).map .var) else if C.glob x then (C.consts.lookup x).map .con else none
  | .BinOp a op b _=>(opOf op).bind λ o=>(cB n C a).bind λ a=>(cB n C b).map (.op o a)
  | .Compare a ops bs _=>(sole ops).bind λ op=>(sole bs).bind λ b=>(cB n C a).bind λ a=>(cB n C b).map (.cm (cmOf op) a)
  | .UnaryOp op a _=>match op with
   | .Not=>(cB n C a).map .not
   | .USub=>(cE n C a).map .neg
   |_=>none
  | .BoolOp op xs _=>cBo n C op xs
  | .IfExp c a b _=>(cT n C c).bind λ c=>(cE n C a).bind λ a=>(cE n C b).map (.ite c a)
  | .Tuple xs _ _=>(cEs n C xs).map .tup
  | .List xs _=>(cEs n C xs).map .lst
  | .Subscript a i _=>match i with
   | .Slice lo hi st _=>(qEq st).bind λ k=>(cB n C a).bind λ a=>(cEs n C lo.toList).bind λ lo=>(cEs n C hi.toList).bind λ hi=>if k=0\/(lo.isEmpty/\hi.isEmpty) then some (.sl k a lo hi) else none
   |i=>(cB n C a).bind λ a=>(cE n C i).map (.idx a)
  | .Call g args kws cp=>match g with
   | .Name f _=>if C.glob f then (match ixOf f C.funs with
    |some i=>if kws.isEmpty/\¬args.isEmpty then (cEs n C args).map (.call i) else none
    |none=>if kws.isEmpty then qDK n C f args else if f=Str.ofString "sorted" then (sole args).bind λ a=>if qB6 kws then (cB n C a).map λ l=> .bi .sortedRev [l] else none else none)
    else none
   | .Attribute o m ap=>if kws.isEmpty/\ap.endLine==cp.line then (cB n C o).bind λ o=>if args.isEmpty then (if m=Str.ofString "bit_length" then some (.bi .bits [o]) else none) else (sole args).bind λ y=>match y with
    | .Constant c _ _=>(q8E c).bind λ d=>if m=Str.ofString "count" then some (.bi .count [o,.con d]) else if m=Str.ofString "index" then some (.bi .index [o,.con d]) else none
    |_=>none
    else none
   |_=>none
  | .ListComp elt gs sc _=>(sole gs).bind λ g=>if g.is_async=0 then (tgs g.target).bind λ t=>(cI n C g.iter).bind λ it=>(cE n (C.inner t.2 sc) elt).bind λ elt=>(cTs n (C.inner t.2 sc) g.ifs).bind λ ifs=>if C.scOk t.2 sc&&decide (ifs.length<=1) then some (.comp t.1 elt it ifs) else none else none
  |_=>none
/-- a value that is looked at and not kept: an owned name may stand here -/
noncomputable def cB:Nat->Ct->Expr->Option L
 |0,_,_=>none
 |n+1,C,e=>match e with
  | .Name x p=>if C.vis x/\x∈C.muts then (ixOf x C.N).map .bor else cE n C (.Name x p)
  |e=>cE n C e
noncomputable def cEs:Nat->Ct->List Expr->Option (List L)
 |0,_,_=>none
 |_+1,_,[]=>some []
 |n+1,C,e::es=>(cE n C e).bind λ a=>(cEs n C es).map λ l=>a::l
noncomputable def cBo:Nat->Ct->BoolOp->List Expr->Option L
 |0,_,_,_=>none
 |n+1,C,_,[a]=>cE n C a
 |n+1,C,op,a::b::r=>(cE n C a).bind λ a=>(cBo n C op (b::r)).map λ b=>match op with | .And=> .and a b | .Or=> .or a b
 |_+1,_,_,[]=>none
noncomputable def cT:Nat->Ct->Expr->Option T
 |0,_,_=>none
 |n+1,C,e=>match e with
  | .BoolOp op xs _=>cTo n C op xs
  | .UnaryOp .Not a _=>(cT n C a).map .not
  | .IfExp _ _ _ _=>none
  |e=>(cB n C e).map .e
noncomputable def cTo:Nat->Ct->BoolOp->List Expr->Option T
 |0,_,_,_=>none
 |n+1,C,_,[a]=>cT n C a
 |n+1,C,op,a::b::r=>(cT n C a).bind λ a=>(cTo n C op (b::r)).map λ b=>match op with | .And=> .and a b | .Or=> .or a b
 |_+1,_,_,[]=>none
noncomputable def cTs:Nat->Ct->List Expr->Option (List T)
 |0,_,_=>none
 |_+1,_,[]=>some []
 |n+1,C,e::es=>(cT n C e).bind λ a=>(cTs n C es).map λ l=>a::l
noncomputable def cI:Nat->Ct->Expr->Option I
 |0,_,_=>none
 |n+1,C,e=>match qIF C e with
  |some args=>if args.length=1\/args.length=2 then (cEs n C args).map .rng else none
  |none=>match Expr.isName e with
   |some x=>if C.vis x/\x∈C.muts then (ixOf x C.N).map .b else (cE n C e).map .e
   |none=>(cE n C e).map .e
noncomputable def qDK:Nat->Ct->Str->List Expr->Option L
 |0,_,_,_=>none
 |n+1,C,f,args=>match args with
  |[y]=>match q60 y with
   |some (g,a)=>if f=Str.ofString "sorted"/\g=Str.ofString "set"/\C.glob g/\ixOf g C.funs=none then (cB n C a).map λ a=> .bi .sortedSet [a]
    else (bi1 f).bind λ b=>(cB n C y).map λ a=> .bi b [a]
   |none=>(bi1 f).bind λ b=>(cB n C y).map λ a=> .bi b [a]
  |[a,y]=>if f=Str.ofString "isinstance" then (Expr.isName y).bind λ c=>(cB n C a).bind λ a=>(isOf C c).map λ b=> .bi b [a] else (bi2 f).bind λ b=>(cEs n C args).map (.bi b)
  |_=>none
end
def Ct.q8G (C:Ct):Expr->Bool
 | .Name x _=>decide (x∈C.muts)
 |_=>false
def qDL:Expr->Bool
 | .Constant (.str x) _ _=>decide (x.length<=1000)
 |_=>false
noncomputable def Ct.qFp (C:Ct):Expr->Bool
 | .FormattedValue e k sp _=>decide (k = -1)&&sp.isNone&&match Expr.isName e with
  |some y=>C.glob y&&match C.consts.lookup y with
   |some (.int a)=>decide (a.natAbs.log2<1920)&&decide ((Str.ofString (toString a)).length<=1000)
   |_=>false
  |none=>false
 |_=>false
def Ct.qDM (C:Ct):Expr->Bool
 | .JoinedStr xs _=>match xs with
  |a::b::r=>qDL a&&C.qFp b&&(match r with
   |[]=>true
   |[c]=>qDL c
   |_=>false)
  |_=>false
 |e=>qDL e
def qB7:Expr->Option (Expr×List Expr×List Keyword×Pos)
 | .Call f a k p=>some (f,a,k,p)
 |_=>none
theorem qB8 {e:Expr}{r:Expr×List Expr×List Keyword×Pos}(h:qB7 e=some r):e = .Call r.1 r.2.1 r.2.2.1 r.2.2.2:=by
 unfold qB7 at h;split at h
 ·cases h;rfl
 ·cases h
def qB9 (e:Expr):Option (Expr×Str×List Expr×Pos×Pos):=(qB7 e).bind λ c=>if c.2.2.1.isEmpty then (match c.1 with
 | .Attribute o m ap=>some (o,m,c.2.1,ap,c.2.2.2)
 |_=>none) else none
theorem q75 {e o:Expr}{m:Str}{as:List Expr}{ap cp:Pos}(h:qB9 e=some (o,m,as,ap,cp)):e = .Call (.Attribute o m ap) as [] cp:=by
 obtain⟨⟨f,a,k,p⟩,h1,h⟩:=oB h;rw[qB8 h1];dsimp only at h |-;split at h
 ·rename_i hk;cases List.isEmpty_iff.mp hk;split at h
  ·cases h;rfl
  ·cases h
 ·cases h
def nilL:Expr->Bool
 | .List xs _=>xs.isEmpty
 |_=>false
noncomputable def deepOf:Expr->Option (Str×Str×Expr×Scope×Pos)
 | .ListComp elt gs sc vp=>if nilL elt then (sole gs).bind λ g=>if g.ifs.isEmpty/\g.is_async=0 then (Expr.isName g.target).bind λ t=>(q60 g.iter).map λ f=>(t,f.1,f.2,sc,vp) else none else none
 |_=>none
theorem qBA {v:Expr}{t g:Str}{a:Expr}{sc:Scope}{vp:Pos}(h:deepOf v=some (t,g,a,sc,vp)):∃q1 q2 q3 q4,v = .ListComp (.List [] q1) [⟨.Name t q2,.Call (.Name g q3) [a] [] q4,[],0⟩] sc vp:=by
 unfold deepOf at h;split at h
 ·split at h
  ·rename_i hn;obtain⟨⟨tg,it,ifs,k⟩,hg,h⟩:=oB h;dsimp only at h;split at h
   ·rename_i hc;obtain⟨x,h1,h⟩:=oB h;obtain⟨⟨f,b⟩,h2,h⟩:=oM h;cases h;obtain⟨q2,rfl⟩:=q0I h1;obtain⟨q3,q4,rfl⟩:=q3i h2;obtain⟨hc1,hc2⟩:=hc;rw[q0v hg,List.isEmpty_iff.mp hc1,hc2];unfold nilL at hn;split at hn
    ·rw[List.isEmpty_iff.mp hn];exact⟨_,_,_,_,rfl⟩
    ·cases hn
   ·cases h
  ·cases h
 ·cases h
noncomputable def qFq (C:Ct) (fE:Expr->Option L) (x:Str) (xp:Pos) (i:Nat) (v:Expr):Option S:=(deepOf v).bind λ d=>if d.2.1=Str.ofString "range"/\C.glob d.2.1/\ixOf d.2.1 C.funs=none/\x∈C.muts/\C.scOk [d.1] d.2.2.2.1/\C.kinds.lookup x=some .local/\(xp.line==d.2.2.2.2.line)=true/\
 (d.2.2.2.1.names.any λ y=>y.1==x&&(y.2 == .local || y.2 == .cell))=false then (fE d.2.2.1).map (.setE i) else none
noncomputable def qIG (fE:Expr->Option L) (fEs:List Expr->Option (List L)) (i:Nat):Expr->Option S
 | .List xs _=>(fEs xs).map λ l=> .setO i (.lst l)
 | .Dict ks ws _=>(sole ks).bind λ k=>k.bind λ k=>(sole ws).bind λ w=>(fE k).bind λ k=>(fE w).map λ w=> .setO i (.dct k w)
 |_=>none
noncomputable def qFr (C:Ct) (fE:Expr->Option L) (i:Nat) (v:Expr):Option S:=match qB9 v with
 |some (o,m,as,ap,cp)=>(match Expr.isName o with
  |some y=>if y∈C.muts/\m=Str.ofString "pop" then (if as.isEmpty&&ap.endLine==cp.line&&q2o y then (C.loc y).map (.pop i) else none) else (fE v).map (.set i)
  |none=>(fE v).map (.set i))
 |none=>match Expr.isName v with
  |some y=>if y∈C.muts then none else (fE v).map (.set i)
  |none=>(fE v).map (.set i)
noncomputable def cAsg (C:Ct) (fE:Expr->Option L) (fEs:List Expr->Option (List L)) (ts:List Expr) (v:Expr):Option S:=(sole ts).bind λ t=>match t with
 | .Name x xp=>(C.loc x).bind λ i=>if x∈C.deep then qFq C fE x xp i v else if x∈C.muts then qIG fE fEs i v else qFr C fE i v
 | .Subscript o k _=>(Expr.isName o).bind λ x=>if x∈C.muts/\q2o x then (C.loc x).bind λ i=>(fE k).bind λ k=>(fE v).map (.put i k) else none
 |_=>none
def cAug (C:Ct) (fE:Expr->Option L) (t:Expr) (op:Operator) (v:Expr):Option S:=(Expr.isName t).bind λ x=>if x∈C.muts then none else (C.loc x).bind λ i=>(opOf op).bind λ o=>(fE v).map (.aug i o)
noncomputable def qIH (C:Ct) (fE:Expr->Option L) (m:Str) (as:List Expr) (ap cp:Pos):Expr->Option S
 | .Name x _=>if x∈C.muts/\(ap.endLine==cp.line)=true/\q2o x/\m=Str.ofString "append" then (sole as).bind λ a=>(C.loc x).bind λ i=>(fE a).map (.app i) else none
 | .Subscript o k _=>(Expr.isName o).bind λ x=>if (ap.endLine==cp.line)=true/\q2o x/\x∈C.deep/\x∈C.muts/\m=Str.ofString "append" then (sole as).bind λ a=>(C.loc x).bind λ i=>(fE k).bind λ k=>(fE a).map (.app2 i k) else none
 |_=>none
def qII:Expr->Bool
 | .ListComp _ _ _ _=>true
 |_=>false
def qEr:Expr->Bool
 | .Constant c _ _=>match c with
  | .str _=>true
  |_=>false
 |_=>false
def cExp (C:Ct) (fE:Expr->Option L) (e:Expr):Option S:=if qEr e then some .pass else match qB9 e with
 |some (o,m,as,ap,cp)=>qIH C fE m as ap cp o
 |none=>if qII e then none else (fE e).map .expr
def cRet (C:Ct) (fE:Expr->Option L):Option Expr->Option S
 |some e=>(match Expr.isName e with
  |some x=>if x∈C.muts then (C.loc x).map .retO else (fE e).map .ret
  |none=>(fE e).map .ret)
 |none=>some .retN
def cRai (C:Ct) (a b:Option Expr):Option S:=a.bind λ e=>if b.isNone then (q60 e).bind λ c=>if C.glob c.1/\C.qDM c.2 then (ixOf c.1 C.excs).map .raise else none else none
def setN:Stmt->Option (Str×Str)
 | .Assign ts v _=>(sole ts).bind λ t=>(Expr.isName t).bind λ y=>(Expr.isName v).map λ x=>(y,x)
 |_=>none
theorem qFs {s:Stmt}{r:Str×Str}(h:setN s=some r):∃q q2 pos,s = .Assign [.Name r.1 q] (.Name r.2 q2) pos:=by
 unfold setN at h;split at h
 ·obtain⟨t,h1,h⟩:=oB h;obtain⟨y,h2,h⟩:=oB h;obtain⟨x,h3,rfl⟩:=oM h;obtain⟨q,rfl⟩:=q0I h2;obtain⟨q2,rfl⟩:=q0I h3;rw[q0v h1];exact⟨_,_,_,rfl⟩
 ·cases h
noncomputable def cHan (C:Ct):ExceptHandler->Option (Nat×Nat×Nat)
 | .ExceptHandler ty nm b _=>ty.bind λ ty=>(Expr.isName ty).bind λ c=>nm.bind λ x=>(sole b).bind λ st=>(setN st).bind λ s=>if C.glob c/\q2o x/\x∉C.muts/\s.1∉C.muts/\s.2=x/\x≠s.1/\C.kinds.lookup x=some .local then (ixOf c C.excs).bind λ c=>(C.loc x).bind λ i=>(C.loc s.1).map λ j=>(c,i,j) else none
noncomputable def cTry (C:Ct) (fS:List Stmt->Option (List S)) (body:List Stmt) (hs:List ExceptHandler) (oe fb:List Stmt):Option S:=if oe.isEmpty/\fb.isEmpty then (sole hs).bind λ h=>(cHan C h).bind λ r=>(fS body).map λ b=> .tryE b r.1 r.2.1 r.2.2 else none
mutual
noncomputable def cS:Nat->Ct->Stmt->Option S
 |0,_,_=>none
 |n+1,C,s=>match s with
  | .Assign ts v _=>cAsg C (cE n C) (cEs n C) ts v
  | .AugAssign t op v _=>cAug C (cE n C) t op v
  | .Expr e _=>cExp C (cE n C) e
  | .If c a b _=>(cT n C c).bind λ c=>(cSs n C a).bind λ a=>(cSs n C b).map (.ifs c a)
  | .For tg it body oe _=>if oe.isEmpty/\¬C.q8G it then (Expr.isName tg).bind λ x=>(cI n C it).bind λ it=>(cSs n C body).bind λ body=>(C.loc x).bind λ i=>if x∈C.muts then none else some (.forr 0 [i] it body) else none
  | .While c body oe _=>if oe.isEmpty then (cT n C c).bind λ c=>(cSs n C body).map (.whl c) else none
  | .Return r _=>cRet C (cE n C) r
  | .Break _=>some .brk
  | .Continue _=>some .cont
  | .Pass _=>some .pass
  | .Raise a b _=>cRai C a b
  | .Try body hs oe fb _=>cTry C (cSs n C) body hs oe fb
  |_=>none
noncomputable def cSs:Nat->Ct->List Stmt->Option (List S)
 |0,_,_=>none
 |_+1,_,[]=>some []
 |n+1,C,e::es=>(cS n C e).bind λ a=>(cSs n C es).map λ l=>a::l
end
end Ev
namespace Ev
open PySem
variable {a b:D}
theorem D.ind {P:D->Prop}{Q:List D->Prop}(hn:P .non) (hb:∀b,P (.bl b)) (hi:∀i,P (.int i)) (hs:∀x,P (.str x)) (ht:∀l,Q l->P (.tup l)) (hl:∀l,Q l->P (.lst l)) (hd:∀k v,Q k->Q v->P (.dct k v)) (he:∀c,P (.exc c))
  (q0:Q []) (q1:∀a l,P a->Q l->Q (a::l)):(∀d,P d)/\∀l,Q l :=
 ⟨λ d=>D.rec (motive_1:=P) (motive_2:=Q) hn hb hi hs ht hl hd he q0 q1 d,λ l=>D.rec_1 (motive_1:=P) (motive_2:=Q) hn hb hi hs ht hl hd he q0 q1 l⟩
theorem q3E {l:List D}:q0A (a::l)=true↔q03 a=true/\q0A l=true:=by simp[q0A]
theorem q8H:(∀a b:D,q03 a=true->q03 b=true->(eqb a b=true↔a=b))/\(∀a b:List D,q0A a=true->q0A b=true->(eqbL a b=true↔a=b)):=by
 have:=D.ind (P:=λ a=>∀b,q03 a=true->q03 b=true->(eqb a b=true↔a=b)) (Q:=λ a=>∀b,q0A a=true->q0A b=true->(eqbL a b=true↔a=b))
  (λ b h=>by simp[q03] at h) (λ _ b h=>by simp[q03] at h) (λ i b h1 h2=>by cases b<;>simp_all [q03,eqb]) (λ _ b h=>by simp[q03] at h)
  (λ l ih b h1 h2=>by cases b<;>simp_all [q03,eqb])
  (λ _ _ b h=>by simp[q03] at h) (λ _ _ _ _ b h=>by simp[q03] at h) (λ _ b h=>by simp[q03] at h)
  (λ b h1 h2=>by cases b<;>simp[eqbL])
  (λ a l iha ihl b h1 h2=>by
   cases b with
   |nil=>simp[eqbL]
   |cons c m =>
    rw[q3E] at h1 h2;simp only[eqbL,Bool.and_eq_true,List.cons.injEq];rw[iha c h1.1 h2.1,ihl m h1.2 h2.2])
 exact this
theorem q0Y (ha:q03 a=true) (hb:q03 b=true):eqb a b=true↔a=b:=q8H.1 a b ha hb
theorem q8I:(∀a:D,q03 a=true->ltb a a=false)/\(∀a:List D,q0A a=true->ltbL a a=false):=by
 refine D.ind (P:=λ a=>q03 a=true->ltb a a=false) (Q:=λ a=>q0A a=true->ltbL a a=false)
  (λ h=>by simp[q03] at h) (λ _ h=>by simp[q03] at h) (λ i h=>by simp[ltb]) (λ _ h=>by simp[q03] at h) (λ l ih h=>by simpa[ltb] using ih (by simpa[q03] using h))
  (λ _ _ h=>by simp[q03] at h) (λ _ _ _ _ h=>by simp[q03] at h) (λ _ h=>by simp[q03] at h) (λ _=>by simp[ltbL]) (λ a l iha ihl h=>?_)
 rw[q3E] at h;rw[ltbL,if_pos ((q0Y h.1 h.1).mpr rfl)];exact ihl h.2
theorem q8J (h:q03 a=true):ltb a a=false:=q8I.1 a h
theorem q8K:(∀a b:D,q03 a=true->q03 b=true->q0o a b=true->ltb a b=true\/a=b\/ltb b a=true)/\(∀a b:List D,q0A a=true->q0A b=true->q0t a b=true->ltbL a b=true\/a=b\/ltbL b a=true):=by
 refine D.ind (P:=λ a=>∀b,q03 a=true->q03 b=true->q0o a b=true->ltb a b=true\/a=b\/ltb b a=true) (Q:=λ a=>∀b,q0A a=true->q0A b=true->q0t a b=true->ltbL a b=true\/a=b\/ltbL b a=true)
  (λ b h=>by simp[q03] at h) (λ _ b h=>by simp[q03] at h) (λ i b h1 h2 c=>?_) (λ _ b h=>by simp[q03] at h) (λ l ih b h1 h2 c=>?_)
  (λ _ _ b h=>by simp[q03] at h) (λ _ _ _ _ b h=>by simp[q03] at h) (λ _ b h=>by simp[q03] at h) (λ b h1 h2 c=>by cases b<;>simp[ltbL]) (λ a l iha ihl b h1 h2 c=>?_)
 ·cases b<;>simp_all [q03,q0o,ltb];lia
 ·cases b<;>simp_all [q03,q0o,ltb]
 ·cases b with
  |nil=>simp[ltbL]
  |cons d m =>
   rw[q3E] at h1 h2;simp only[q0t] at c
   by_cases e:a=d
   ·subst e;have ee:eqb a a=true:=(q0Y h1.1 h1.1).mpr rfl;rw[ltbL,ltbL,if_pos ee,if_pos ee];rw[if_pos ee] at c;rcases ihl m h1.2 h2.2 c with q|q|q
    ·exact .inl q
    ·exact .inr (.inl (by rw[q]))
    ·exact .inr (.inr q)
   ·have e1:¬eqb a d=true:=λ q=>e ((q0Y h1.1 h2.1).mp q);have e2:¬eqb d a=true:=λ q=>e ((q0Y h2.1 h1.1).mp q).symm;rw[ltbL,ltbL,if_neg e1,if_neg e2];rw[if_neg e1] at c;rcases iha d h1.1 h2.1 c with q|q|q
    ·exact .inl q
    ·exact absurd q e
    ·exact .inr (.inr q)
theorem q8L (ha:q03 a=true) (hb:q03 b=true) (c:q0o a b=true):ltb a b=true\/a=b\/ltb b a=true:=q8K.1 a b ha hb c
theorem q61:(∀a b c:D,q03 a=true->q03 b=true->q03 c=true->ltb a b=true->ltb b c=true->ltb a c=true)/\(∀a b c:List D,q0A a=true->q0A b=true->q0A c=true->ltbL a b=true->ltbL b c=true->ltbL a c=true):=by
 refine D.ind (P:=λ a=>∀b c,q03 a=true->q03 b=true->q03 c=true->ltb a b=true->ltb b c=true->ltb a c=true) (Q:=λ a=>∀b c,q0A a=true->q0A b=true->q0A c=true->ltbL a b=true->ltbL b c=true->ltbL a c=true)
  (λ b c h=>by simp[q03] at h) (λ _ b c h=>by simp[q03] at h) (λ i b c h1 h2 h3 p q=>?_) (λ _ b c h=>by simp[q03] at h) (λ l ih b c h1 h2 h3 p q=>?_)
  (λ _ _ b c h=>by simp[q03] at h) (λ _ _ _ _ b c h=>by simp[q03] at h) (λ _ b c h=>by simp[q03] at h) (λ b c h1 h2 h3 p q=>?_) (λ a l iha ihl b c h1 h2 h3 p q=>?_)
 ·cases b with
  |int j=>cases c with
   |int k =>
    have p':i<j:=(by simpa[ltb] using p);have q':j<k:=(by simpa[ltb] using q);have:i<k:=(by lia);simpa[ltb] using this
   |tup _=>cases (show false=true from q)
   |non=>cases (show false=true from q)
   |bl _=>cases (show false=true from q)
   |str _=>cases (show false=true from q)
   |lst _=>cases (show false=true from q)
   |dct _ _=>cases (show false=true from q)
   |exc _=>cases (show false=true from q)
  |tup _=>cases (show false=true from p)
  |non=>cases (show false=true from p)
  |bl _=>cases (show false=true from p)
  |str _=>cases (show false=true from p)
  |lst _=>cases (show false=true from p)
  |dct _ _=>cases (show false=true from p)
  |exc _=>cases (show false=true from p)
 ·cases b with
  |tup j=>cases c with
   |tup k=>exact ih j k (by simpa[q03] using h1) (by simpa[q03] using h2) (by simpa[q03] using h3) p q
   |int _=>cases (show false=true from q)
   |non=>cases (show false=true from q)
   |bl _=>cases (show false=true from q)
   |str _=>cases (show false=true from q)
   |lst _=>cases (show false=true from q)
   |dct _ _=>cases (show false=true from q)
   |exc _=>cases (show false=true from q)
  |int _=>cases (show false=true from p)
  |non=>cases (show false=true from p)
  |bl _=>cases (show false=true from p)
  |str _=>cases (show false=true from p)
  |lst _=>cases (show false=true from p)
  |dct _ _=>cases (show false=true from p)
  |exc _=>cases (show false=true from p)
 ·cases b with
  |nil=>simp[ltbL] at p
  |cons d m=>cases c with
   |nil=>simp[ltbL] at q
   |cons e n=>simp[ltbL]
 ·cases b with
  |nil=>simp[ltbL] at p
  |cons d m=>cases c with
   |nil=>simp[ltbL] at q
   |cons e n =>
    rw[q3E] at h1 h2 h3;rw[ltbL] at p q |-
    by_cases e1:a=d
    ·subst e1;rw[if_pos ((q0Y h1.1 h1.1).mpr rfl)] at p
     by_cases e2:a=e
     ·subst e2;have ee:=(q0Y h1.1 h1.1).mpr rfl;rw[if_pos ee] at q |-;exact ihl m n h1.2 h2.2 h3.2 p q
     ·have ne:¬eqb a e=true:=λ z=>e2 ((q0Y h1.1 h3.1).mp z);rw[if_neg ne] at q |-;exact q
    ·have ne1:¬eqb a d=true:=λ z=>e1 ((q0Y h1.1 h2.1).mp z);rw[if_neg ne1] at p
     by_cases e2:d=e
     ·subst e2;rw[if_neg ne1];exact p
     ·have ne2:¬eqb d e=true:=λ z=>e2 ((q0Y h2.1 h3.1).mp z);rw[if_neg ne2] at q;have r:=iha d e h1.1 h2.1 h3.1 p q
      by_cases e3:a=e
      ·subst e3;rw[q8J h1.1] at r;cases r
      ·have ne3:¬eqb a e=true:=λ z=>e3 ((q0Y h1.1 h3.1).mp z);rw[if_neg ne3];exact r
theorem q4e {c:D}(ha:q03 a=true) (hb:q03 b=true) (hc:q03 c=true) (p:ltb a b=true) (q:ltb b c=true):ltb a c=true:=q61.1 a b c ha hb hc p q
theorem q62 (x:D):∀l:List D,(ins x l).Perm (x::l)
 |[]=> .refl _
 |y::l=>by
  unfold ins;split
  ·exact .refl _
  ·exact ((q62 x l).cons y).trans (.swap x y l)
theorem q0d:∀l:List D,(q1F l).Perm l
 |[]=> .refl _
 |x::l=>(q62 x (q1F l)).trans ((q0d l).cons x)
theorem q0S {l:List D}:q0A l=true↔∀d∈l,q03 d=true:=by
 induction l with
 |nil=>simp[q0A]
 |cons a l ih=>rw[q3E,ih];simp
def Srt (l:List D):Prop:=l.Pairwise λ a b=>ltb b a=false
theorem qBB {x:D}:∀{l:List D},q03 x=true->(∀d∈l,q03 d=true)->Srt l->Srt (ins x l)
 |[],_,_,_=>by unfold ins;exact List.pairwise_singleton _ _
 |y::l,hx,hl,s=>by
  have s':=List.pairwise_cons.mp s;unfold ins;split
  ·rename_i c;refine List.pairwise_cons.mpr ⟨λ d hd=>?_,s⟩;rcases List.mem_cons.mp hd with rfl|hd
   ·cases q:ltb d x with
    |false=>rfl
    |true=>rw[<-q8J hx];exact (q4e hx (hl d List.mem_cons_self) hx c q).symm▸rfl
   ·cases q:ltb d x with
    |false=>rfl
    |true =>
     have r:=q4e (hl d (List.mem_cons_of_mem _ hd)) hx (hl y List.mem_cons_self) q c;rw[s'.1 d hd] at r;cases r
  ·rename_i c;have hl':∀d∈l,q03 d=true:=λ d hd=>hl d (List.mem_cons_of_mem _ hd);refine List.pairwise_cons.mpr ⟨λ d hd=>?_,qBB hx hl' s'.2⟩;rcases List.mem_cons.mp ((q62 x l).mem_iff.mp hd) with rfl|hd
   ·simpa using c
   ·exact s'.1 d hd
theorem q1R:∀{l:List D},(∀d∈l,q03 d=true)->Srt (q1F l)
 |[],_=>List.Pairwise.nil
 |x::l,h=>qBB (h x List.mem_cons_self) (λ d hd=>h d (List.mem_cons_of_mem _ ((q0d l).mem_iff.mp hd))) (q1R λ d hd=>h d (List.mem_cons_of_mem _ hd))
theorem q3j:∀{l m:List D},l.Perm m->(∀d∈l,q03 d=true)->(∀a∈l,∀b∈l,q0o a b=true)->Srt l->Srt m->l=m
 |[],m,p,_,_,_,_=>(List.Perm.nil_eq p)
 |a::l,[],p,_,_,_,_=>absurd p.length_eq (by simp)
 |a::l,b::m,p,h,c,s1,s2=>by
  have s1':=List.pairwise_cons.mp s1;have s2':=List.pairwise_cons.mp s2;have hb:b∈a::l:=p.mem_iff.mpr List.mem_cons_self;have ha:a∈b::m:=p.mem_iff.mp List.mem_cons_self;have e:a=b:=by
   rcases List.mem_cons.mp hb with q|q
   ·exact q.symm
   ·rcases List.mem_cons.mp ha with r|r
    ·exact r
    ·have z1:=s1'.1 b q;have z2:=s2'.1 a r;rcases q8L (h a List.mem_cons_self) (h b hb) (c a List.mem_cons_self b hb) with t|t|t
     ·rw[z2] at t;cases t
     ·exact t
     ·rw[z1] at t;cases t
  subst e;have p':l.Perm m:=p.cons_inv;rw[q3j p' (λ d hd=>h d (List.mem_cons_of_mem _ hd)) (λ x hx y hy=>c x (List.mem_cons_of_mem _ hx) y (List.mem_cons_of_mem _ hy)) s1'.2 s2'.2]
end Ev
namespace Ev
open PySem
section
variable {G:Nat->List D->R D}{sub:Nat->Nat->Bool}
@[simp] theorem q1V (i:Nat) (ρ:Env):ev G sub (.var i) ρ=getV ρ i:=rfl
@[simp] theorem qEs (i:Nat) (ρ:Env):ev G sub (.bor i) ρ=getB ρ i:=rfl
@[simp] theorem q0F (d:D) (ρ:Env):ev G sub (.con d) ρ = .ok d:=rfl
@[simp] theorem q0O (o:Op2) (a b:L) (ρ:Env):ev G sub (.op o a b) ρ=(ev G sub a ρ).bind λ x=>(ev G sub b ρ).bind λ y=>opD o x y:=rfl
@[simp] theorem qAI (o:Cm) (a b:L) (ρ:Env):ev G sub (.cm o a b) ρ=(ev G sub a ρ).bind λ x=>(ev G sub b ρ).bind λ y=>cmD o x y:=rfl
@[simp] theorem qIJ (a:L) (ρ:Env):ev G sub (.neg a) ρ=(ev G sub a ρ).bind λ x=>match x with
   | .int i=> .ok (.int (-i))
   |_=> .stuck:=rfl
@[simp] theorem qIK (a:L) (ρ:Env):ev G sub (.not a) ρ=(ev G sub a ρ).bind λ x=>(tr x).bind λ b=> .ok (.bl (!b)):=rfl
@[simp] theorem qEt (a b:L) (ρ:Env):ev G sub (.and a b) ρ=(ev G sub a ρ).bind λ x=>match x with
   | .bl true=>ev G sub b ρ
   | .bl false=> .ok (.bl false)
   |_=> .stuck:=rfl
@[simp] theorem qKe (a b:L) (ρ:Env):ev G sub (.or a b) ρ=(ev G sub a ρ).bind λ x=>match x with
   | .bl true=> .ok (.bl true)
   | .bl false=>ev G sub b ρ
   |_=> .stuck:=rfl
@[simp] theorem qBC (c:T) (a b:L) (ρ:Env):ev G sub (.ite c a b) ρ=(tst G sub c ρ).bind λ t=>if t then ev G sub a ρ else ev G sub b ρ:=rfl
@[simp] theorem qBD (xs:List L) (ρ:Env):ev G sub (.tup xs) ρ=(evs G sub xs ρ).bind λ ds=>if ds.length<=big then .ok (.tup ds) else .stuck:=rfl
@[simp] theorem q76 (xs:List L) (ρ:Env):ev G sub (.lst xs) ρ=(evs G sub xs ρ).bind λ ds=>if ds.length<=big then .ok (.lst ds) else .stuck:=rfl
@[simp] theorem qIL (k v:L) (ρ:Env):ev G sub (.dct k v) ρ=(ev G sub k ρ).bind λ x=>(ev G sub v ρ).bind λ y=>match x with
   | .int i=> .ok (.dct [.int i] [y])
   |_=> .stuck:=rfl
@[simp] theorem q1d (a i:L) (ρ:Env):ev G sub (.idx a i) ρ=(ev G sub a ρ).bind λ x=>(ev G sub i ρ).bind λ y=>idxD x y:=rfl
@[simp] theorem qBE (st:Nat) (a:L) (lo hi:List L) (ρ:Env):ev G sub (.sl st a lo hi) ρ=(ev G sub a ρ).bind λ x=>(evs G sub lo ρ).bind λ l=>(evs G sub hi ρ).bind λ h=>(optI l).bind λ l=>(optI h).bind λ h=>slD st l h x:=rfl
@[simp] theorem q1G (f:Nat) (xs:List L) (ρ:Env):ev G sub (.call f xs) ρ=(evs G sub xs ρ).bind λ ds=>G f ds:=rfl
@[simp] theorem q16 (b:Bi) (xs:List L) (ρ:Env):ev G sub (.bi b xs) ρ=(evs G sub xs ρ).bind λ ds=>biD sub b ds:=rfl
@[simp] theorem q1U (k:Nat) (elt:L) (it:I) (cond:List T) (ρ:Env):ev G sub (.comp k elt it cond) ρ=(evi G sub it ρ).bind λ ds=>(q0c (ev G sub elt) (tsts G sub cond) k ρ ds).q5z.bind λ es=>if es.length<=big then .ok (.lst es) else .stuck:=rfl
@[simp] theorem qKf (a:L) (f:Nat) (ρ:Env):ev G sub (.skey a f) ρ=(ev G sub a ρ).bind λ d=>(q0L d).bind λ xs=>(mapR (λ x=>G f [x]) xs).q5z.bind λ ks =>
   if q1I ks then .ok (.lst ((q74 (ks.zip xs)).map (·.2))) else .stuck:=rfl
@[simp] theorem qKg (xs:List L) (ρ:Env):ev G sub (.lrng xs) ρ=(evs G sub xs ρ).bind λ ds=>(rngD ds).bind λ is=>if is.length<=big then .ok (.lst is) else .stuck:=rfl
@[simp] theorem q0Z (ρ:Env):evs G sub [] ρ = .ok []:=rfl
@[simp] theorem q0J (a:L) (l:List L) (ρ:Env):evs G sub (a::l) ρ=(ev G sub a ρ).bind λ x=>(evs G sub l ρ).bind λ xs=> .ok (x::xs):=rfl
@[simp] theorem q0l (xs:List L) (ρ:Env):evi G sub (.rng xs) ρ=(evs G sub xs ρ).bind rngD:=rfl
@[simp] theorem qKh (i:Nat) (ρ:Env):evi G sub (.b i) ρ=(getB ρ i).bind q1r:=rfl
@[simp] theorem q8M (a:L) (ρ:Env):evi G sub (.e a) ρ=(ev G sub a ρ).bind q0L:=rfl
@[simp] theorem qBF (a b:T) (ρ:Env):tst G sub (.and a b) ρ=(tst G sub a ρ).bind λ t=>if t then tst G sub b ρ else .ok false:=rfl
@[simp] theorem q5S (a b:T) (ρ:Env):tst G sub (.or a b) ρ=(tst G sub a ρ).bind λ t=>if t then .ok true else tst G sub b ρ:=rfl
@[simp] theorem q4f (a:T) (ρ:Env):tst G sub (.not a) ρ=(tst G sub a ρ).bind λ t=> .ok (!t):=rfl
@[simp] theorem q8N (a:L) (ρ:Env):tst G sub (.e a) ρ=(ev G sub a ρ).bind tr:=rfl
@[simp] theorem q2Y (ρ:Env):tsts G sub [] ρ = .ok true:=rfl
@[simp] theorem q1x (a:T) (l:List T) (ρ:Env):tsts G sub (a::l) ρ=(tst G sub a ρ).bind λ t=>if t then tsts G sub l ρ else .ok false:=rfl
@[simp] theorem q0P (i:Nat) (a:L) (ρ:Env):ex G sub (.set i a) ρ=(ev G sub a ρ).go ρ λ d=> .ok (ρ.set i (some (.val d))) .nx:=rfl
@[simp] theorem q63 (i:Nat) (a:L) (ρ:Env):ex G sub (.setO i a) ρ=(ev G sub a ρ).go ρ λ d=> .ok (ρ.set i (some (.own d))) .nx:=rfl
@[simp] theorem qKi (is:List Nat) (a:L) (ρ:Env):ex G sub (.setT is a) ρ=(ev G sub a ρ).go ρ λ d=>(unp is.length d).go ρ λ xs=> .ok (q2n is xs ρ) .nx:=rfl
@[simp] theorem qBG (i:Nat) (o:Op2) (a:L) (ρ:Env):ex G sub (.aug i o a) ρ=(getV ρ i).go ρ λ x=>(ev G sub a ρ).go ρ λ y=>(augD o x y).go ρ λ z=> .ok (ρ.set i (some (.val z))) .nx:=rfl
@[simp] theorem qBH (i:Nat) (a:L) (ρ:Env):ex G sub (.app i a) ρ=match ρ[i]? with
   |some (some (.own (.lst xs)))=>(ev G sub a ρ).go ρ λ d=>if xs.length<big then .ok (ρ.set i (some (.own (.lst (xs++[d]))))) .nx else .stuck
   |_=> .stuck:=rfl
@[simp] theorem ex_ext (i:Nat) (a:L) (ρ:Env):ex G sub (.ext i a) ρ=match ρ[i]? with
   |some (some (.own (.lst xs)))=>(ev G sub a ρ).go ρ λ d=>match d with
     | .lst ys=>if xs.length+ys.length<=big then .ok (ρ.set i (some (.own (.lst (xs++ys))))) .nx else .stuck
     |_=> .stuck
   |_=> .stuck:=rfl
@[simp] theorem ex_pop (j i:Nat) (ρ:Env):ex G sub (.pop j i) ρ=match ρ[i]? with
   |some (some (.own (.lst xs)))=>match xs.getLast? with
     |some d=> .ok ((ρ.set i (some (.own (.lst xs.dropLast)))).set j (some (.val d))) .nx
     |none=> .stuck
   |_=> .stuck:=rfl
@[simp] theorem qBI (i:Nat) (k v:L) (ρ:Env):ex G sub (.put i k v) ρ=match ρ[i]? with
   |some (some (.own (.dct ks vs)))=>(ev G sub v ρ).go ρ λ y=>(ev G sub k ρ).go ρ λ x=>match x with
     | .int n=>if ks.length<big then (put n y ks vs).go ρ λ r=> .ok (ρ.set i (some (.own (.dct r.1 r.2)))) .nx else .stuck
     |_=> .stuck
   |_=> .stuck:=rfl
@[simp] theorem qFt (i:Nat) (a:L) (ρ:Env):ex G sub (.setE i a) ρ=(ev G sub a ρ).go ρ λ d=>match d with
   | .int n=>if 0<=n/\n<=1000 then .ok (ρ.set i (some (.own2 (List.replicate n.toNat [])))) .nx else .stuck
   |_=> .stuck:=rfl
@[simp] theorem qFu (i:Nat) (k a:L) (ρ:Env):ex G sub (.app2 i k a) ρ=match ρ[i]? with
   |some (some (.own2 xss))=>(ev G sub k ρ).go ρ λ x=>match x with
     | .int n=>if 0<=n then (match xss[n.toNat]? with
       |some ys=>(ev G sub a ρ).go ρ λ d=>if ys.length<big then .ok (ρ.set i (some (.own2 (xss.set n.toNat (ys++[d]))))) .nx else .stuck
       |none=> .stuck) else .stuck
     |_=> .stuck
   |_=> .stuck:=rfl
@[simp] theorem ex_frz (i j:Nat) (ρ:Env):ex G sub (.frz i j) ρ=match ρ[j]? with
   |some (some (.own (.lst xs)))=>if i=j then .stuck else .ok ((ρ.set j (some (.val (.lst xs)))).set i (some (.val (.lst xs)))) .nx
   |_=> .stuck:=rfl
@[simp] theorem q8O (a:L) (ρ:Env):ex G sub (.expr a) ρ=(ev G sub a ρ).go ρ λ _=> .ok ρ .nx:=rfl
@[simp] theorem q1y (c:T) (a b:List S) (ρ:Env):ex G sub (.ifs c a b) ρ=(tst G sub c ρ).go ρ λ t=>if t then exs G sub a ρ else exs G sub b ρ:=rfl
@[simp] theorem q0w (k:Nat) (is:List Nat) (it:I) (body:List S) (ρ:Env):ex G sub (.forr k is it body) ρ=(evi G sub it ρ).go ρ λ ds=>q0k (exs G sub body) k is ds ρ:=rfl
@[simp] theorem qBJ (c:T) (body:List S) (ρ:Env):ex G sub (.whl c body) ρ=q1L (tst G sub c) (exs G sub body) 100000 ρ:=rfl
@[simp] theorem q77 (a:L) (ρ:Env):ex G sub (.ret a) ρ=(ev G sub a ρ).go ρ λ d=> .ok ρ (.ret d):=rfl
@[simp] theorem qKj (ρ:Env):ex G sub .retN ρ = .ok ρ (.ret .non):=rfl
@[simp] theorem qBK (i:Nat) (ρ:Env):ex G sub (.retO i) ρ=match ρ[i]? with
   |some (some (.own d))=> .ok (ρ.set i none) (.ret d)
   |some (some (.own2 xss))=> .ok (ρ.set i none) (.ret (.lst (xss.map .lst)))
   |_=> .stuck:=rfl
@[simp] theorem qIM (ρ:Env):ex G sub .brk ρ = .ok ρ .brk:=rfl
@[simp] theorem qKk (ρ:Env):ex G sub .cont ρ = .ok ρ .cont:=rfl
@[simp] theorem qKl (ρ:Env):ex G sub .pass ρ = .ok ρ .nx:=rfl
@[simp] theorem q95 (c:Nat) (ρ:Env):ex G sub (.raise c) ρ = .err c ρ:=rfl
@[simp] theorem qKm (body:List S) (c i j:Nat) (ρ:Env):ex G sub (.tryE body c i j) ρ=match exs G sub body ρ with
   | .err e ρ'=>if sub e c then .ok ((ρ'.set j (some (.val (.exc e)))).set i none) .nx else .stuck
   |r=>r:=rfl
@[simp] theorem q0C (ρ:Env):exs G sub [] ρ = .ok ρ .nx:=rfl
@[simp] theorem q0g (s:S) (l:List S) (ρ:Env):exs G sub (s::l) ρ=(ex G sub s ρ).nx λ ρ'=>exs G sub l ρ':=rfl
end
end Ev
namespace Ev
open PySem
def nI (t:Nat):D:= .int (t:Int)
def nL (l:List Nat):List D:=l.map nI
@[simp] theorem nL_nil:nL []=[]:=rfl
@[simp] theorem q0a (a:Nat) (l:List Nat):nL (a::l)=nI a::nL l:=rfl
@[simp] theorem q78 (a b:List Nat):nL (a++b)=nL a++nL b:=List.map_append
@[simp] theorem q0Q (l:List Nat):(nL l).length=l.length:=List.length_map _
@[simp] theorem qBL (a b:Nat):nI a=nI b↔a=b:=by unfold nI;simp;lia
theorem qIN {a b:List Nat}:nL a=nL b↔a=b:=by unfold nL;exact⟨λ h=>(List.map_inj_right (λ x y e=>(qBL x y).mp e)).mp h,λ h=>by rw[h]⟩
@[simp] theorem add_n (a b:Nat):opD .add (nI a) (nI b) = .ok (nI (a+b)):=rfl
@[simp] theorem qFv (a b:Nat) (ha:a<2^62) (hb:b<=1000):opD .shl (nI a) (nI b) = .ok (nI (a <<< b)):=by unfold nI;rw[q73 _ (by decide) (by decide)];unfold opI;dsimp only;rw[if_pos (by lia)];rfl
@[simp] theorem shr_n (a b:Nat):opD .shr (nI a) (nI b) = .ok (nI (a >>> b)):=by unfold nI;rw[q73 _ (by decide) (by decide)];unfold opI;dsimp only;rw[if_pos (by lia)];rfl
@[simp] theorem band_n (a b:Nat):opD .band (nI a) (nI b) = .ok (nI (a &&& b)):=by unfold nI;rw[q73 _ (by decide) (by decide)];unfold opI;dsimp only;rw[if_pos (by lia)];rfl
@[simp] theorem qDN (a b:Nat):opD .bor (nI a) (nI b) = .ok (nI (a ||| b)):=by unfold nI;rw[q73 _ (by decide) (by decide)];unfold opI;dsimp only;rw[if_pos (by lia)];rfl
@[simp] theorem bxor_n (a b:Nat):opD .bxor (nI a) (nI b) = .ok (nI (a ^^^ b)):=by unfold nI;rw[q73 _ (by decide) (by decide)];unfold opI;dsimp only;rw[if_pos (by lia)];rfl
theorem qIO (a b:Nat) (h:b<=a):opD .sub (nI a) (nI b) = .ok (nI (a-b)):=by unfold nI;rw[q73 _ (by decide) (by decide)];unfold opI;dsimp only;congr 2;lia
@[simp] theorem qAJ (a b:Nat) (h:0<b):opD .mod (nI a) (nI b) = .ok (nI (a % b)):=by unfold nI;rw[q73 _ (by decide) (by decide)];unfold opI;dsimp only;rw[if_pos (by lia)];rfl
@[simp] theorem qEu (a b:Nat) (h:0<b) (h2:b<1073741824):opD .fdiv (nI a) (nI b) = .ok (nI (a / b)):=by unfold nI;rw[q73 _ (by decide) (by decide)];unfold opI;dsimp only;rw[if_pos (by lia)];rfl
@[simp] theorem pl_n (a:Nat):pl (nI a)=true:=rfl
@[simp] theorem pl_int (a:Int):pl (.int a)=true:=rfl
@[simp] theorem pl_bl (a:Bool):pl (.bl a)=true:=rfl
@[simp] theorem pl_str (a:Str):pl (.str a)=true:=rfl
@[simp] theorem pl_non:pl .non=true:=rfl
@[simp] theorem plN_n (k a:Nat):plN k (nI a)=true:=by cases k<;>rfl
@[simp] theorem qKn (k:Nat) (a:Int):plN k (.int a)=true:=by cases k<;>rfl
@[simp] theorem plN_bl (k:Nat) (a:Bool):plN k (.bl a)=true:=by cases k<;>rfl
@[simp] theorem qKo (k:Nat) (a:Str):plN k (.str a)=true:=by cases k<;>rfl
@[simp] theorem qKp (k:Nat):plN k .non=true:=by cases k<;>rfl
@[simp] theorem q1e (k:Nat) (l:List D):plN (k+1) (.tup l)=l.all (plN k):=by simp[plN]
@[simp] theorem q3k (k:Nat) (l:List D):plN (k+1) (.lst l)=l.all (plN k):=by simp[plN]
@[simp] theorem all_n (k:Nat) (l:List Nat):(nL l).all (plN k)=true:=by simp[nL]
@[simp] theorem qDO (l:List Nat):pl (.tup (nL l))=true:=by unfold pl;simp
@[simp] theorem qKq (l:List Nat):pl (.lst (nL l))=true:=by unfold pl;simp
@[simp] theorem qKr:plL []=true:=rfl
@[simp] theorem qKK (a:D) (l:List D):plL (a::l)=(pl a&&plL l):=rfl
theorem q1f {l:List D}:plL l=true↔∀d∈l,pl d=true:=by unfold plL;simp
@[simp] theorem qIP (l:List Nat):plL (nL l)=true:=q1f.mpr λ d hd=>by obtain⟨a,_,rfl⟩:=List.mem_map.mp hd;rfl
@[simp] theorem qKs (a b:Nat):eqb (nI a) (nI b)=decide (a=b):=by
 have:eqb (.int (a:Int)) (.int (b:Int))=decide ((a:Int)=b):=by simp[eqb]
 rw[nI,nI,this];exact decide_eq_decide.mpr (by lia)
@[simp] theorem q8P (a:Nat):q03 (nI a)=true:=by simp[nI,q03]
@[simp] theorem q96 (l:List Nat):q0A (nL l)=true:=q0S.mpr λ d hd=>by obtain⟨a,_,rfl⟩:=List.mem_map.mp hd;exact q8P a
@[simp] theorem qEv (l:List Nat):q03 (.tup (nL l))=true:=by simp[q03]
@[simp] theorem qEw (a b:List Nat):eqb (.tup (nL a)) (.tup (nL b))=decide (a=b):=by rw[Bool.eq_iff_iff,q0Y (qEv a) (qEv b)];simp[qIN]
@[simp] theorem lt_n (a b:Nat):cmD .lt (nI a) (nI b) = .ok (.bl (decide (a<b))):=by simp[nI,cmD,q0o,ltb,pl,q03]
@[simp] theorem ge_n (a b:Nat):cmD .ge (nI a) (nI b) = .ok (.bl (decide (b<=a))):=by simp[nI,cmD,q0o,ltb,pl,q03];rw[Bool.eq_iff_iff];simp
@[simp] theorem gt_n (a b:Nat):cmD .gt (nI a) (nI b) = .ok (.bl (decide (b<a))):=by simp[nI,cmD,intD]
@[simp] theorem le_n (a b:Nat):cmD .le (nI a) (nI b) = .ok (.bl (decide (a<=b))):=by simp[nI,cmD,intD]
@[simp] theorem eq_n (a b:Nat):cmD .eq (nI a) (nI b) = .ok (.bl (decide (a=b))):=by simp[cmD]
@[simp] theorem ne_n (a b:Nat):cmD .ne (nI a) (nI b) = .ok (.bl (!decide (a=b))):=by simp[cmD]
@[simp] theorem qDP (b:Bool):tr (.bl b) = .ok b:=rfl
@[simp] theorem tr_lst (l:List D):tr (.lst l) = .ok (!l.isEmpty):=rfl
@[simp] theorem tr_tup (l:List D):tr (.tup l) = .ok (!l.isEmpty):=rfl
@[simp] theorem q2K (l:List D):q0L (.lst l) = .ok l:=rfl
@[simp] theorem qAK (l:List D):q1r (.lst l) = .ok l:=rfl
@[simp] theorem qHg (l:List D):q1r (.tup l) = .ok l:=rfl
@[simp] theorem qIQ (l:List D):q0L (.tup l) = .ok l:=rfl
theorem qBM:∀l:List Nat,ints? (nL l)=some (l.map λ (a:Nat)=>(a:Int))
 |[]=>rfl
 |a::l=>by simp[ints?,nI,qBM l]
@[simp] theorem qBN (k:List Nat) (v:List D):q0L (.dct (nL k) v) = .ok (nL k):=by simp[q0L,qBM]
theorem num0:D.int 0=nI 0:=rfl
theorem num1:D.int 1=nI 1:=rfl
theorem num2:D.int 2=nI 2:=rfl
theorem num10:D.int 10=nI 10:=rfl
theorem qKt:D.int 1300=nI 1300:=rfl
@[simp] theorem q2F (j:Nat) (h:j<2^62):rngD [nI j] = .ok (nL (List.range j)):=by unfold rngD nI;simp only;rw[if_pos (by lia)];simp[nL,nI]
@[simp] theorem unp0 (d:D):unp 0 d = .ok [d]:=rfl
@[simp] theorem unp2 (a b:D):unp 2 (.tup [a,b]) = .ok [a,b]:=rfl
@[simp] theorem qKu (i:Nat) (d:D) (ρ:Env):q2n [i] [d] ρ=ρ.set i (some (.val d)):=rfl
@[simp] theorem qKv (i j:Nat) (d e:D) (ρ:Env):q2n [i,j] [d,e] ρ=(ρ.set i (some (.val d))).set j (some (.val e)):=rfl
@[simp] theorem qDQ:vals []=[]:=rfl
@[simp] theorem qBO (d:D) (l:List D):vals (d::l)=some (.val d)::vals l:=rfl
@[simp] theorem qHh (elt:Env->R D) (cond:Env->R Bool) (k:Nat) (ρ:Env):q0c elt cond k ρ [] = .ok []:=rfl
theorem q4g {elt:Env->R D}{cond:Env->R Bool}{k:Nat}{ρ:Env}{g:D->D}{p:D->Bool}:∀{ds:List D},
  (∀d∈ds,∃xs,unp k d = .ok xs/\cond (vals xs++ρ) = .ok (p d)/\(p d=true->elt (vals xs++ρ) = .ok (g d)))->q0c elt cond k ρ ds = .ok ((ds.filter p).map g)
 |[],_=>rfl
 |d::ds,h=>by
  obtain⟨xs,h1,h2,h3⟩:=h d List.mem_cons_self;have ih:=q4g (elt:=elt) (cond:=cond) (k:=k) (ρ:=ρ) (g:=g) (p:=p) (ds:=ds) λ e he=>h e (List.mem_cons_of_mem _ he);unfold q0c;rw[h1,q00,h2,q00];cases hp:p d with
  |true=>rw[if_pos rfl,h3 hp,q00,ih];simp[List.filter_cons,hp]
  |false=>rw[if_neg (by simp),ih];simp[List.filter_cons,hp]
@[simp] theorem q97 (ρ:Env) (i:Nat):getV ρ i=match ρ[i]? with
 |some (some (.val d))=> .ok d
 |_=> .stuck:=rfl
@[simp] theorem qKL (ρ:Env) (i:Nat):getB ρ i=match ρ[i]? with
 |some (some (.val d))=> .ok d
 |some (some (.own d))=> .ok d
 |_=> .stuck:=rfl
@[simp] theorem qBP (o:Op2) (a b:Nat):augD o (nI a) (nI b)=opD o (nI a) (nI b):=rfl
theorem q0h:big=1000000:=rfl
theorem q1g (body:Env->RS) (k:Nat) (is:List Nat) (ρ:Env):q0k body k is [] ρ = .ok ρ .nx:=rfl
theorem q0B (body:Env->RS) (i:Nat) (d:D) (ds:List D) (ρ:Env):q0k body 0 [i] (d::ds) ρ=(body (ρ.set i (some (.val d)))).turn λ ρ'=>q0k body 0 [i] ds ρ':=rfl
theorem qIR (body:Env->RS) (i j:Nat) (a b:D) (ds:List D) (ρ:Env):q0k body 2 [i,j] (.tup [a,b]::ds) ρ=(body ((ρ.set i (some (.val a))).set j (some (.val b)))).turn λ ρ'=>q0k body 2 [i,j] ds ρ':=rfl
theorem q2Z (c:Env->R Bool) (body:Env->RS) (n:Nat) (ρ:Env):q1L c body (n+1) ρ=(c ρ).go ρ λ t=>if t then (body ρ).turn λ ρ'=>q1L c body n ρ' else .ok ρ .nx:=rfl
section
variable {sub:Nat->Nat->Bool}
@[simp] theorem q2a (xs:List D):biD sub .len [.lst xs] = .ok (nI xs.length):=rfl
@[simp] theorem qHi (xs:List D):biD sub .len [.tup xs] = .ok (nI xs.length):=rfl
@[simp] theorem qHj (ks vs:List D):biD sub .len [.dct ks vs] = .ok (nI ks.length):=rfl
@[simp] theorem q1s (xs:List D):biD sub .tuple [.lst xs] = .ok (.tup xs):=rfl
@[simp] theorem qEx (xs:List D):biD sub .tuple [.tup xs] = .ok (.tup xs):=rfl
@[simp] theorem q8Q (xs:List D):biD sub .list [.lst xs] = .ok (.lst xs):=rfl
@[simp] theorem qFw (xs:List D):biD sub .list [.tup xs] = .ok (.lst xs):=rfl
@[simp] theorem qKM (sub:Nat->Nat->Bool) (l:List D):biD sub .isTup [.tup l] = .ok (.bl true):=rfl
@[simp] theorem qKN (sub:Nat->Nat->Bool) (l:List D):biD sub .isLst [.lst l] = .ok (.bl true):=rfl
@[simp] theorem qKO (sub:Nat->Nat->Bool) (i:Int):biD sub .isInt [.int i] = .ok (.bl true):=rfl
@[simp] theorem qIS (sub:Nat->Nat->Bool) (i:Nat):biD sub .isInt [nI i] = .ok (.bl true):=rfl
@[simp] theorem qIT (sub:Nat->Nat->Bool) (i:Int):biD sub .isBool [.int i] = .ok (.bl false):=rfl
@[simp] theorem qHk (sub:Nat->Nat->Bool) (i:Nat):biD sub .isBool [nI i] = .ok (.bl false):=rfl
@[simp] theorem qHl (sub:Nat->Nat->Bool) (b:Bool):biD sub .isBool [.bl b] = .ok (.bl true):=rfl
@[simp] theorem qKP (sub:Nat->Nat->Bool) (e:Nat):biD sub .isVal [.exc e] = .ok (.bl true):=rfl
@[simp] theorem qKQ (sub:Nat->Nat->Bool) (c e:Nat):biD sub (.isExc c) [.exc e] = .ok (.bl (sub e c)):=rfl
@[simp] theorem qBQ (d:D):biD sub .sorted [d]=(q0L d).bind λ xs=>if q1I xs then .ok (.lst (q1F xs)) else .stuck:=rfl
@[simp] theorem q4E (d:D):biD sub .sortedSet [d]=(q1r d).bind λ xs=>if q0A xs&&plL xs&&decide (xs.length<=1000)&&q1I (dedup xs) then .ok (.lst (q1F (dedup xs))) else .stuck:=rfl
@[simp] theorem qIU (xs:List D):biD sub .all [.lst xs]=match bools? xs with
   |some bs=> .ok (.bl (bs.all id))
   |none=> .stuck:=rfl
@[simp] theorem qKR (xs:List D) (x:D):biD sub .count [.lst xs,x]=if pl x&&plL xs then .ok (.int ((xs.filter λ y=>eqb y x).length)) else .stuck:=rfl
@[simp] theorem qKS (xs:List D) (x:D):biD sub .index [.lst xs,x]=if pl x&&plL xs then idxOf x xs 0 else .stuck:=rfl
end
end Ev
namespace Ev
open PySem
structure Ix where
 (mask_of things_of holds mask_of_all needs_of may_learn next_within core_within states_within is_whole is_set look_rules look_way look_set next_things states is_state greatest core:Nat)
 (law_cell law_mix law_subset law_rules law_sets law_next law_states law_refusal law_spoilt law_told:Nat)
namespace B
def q4h:List S:=[.aug 1 .bor (.op .shl (.con (.int 1)) (.var 2))]
def mask_of:List S:=[
 .set 1 (.con (.int 0)),
 .forr 0 [2] (.e (.var 0)) q4h,
 .ret (.var 1)]
def holds:List S:=[
 .ret (.cm .eq (.op .band (.op .shr (.var 0) (.var 1)) (.con (.int 1))) (.con (.int 1)))]
def things_of (f:Ix):List S:=[
 .ret (.bi .tuple [.comp 0 (.var 0) (.rng [.bi .bits [.var 0]]) [.e (.call f.holds [.var 1,.var 0])]])]
def q23:List S:=[.ifs (.e (.cm .eq (.op .band (.var 3) (.var 1)) (.var 3))) [.ret (.con (.bl true))] []]
def may_learn (f:Ix):List S:=[
 .ifs (.e (.call f.holds [.var 1,.var 2])) [.ret (.con (.bl false))] [],
 .forr 0 [3] (.e (.idx (.var 0) (.var 2))) q23,
 .ret (.con (.bl false))]
def next_within (f:Ix):List S:=[
 .ret (.comp 0 (.var 0) (.e (.call f.things_of [.var 2])) [.e (.call f.may_learn [.var 1,.var 2,.var 0])])]
end B
section
variable {G:Nat->List D->R D}{sub:Nat->Nat->Bool}{f:Ix}
def q01 (m:Nat) (ts:List Nat):Nat:=ts.foldl (λ m t=>m ||| (1 <<< t)) m
theorem q79:∀(ts:List Nat) (m:Nat) (x y:Option Sl),(∀t∈ts,t<=1000)->
  ∃y',q0k (exs G sub B.q4h) 0 [2] (nL ts) [x,some (.val (nI m)),y] = .ok [x,some (.val (nI (q01 m ts))),y'] .nx
 |[],m,x,y,_=>⟨y,rfl⟩
 |t::ts,m,x,y,h=>by have ht:=h t List.mem_cons_self;obtain⟨y',e⟩:=q79 ts (m ||| (1 <<< t)) x (some (.val (nI t))) (λ u hu=>h u (List.mem_cons_of_mem _ hu));refine⟨y',Eq.trans ?_ e⟩;rw[q0a,q0B];simp[B.q4h,num1,ht]
theorem q8R (ts:List Nat) (h:∀t∈ts,t<=1000) (d:D) (hd:d = .tup (nL ts)\/d = .lst (nL ts)):run G sub 3 B.mask_of [d] = .ok (nI (q01 0 ts)):=by obtain⟨y',e⟩:=q79 (G:=G) (sub:=sub) ts 0 (some (.val d)) none h;rcases hd with rfl|rfl<;>simp[run,B.mask_of,num0,e]
theorem qBR (m t:Nat):run G sub 2 B.holds [nI m,nI t] = .ok (.bl (m.testBit t)):=by simp only[run,B.holds];simp[num1,Nat.testBit_eq_decide_div_mod_eq,Nat.and_one_is_mod,Nat.shiftRight_eq_div_pow]
def blen (m:Nat):Nat:=if m=0 then 0 else m.log2+1
def q02 (m:Nat):List Nat:=(List.range (blen m)).filter m.testBit
theorem qIV (m:Nat):biD sub .bits [nI m] = .ok (nI (blen m)):=by
 show (if 0<=(m:Int) then R.ok (D.int (if (m:Int)=0 then 0 else (((m:Int).toNat.log2+1:Nat):Int))) else R.stuck)=_;unfold nI blen;rw[if_pos (by lia)]
 by_cases h:m=0
 ·subst h;rfl
 ·rw[if_neg (by lia),if_neg h];rfl
theorem qBS (m:Nat) (h:m<2^62):blen m<=62:=by
 unfold blen;split
 ·lia
 ·have:=(Nat.log2_lt (by assumption)).mpr h;lia
theorem q7A (l:List Nat) (p:Nat->Bool) (q:D->Bool) (h:∀a∈l,q (nI a)=p a):(nL l).filter q=nL (l.filter p):=by
 induction l with
 |nil=>rfl
 |cons a l ih =>
  have h1:=h a List.mem_cons_self;have ih':=ih λ b hb=>h b (List.mem_cons_of_mem _ hb);rw[q0a,List.filter_cons,List.filter_cons,h1,ih'];split<;>simp
def natOf:D->Nat
 | .int i=>i.toNat
 |_=>0
@[simp] theorem qKw (a:Nat):natOf (nI a)=a:=by simp[natOf,nI]
theorem q1X {elt:Env->R D}{cond:Env->R Bool}{ρ:Env}{p:Nat->Bool}{l:List Nat}(hc:∀a∈l,cond (some (.val (nI a))::ρ) = .ok (p a)) (he:∀a∈l,elt (some (.val (nI a))::ρ) = .ok (nI a)) :
  q0c elt cond 0 ρ (nL l) = .ok (nL (l.filter p)):=by
 rw[q4g (g:=id) (p:=λ d=>p (natOf d))]
 ·rw[List.map_id,q7A l p];intro a _;simp
 ·intro d hd;obtain⟨a,ha,rfl⟩:=List.mem_map.mp hd;refine⟨[nI a],rfl,?_,λ _=>?_⟩
  ·simp[hc a ha]
  ·simp[he a ha]
theorem q64 (hH:∀m t:Nat,G f.holds [nI m,nI t] = .ok (.bl (m.testBit t))) (m:Nat) (h:m<2^62):run G sub 1 (B.things_of f) [nI m] = .ok (.tup (nL (q02 m))):=by
 have hb:=qBS m h;have hl:((List.range (blen m)).filter m.testBit).length<=big:=Nat.le_trans (List.length_filter_le _ _) (by rw[List.length_range,q0h];lia);have e:=q1X (elt:=ev G sub (.var 0)) (cond:=tsts G sub [.e (.call f.holds [.var 1,.var 0])]) (ρ:=[some (.val (nI m))]) (p:=m.testBit) (l:=List.range (blen m))
  (λ a _=>by cases q:m.testBit a<;>simp[hH,q]) (λ a _=>by simp)
 have e0:evi G sub (.rng [.bi .bits [.var 0]]) [some (.val (nI m))] = .ok (nL (List.range (blen m))):=by rw[q0l,q0J,q16,q0J,q1V,q0Z];show ((biD sub .bits [nI m]).bind λ x=>R.ok [x]).bind rngD=_;rw[qIV,q00,q00,q2F _ (Nat.lt_of_le_of_lt hb (by decide))]
 have e1:ev G sub (.comp 0 (.var 0) (.rng [.bi .bits [.var 0]]) [.e (.call f.holds [.var 1,.var 0])]) [some (.val (nI m))] = .ok (.lst (nL (q02 m))):=by rw[q1U,e0,q00,e,q14,q00,q0Q,if_pos hl];rfl
 show run G sub 1 [.ret (.bi .tuple [.comp 0 (.var 0) (.rng [.bi .bits [.var 0]]) [.e (.call f.holds [.var 1,.var 0])]])] [nI m]=_;generalize (L.comp 0 (.var 0) (.rng [.bi .bits [.var 0]]) [.e (.call f.holds [.var 1,.var 0])])=cc at e1;simp only[run];simp[e1]
def mayL (nd:List (List Nat)) (k t:Nat):Bool:=!k.testBit t&&((nd.getD t []).any λ x=>x &&& k==x)
def ndD (nd:List (List Nat)):D:= .lst (nd.map λ l=> .lst (nL l))
theorem qDR (k x:Nat) (a c d:Option Sl):exs G sub B.q23 [a,some (.val (nI k)),c,some (.val (nI x))] = .ok [a,some (.val (nI k)),c,some (.val (nI x))] (if x &&& k=x then .ret (.bl true) else .nx):=by
 by_cases h:x &&& k=x<;>simp[B.q23,h]
theorem q98 (k:Nat) (a c:Option Sl):∀(l:List Nat) (d:Option Sl),∃d',q0k (exs G sub B.q23) 0 [3] (nL l) [a,some (.val (nI k)),c,d] =
  .ok [a,some (.val (nI k)),c,d'] (if l.any (λ x=>x &&& k==x)=true then .ret (.bl true) else .nx)
 |[],d=>⟨d,rfl⟩
 |x::l,d=>by
  obtain⟨d',e⟩:=q98 k a c l (some (.val (nI x)));rw[q0a,q0B];simp only[List.set_cons_succ,List.set_cons_zero,List.any_cons];rw[qDR k x a c d]
  by_cases h:x &&& k=x
  ·exact⟨some (.val (nI x)),by simp[h]⟩
  ·refine⟨d',?_⟩;rw[if_neg h,q0u,e];simp[h]
theorem q65 (l:List D) (t:Nat) (d:D) (h:l[t]? = some d):nth l (t:Int) = .ok d:=by unfold nth;rw[if_pos (by lia)];simp[h]
theorem q66 (hH:∀m t:Nat,G f.holds [nI m,nI t] = .ok (.bl (m.testBit t))) (nd:List (List Nat)) (k t:Nat) (h:t<nd.length):run G sub 4 (B.may_learn f) [ndD nd,nI k,nI t] = .ok (.bl (mayL nd k t)):=by
 unfold mayL;have e1:nd.getD t []=nd[t]:=by simp[List.getD,h]
 have e2:idxD (ndD nd) (nI t) = .ok (.lst (nL (nd.getD t []))):=by show nth _ (t:Int)=_;refine q65 _ _ _ ?_;rw[List.getElem?_map,List.getElem?_eq_getElem h,e1];rfl
 generalize nd.getD t []=l at e2 |-;obtain⟨d',e⟩:=q98 (G:=G) (sub:=sub) k (some (.val (ndD nd))) (some (.val (nI t))) l none;simp only[run,B.may_learn];cases q:k.testBit t
 ·cases r:l.any (λ x=>x &&& k==x)
  ·rw[r] at e;simp[hH,q,e2,e]
  ·rw[r] at e;simp[hH,q,e2,e]
 ·simp[hH,q]
def q0G (nd:List (List Nat)) (k b:Nat):List Nat:=(q02 b).filter (mayL nd k)
theorem q09 {m t:Nat}:t∈q02 m↔m.testBit t=true:=by
 unfold q02;rw[List.mem_filter,List.mem_range];refine⟨λ h=>h.2,λ h=>⟨?_,h⟩⟩;have h2:=Nat.ge_two_pow_of_testBit h;have:m≠0:=by intro z;subst z;simp at h
 unfold blen;rw[if_neg this];have:=(Nat.le_log2 this).mpr h2;lia
theorem q4i (hT:∀m:Nat,m<2^62->G f.things_of [nI m] = .ok (.tup (nL (q02 m)))) (nd:List (List Nat)) (hM:∀k t:Nat,t<nd.length->G f.may_learn [ndD nd,nI k,nI t] = .ok (.bl (mayL nd k t))) (k b:Nat) (hb:b<2^nd.length) (hn:nd.length<=60) :
  run G sub 3 (B.next_within f) [ndD nd,nI k,nI b] = .ok (.lst (nL (q0G nd k b))):=by
 have hb2:b<2^62:=Nat.lt_of_lt_of_le hb (Nat.pow_le_pow_right (by decide) (by lia));have hlt:∀t∈q02 b,t<nd.length:=λ t ht=>by have:=Nat.ge_two_pow_of_testBit (q09.mp ht);exact (Nat.pow_lt_pow_iff_right (by decide)).mp (Nat.lt_of_le_of_lt this hb)
 have e:=q1X (elt:=ev G sub (.var 0)) (cond:=tsts G sub [.e (.call f.may_learn [.var 1,.var 2,.var 0])]) (ρ:=[some (.val (ndD nd)),some (.val (nI k)),some (.val (nI b))]) (p:=mayL nd k) (l:=q02 b)
  (λ a ha=>by cases q:mayL nd k a<;>simp[hM k a (hlt a ha),q]) (λ a _=>by simp)
 have hl:((q02 b).filter (mayL nd k)).length<=big:=by refine Nat.le_trans (List.length_filter_le _ _) (Nat.le_trans (List.length_filter_le _ _) ?_);rw[List.length_range,q0h];have:=qBS b hb2;lia
 simp only[run,B.next_within];simp[hT b hb2,e,hl,q0G]
end
end Ev
namespace Ev
open PySem PySem.SeqAt
variable {h:Heap}{a:Addr}{us vs:List Value}{A:Around}{s:Shared}{u v u1 u2:Value}{b c:Bool}{d e:D}
mutual
noncomputable def Dv (h:Heap):D->Value->Prop
 | .non,u=>u = .none
 | .bl b,u=>u = .bool b
 | .int i,u=>∃t,u = .int i t
 | .str x,u=>∃t,u = .str x t
 | .tup ds,u=>∃a us,u = .ref a/\h.IsTuple a (List.toArray us)/\DvL h ds us
 | .lst ds,u=>∃a us,u = .ref a/\h.IsList a (List.toArray us)/\DvL h ds us
 | .dct _ _,_=>True
 | .exc _,_=>True
noncomputable def DvL (h:Heap):List D->List Value->Prop
 |[],us=>us=[]
 |d::ds,us=>∃u r,us=u::r/\Dv h d u/\DvL h ds r
end
theorem DvL.length:∀{ds:List D}{us:List Value},DvL h ds us->ds.length=us.length
 |[],us,x=>by cases (show us=[] from x);rfl
 |d::ds,us,x=>by obtain⟨u,r,e,_,y⟩:=x;subst e;simp[DvL.length y]
theorem DvL.get:∀{ds:List D}{us:List Value}{i:Nat}{d:D},DvL h ds us->ds[i]? = some d->∃u,us[i]? = some u/\Dv h d u
 |[],us,i,d,x,e=>by simp at e
 |a::ds,us,0,d,x,e=>by obtain⟨u,r,q,y,_⟩:=x;subst q;simp at e;subst e;exact⟨u,rfl,y⟩
 |a::ds,us,i+1,d,x,e=>by obtain⟨u,r,q,_,y⟩:=x;subst q;obtain⟨v,e1,e2⟩:=DvL.get (i:=i) y (by simpa using e);exact⟨v,by simpa using e1,e2⟩
theorem DvL.mem:∀{ds:List D}{us:List Value}{u:Value},DvL h ds us->u∈us->∃d∈ds,Dv h d u
 |[],us,u,x,e=>by cases (show us=[] from x);cases e
 |a::ds,us,u,x,e=>by
  obtain⟨w,r,q,y1,y2⟩:=x;subst q;rcases List.mem_cons.mp e with rfl|e
  ·exact⟨a,List.mem_cons_self,y1⟩
  ·obtain⟨d,hd,z⟩:=DvL.mem y2 e;exact⟨d,List.mem_cons_of_mem _ hd,z⟩
def q67 (ds es:List D) (j:Nat):Bool:=match ds[j]?,es[j]? with
 |some d,some e=>eqb d e
 |_,_=>true
theorem all_succ (f:Nat->Bool) (n:Nat):(List.range (n+1)).all f=(f 0&&(List.range n).all (λ i=>f (i+1))):=by rw[List.range_succ_eq_map,List.all_cons,List.all_map];rfl
theorem q3F:∀ds es:List D,((List.range (min ds.length es.length)).all (q67 ds es)&&ds.length==es.length)=eqbL ds es
 |[],[]=>rfl
 |[],_::_=>by simp[eqbL]
 |_::_,[]=>by simp[eqbL]
 |d::ds,e::es=>by
  have ih:=q3F ds es;rw[List.length_cons,List.length_cons,Nat.succ_min_succ,all_succ,eqbL,<-ih];have h1:q67 (d::ds) (e::es) 0=eqb d e:=rfl;have h2:(λ i=>q67 (d::ds) (e::es) (i+1))=q67 ds es:=by funext i;simp[q67]
  rw[h1,h2];have h3:(ds.length+1==es.length+1)=(ds.length==es.length):=by simp
  rw[h3,Bool.and_assoc]
theorem q4j {ds es:List D}(h:ds.length=es.length):(List.range ds.length).all (q67 ds es)=eqbL ds es:=by have:=q3F ds es;rw[<-h,Nat.min_self] at this;simpa using this
theorem q3G:∀{ds es:List D},ds.length≠es.length->eqbL ds es=false
 |[],[],h=>absurd rfl h
 |[],_::_,_=>by simp[eqbL]
 |_::_,[],_=>by simp[eqbL]
 |d::ds,e::es,h=>by rw[eqbL,q3G (ds:=ds) (es:=es) (λ q=>h (by simp[q]))];simp
theorem qFx (x:h.IsTuple a us.toArray) (y:h.IsTuple a vs.toArray):us=vs:=by
 obtain⟨o,e,_,n,d⟩:=x;obtain⟨o',e',_,n',d'⟩:=y;rw[e] at e';cases e';rw[d] at d';injection d' with d1 _
 simpa using congrArg Array.toList d1
theorem qFy (x:h.IsList a us.toArray) (y:h.IsList a vs.toArray):us=vs:=by
 obtain⟨o,e,_,n,d⟩:=x;obtain⟨o',e',_,n',d'⟩:=y;rw[e] at e';cases e';rw[d] at d';injection d' with d1 _
 simpa using congrArg Array.toList d1
theorem q5T (x:h.IsTuple a us.toArray) (y:h.IsList a vs.toArray):False:=by
 obtain⟨o,e,c,_⟩:=x;obtain⟨o',e',c',_⟩:=y;rw[e] at e';cases e';rw[c] at c';injection c' with q
 exact absurd q (by decide)
theorem q2u:∀(k:Nat) {h:Heap}{d e:D}{u:Value},plN k d=true->plN k e=true->Dv h d u->Dv h e u->eqb d e=true:=by
 have lists:∀(k:Nat),(∀{h:Heap}{d e:D}{u:Value},plN k d=true->plN k e=true->Dv h d u->Dv h e u->eqb d e=true)->∀{h:Heap}{ds es:List D}{us:List Value},ds.all (plN k)=true->es.all (plN k)=true->DvL h ds us->DvL h es us->eqbL ds es=true:=by
  intro k ih h ds
  induction ds with
  |nil =>
   intro es us _ _ x y;cases (show us=[] from x);cases es with
   |nil=>simp[eqbL]
   |cons e es=>obtain⟨_,_,q,_⟩:=y;cases q
  |cons d ds ihl =>
   intro es us p q x y;obtain⟨u,r,e1,x1,x2⟩:=x;subst e1;cases es with
   |nil=>cases (show u::r=[] from y)
   |cons e es =>
    obtain⟨u',r',e2,y1,y2⟩:=y;injection e2 with e3 e4
    subst e3 e4;simp only[List.all_cons,Bool.and_eq_true] at p q;rw[eqbL,ih p.1 q.1 x1 y1,ihl p.2 q.2 x2 y2];rfl
 intro k
 induction k with
 |zero =>
  intro h d e u p q x y;cases d<;>cases e<;>first
   |(simp[plN] at p;done)
   |(simp[plN] at q;done)
   |(obtain⟨t,rfl⟩:=x;obtain⟨t',q'⟩:=y;injection q' with q1 _;subst q1;simp[eqb];done)
   |(obtain⟨t,rfl⟩:=x;obtain⟨t',q'⟩:=y;cases q';done)
   |(obtain⟨t,rfl⟩:=x;cases (show _=_ from y);done)
   |(obtain⟨t,rfl⟩:=y;cases (show _=_ from x);done)
   |(cases (show u=_ from x);cases (show _=_ from y);simp[eqb];done)
   |(cases (show u=_ from x);cases (show _=_ from y);done)
 |succ k ih =>
  intro h d e u p q x y;cases d<;>cases e<;>first
   |(simp[plN] at p;done)
   |(simp[plN] at q;done)
   |(obtain⟨a,us,rfl,x1,x2⟩:=x;obtain⟨a',us',q',y1,y2⟩:=y;injection q' with q1;subst q1;cases qFx x1 y1;rw[q1e] at p q;simpa[eqb] using lists k (λ {h d e u}=>ih) p q x2 y2;done)
   |(obtain⟨a,us,rfl,x1,x2⟩:=x;obtain⟨a',us',q',y1,y2⟩:=y;injection q' with q1;subst q1;cases qFy x1 y1;rw[q3k] at p q;simpa[eqb] using lists k (λ {h d e u}=>ih) p q x2 y2;done)
   |(obtain⟨a,us,rfl,x1,x2⟩:=x;obtain⟨a',us',q',y1,y2⟩:=y;injection q' with q1;subst q1;exact (q5T x1 y1).elim)
   |(obtain⟨a,us,rfl,x1,x2⟩:=x;obtain⟨a',us',q',y1,y2⟩:=y;injection q' with q1;subst q1;exact (q5T y1 x1).elim)
   |(obtain⟨a,us,rfl,x1,x2⟩:=x;obtain⟨t',q'⟩:=y;cases q';done)
   |(obtain⟨a,us,rfl,x1,x2⟩:=x;cases (show _=_ from y);done)
   |(obtain⟨a,us,rfl,x1,x2⟩:=y;obtain⟨t',q'⟩:=x;cases q';done)
   |(obtain⟨a,us,rfl,x1,x2⟩:=y;cases (show _=_ from x);done)
   |(obtain⟨t,rfl⟩:=x;obtain⟨t',q'⟩:=y;injection q' with q1 _;subst q1;simp[eqb];done)
   |(obtain⟨t,rfl⟩:=x;obtain⟨t',q'⟩:=y;cases q';done)
   |(obtain⟨t,rfl⟩:=x;cases (show _=_ from y);done)
   |(obtain⟨t,rfl⟩:=y;cases (show _=_ from x);done)
   |(cases (show u=_ from x);cases (show _=_ from y);simp[eqb];done)
   |(cases (show u=_ from x);cases (show _=_ from y);done)
theorem eqTo (h:EqAt A s u v b) (e:b=c:=by first|rfl|simp[eqb,b2i,Bool.beq_eq_decide_eq]):EqAt A s u v c:=e▸h
theorem q5U (hk:∀l,d = .tup l->∀m,e = .tup m->EqAt A s u1 u2 (eqb d e)) (hl:∀l,d = .lst l->∀m,e = .lst m->EqAt A s u1 u2 (eqb d e)) (p:∃k,plN k d=true) (q:∃k,plN k e=true) (x1:Dv s.heap d u1) (x2:Dv s.heap e u2) (hu:A.units<cLine):EqAt A s u1 u2 (eqb d e):=by
 cases d with
 |non =>
  cases (show u1=_ from x1);cases e with
  |non=>cases (show u2=_ from x2);exact eqTo (EqAt.same .none)
  |bl b2=>cases (show u2=_ from x2);exact eqTo (EqAt.none_bool b2)
  |int i2=>obtain⟨t2,rfl⟩:=x2;exact eqTo (EqAt.none_int i2 t2)
  |str w2=>obtain⟨t2,rfl⟩:=x2;exact eqTo (EqAt.none_str w2 t2)
  |tup l2=>obtain⟨a2,us2,rfl,y2,z2⟩:=x2;exact eqTo (EqAt.none_tuple y2 hu)
  |lst l2=>obtain⟨a2,us2,rfl,y2,z2⟩:=x2;exact eqTo (EqAt.none_list y2 hu)
  |_=>obtain⟨k,q⟩:=q;cases k<;>simp[plN] at q
 |bl b1 =>
  cases (show u1=_ from x1);cases e with
  |non=>cases (show u2=_ from x2);exact eqTo (EqAt.bool_none b1)
  |bl b2=>cases (show u2=_ from x2);exact eqTo (EqAt.bool_bool b1 b2)
  |int i2=>obtain⟨t2,rfl⟩:=x2;exact eqTo (EqAt.bool_int b1 i2 t2)
  |str w2=>obtain⟨t2,rfl⟩:=x2;exact eqTo (EqAt.bool_str b1 w2 t2)
  |tup l2=>obtain⟨a2,us2,rfl,y2,z2⟩:=x2;exact eqTo (EqAt.bool_tuple b1 y2 hu)
  |lst l2=>obtain⟨a2,us2,rfl,y2,z2⟩:=x2;exact eqTo (EqAt.bool_list b1 y2 hu)
  |_=>obtain⟨k,q⟩:=q;cases k<;>simp[plN] at q
 |int i1 =>
  obtain⟨t1,rfl⟩:=x1;cases e with
  |non=>cases (show u2=_ from x2);exact eqTo (EqAt.int_none i1 t1)
  |bl b2=>cases (show u2=_ from x2);exact eqTo (EqAt.int_bool i1 t1 b2)
  |int i2=>obtain⟨t2,rfl⟩:=x2;exact eqTo (EqAt.int_int i1 t1 i2 t2)
  |str w2=>obtain⟨t2,rfl⟩:=x2;exact eqTo (EqAt.int_str i1 t1 w2 t2)
  |tup l2=>obtain⟨a2,us2,rfl,y2,z2⟩:=x2;exact eqTo (EqAt.int_tuple i1 t1 y2 hu)
  |lst l2=>obtain⟨a2,us2,rfl,y2,z2⟩:=x2;exact eqTo (EqAt.int_list i1 t1 y2 hu)
  |_=>obtain⟨k,q⟩:=q;cases k<;>simp[plN] at q
 |str w1 =>
  obtain⟨t1,rfl⟩:=x1;cases e with
  |non=>cases (show u2=_ from x2);exact eqTo (EqAt.str_none w1 t1)
  |bl b2=>cases (show u2=_ from x2);exact eqTo (EqAt.str_bool w1 t1 b2)
  |int i2=>obtain⟨t2,rfl⟩:=x2;exact eqTo (EqAt.str_int w1 t1 i2 t2)
  |str w2=>obtain⟨t2,rfl⟩:=x2;exact eqTo (EqAt.str_str w1 t1 w2 t2)
  |tup l2=>obtain⟨a2,us2,rfl,y2,z2⟩:=x2;exact eqTo (EqAt.str_tuple w1 t1 y2 hu)
  |lst l2=>obtain⟨a2,us2,rfl,y2,z2⟩:=x2;exact eqTo (EqAt.str_list w1 t1 y2 hu)
  |_=>obtain⟨k,q⟩:=q;cases k<;>simp[plN] at q
 |tup l1 =>
  obtain⟨a1,us1,rfl,y1,z1⟩:=x1;cases e with
  |non=>cases (show u2=_ from x2);exact eqTo (EqAt.tuple_none y1 hu)
  |bl b2=>cases (show u2=_ from x2);exact eqTo (EqAt.tuple_bool b2 y1 hu)
  |int i2=>obtain⟨t2,rfl⟩:=x2;exact eqTo (EqAt.tuple_int i2 t2 y1 hu)
  |str w2=>obtain⟨t2,rfl⟩:=x2;exact eqTo (EqAt.tuple_str w2 t2 y1 hu)
  |tup l2=>exact hk _ rfl _ rfl
  |lst l2=>obtain⟨a2,us2,rfl,y2,z2⟩:=x2;exact eqTo (EqAt.tuple_list y1 y2 hu)
  |_=>obtain⟨k,q⟩:=q;cases k<;>simp[plN] at q
 |lst l1 =>
  obtain⟨a1,us1,rfl,y1,z1⟩:=x1;cases e with
  |non=>cases (show u2=_ from x2);exact eqTo (EqAt.list_none y1 hu)
  |bl b2=>cases (show u2=_ from x2);exact eqTo (EqAt.list_bool b2 y1 hu)
  |int i2=>obtain⟨t2,rfl⟩:=x2;exact eqTo (EqAt.list_int i2 t2 y1 hu)
  |str w2=>obtain⟨t2,rfl⟩:=x2;exact eqTo (EqAt.list_str w2 t2 y1 hu)
  |tup l2=>obtain⟨a2,us2,rfl,y2,z2⟩:=x2;exact eqTo (EqAt.list_tuple y1 y2 hu)
  |lst l2=>exact hl _ rfl _ rfl
  |_=>obtain⟨k,q⟩:=q;cases k<;>simp[plN] at q
 |_=>obtain⟨k,p⟩:=p;cases k<;>simp[plN] at p
theorem rcTo (h:RcAt A s u v b) (e:b=c:=by first|rfl|simp[eqb,b2i,Bool.beq_eq_decide_eq]):RcAt A s u v c:=e▸h
theorem qAL (hk:∀l,d = .tup l->∀m,e = .tup m->RcAt A s u1 u2 (eqb d e)) (hl:∀l,d = .lst l->∀m,e = .lst m->RcAt A s u1 u2 (eqb d e)) (p:∃k,plN k d=true) (q:∃k,plN k e=true) (x1:Dv s.heap d u1) (x2:Dv s.heap e u2) (hu:A.units<cLine):RcAt A s u1 u2 (eqb d e):=by
 cases d with
 |non =>
  cases (show u1=_ from x1);cases e with
  |non=>cases (show u2=_ from x2);exact rcTo RcAt.none_none
  |bl b2=>cases (show u2=_ from x2);exact rcTo (RcAt.none_bool b2)
  |int i2=>obtain⟨t2,rfl⟩:=x2;exact rcTo (RcAt.none_int i2 t2)
  |str w2=>obtain⟨t2,rfl⟩:=x2;exact rcTo (RcAt.none_str w2 t2)
  |tup l2=>obtain⟨a2,us2,rfl,y2,z2⟩:=x2;exact rcTo (RcAt.none_tuple y2 hu)
  |lst l2=>obtain⟨a2,us2,rfl,y2,z2⟩:=x2;exact rcTo (RcAt.none_list y2 hu)
  |_=>obtain⟨k,q⟩:=q;cases k<;>simp[plN] at q
 |bl b1 =>
  cases (show u1=_ from x1);cases e with
  |non=>cases (show u2=_ from x2);exact rcTo (RcAt.bool_none b1)
  |bl b2=>cases (show u2=_ from x2);exact rcTo (RcAt.bool_bool b1 b2)
  |int i2=>obtain⟨t2,rfl⟩:=x2;exact rcTo (RcAt.bool_int b1 i2 t2)
  |str w2=>obtain⟨t2,rfl⟩:=x2;exact rcTo (RcAt.bool_str b1 w2 t2)
  |tup l2=>obtain⟨a2,us2,rfl,y2,z2⟩:=x2;exact rcTo (RcAt.bool_tuple b1 y2 hu)
  |lst l2=>obtain⟨a2,us2,rfl,y2,z2⟩:=x2;exact rcTo (RcAt.bool_list b1 y2 hu)
  |_=>obtain⟨k,q⟩:=q;cases k<;>simp[plN] at q
 |int i1 =>
  obtain⟨t1,rfl⟩:=x1;cases e with
  |non=>cases (show u2=_ from x2);exact rcTo (RcAt.int_none i1 t1)
  |bl b2=>cases (show u2=_ from x2);exact rcTo (RcAt.int_bool i1 t1 b2)
  |int i2=>obtain⟨t2,rfl⟩:=x2;exact rcTo (RcAt.int_int i1 t1 i2 t2)
  |str w2=>obtain⟨t2,rfl⟩:=x2;exact rcTo (RcAt.int_str i1 t1 w2 t2)
  |tup l2=>obtain⟨a2,us2,rfl,y2,z2⟩:=x2;exact rcTo (RcAt.int_tuple i1 t1 y2 hu)
  |lst l2=>obtain⟨a2,us2,rfl,y2,z2⟩:=x2;exact rcTo (RcAt.int_list i1 t1 y2 hu)
  |_=>obtain⟨k,q⟩:=q;cases k<;>simp[plN] at q
 |str w1 =>
  obtain⟨t1,rfl⟩:=x1;cases e with
  |non=>cases (show u2=_ from x2);exact rcTo (RcAt.str_none w1 t1)
  |bl b2=>cases (show u2=_ from x2);exact rcTo (RcAt.str_bool w1 t1 b2)
  |int i2=>obtain⟨t2,rfl⟩:=x2;exact rcTo (RcAt.str_int w1 t1 i2 t2)
  |str w2=>obtain⟨t2,rfl⟩:=x2;exact rcTo (RcAt.str_str w1 t1 w2 t2)
  |tup l2=>obtain⟨a2,us2,rfl,y2,z2⟩:=x2;exact rcTo (RcAt.str_tuple w1 t1 y2 hu)
  |lst l2=>obtain⟨a2,us2,rfl,y2,z2⟩:=x2;exact rcTo (RcAt.str_list w1 t1 y2 hu)
  |_=>obtain⟨k,q⟩:=q;cases k<;>simp[plN] at q
 |tup l1 =>
  obtain⟨a1,us1,rfl,y1,z1⟩:=x1;cases e with
  |non=>cases (show u2=_ from x2);exact rcTo (RcAt.tuple_none y1 hu)
  |bl b2=>cases (show u2=_ from x2);exact rcTo (RcAt.tuple_bool b2 y1 hu)
  |int i2=>obtain⟨t2,rfl⟩:=x2;exact rcTo (RcAt.tuple_int i2 t2 y1 hu)
  |str w2=>obtain⟨t2,rfl⟩:=x2;exact rcTo (RcAt.tuple_str w2 t2 y1 hu)
  |tup l2=>exact hk _ rfl _ rfl
  |lst l2=>obtain⟨a2,us2,rfl,y2,z2⟩:=x2;exact rcTo (RcAt.tuple_list y1 y2 hu)
  |_=>obtain⟨k,q⟩:=q;cases k<;>simp[plN] at q
 |lst l1 =>
  obtain⟨a1,us1,rfl,y1,z1⟩:=x1;cases e with
  |non=>cases (show u2=_ from x2);exact rcTo (RcAt.list_none y1 hu)
  |bl b2=>cases (show u2=_ from x2);exact rcTo (RcAt.list_bool b2 y1 hu)
  |int i2=>obtain⟨t2,rfl⟩:=x2;exact rcTo (RcAt.list_int i2 t2 y1 hu)
  |str w2=>obtain⟨t2,rfl⟩:=x2;exact rcTo (RcAt.list_str w2 t2 y1 hu)
  |tup l2=>obtain⟨a2,us2,rfl,y2,z2⟩:=x2;exact rcTo (RcAt.list_tuple y1 y2 hu)
  |lst l2=>exact hl _ rfl _ rfl
  |_=>obtain⟨k,q⟩:=q;cases k<;>simp[plN] at q
 |_=>obtain⟨k,p⟩:=p;cases k<;>simp[plN] at p
theorem neTo (h:RcNeAt A s u v b) (e:b=c:=by first|rfl|simp[eqb,b2i,Bool.beq_eq_decide_eq]):RcNeAt A s u v c:=e▸h
theorem q7B (hk:∀l,d = .tup l->∀m,e = .tup m->RcNeAt A s u1 u2 (!eqb d e)) (hl:∀l,d = .lst l->∀m,e = .lst m->RcNeAt A s u1 u2 (!eqb d e)) (p:∃k,plN k d=true) (q:∃k,plN k e=true) (x1:Dv s.heap d u1) (x2:Dv s.heap e u2) (hu:A.units<cLine):RcNeAt A s u1 u2 (!eqb d e):=by
 cases d with
 |non =>
  cases (show u1=_ from x1);cases e with
  |non=>cases (show u2=_ from x2);exact neTo RcNeAt.none_none
  |bl b2=>cases (show u2=_ from x2);exact neTo (RcNeAt.none_bool b2)
  |int i2=>obtain⟨t2,rfl⟩:=x2;exact neTo (RcNeAt.none_int i2 t2)
  |str w2=>obtain⟨t2,rfl⟩:=x2;exact neTo (RcNeAt.none_str w2 t2)
  |tup l2=>obtain⟨a2,us2,rfl,y2,z2⟩:=x2;exact neTo (RcNeAt.none_tuple y2 hu)
  |lst l2=>obtain⟨a2,us2,rfl,y2,z2⟩:=x2;exact neTo (RcNeAt.none_list y2 hu)
  |_=>obtain⟨k,q⟩:=q;cases k<;>simp[plN] at q
 |bl b1 =>
  cases (show u1=_ from x1);cases e with
  |non=>cases (show u2=_ from x2);exact neTo (RcNeAt.bool_none b1)
  |bl b2=>cases (show u2=_ from x2);exact neTo (RcNeAt.bool_bool b1 b2)
  |int i2=>obtain⟨t2,rfl⟩:=x2;exact neTo (RcNeAt.bool_int b1 i2 t2)
  |str w2=>obtain⟨t2,rfl⟩:=x2;exact neTo (RcNeAt.bool_str b1 w2 t2)
  |tup l2=>obtain⟨a2,us2,rfl,y2,z2⟩:=x2;exact neTo (RcNeAt.bool_tuple b1 y2 hu)
  |lst l2=>obtain⟨a2,us2,rfl,y2,z2⟩:=x2;exact neTo (RcNeAt.bool_list b1 y2 hu)
  |_=>obtain⟨k,q⟩:=q;cases k<;>simp[plN] at q
 |int i1 =>
  obtain⟨t1,rfl⟩:=x1;cases e with
  |non=>cases (show u2=_ from x2);exact neTo (RcNeAt.int_none i1 t1)
  |bl b2=>cases (show u2=_ from x2);exact neTo (RcNeAt.int_bool i1 t1 b2)
  |int i2=>obtain⟨t2,rfl⟩:=x2;exact neTo (RcNeAt.int_int i1 t1 i2 t2)
  |str w2=>obtain⟨t2,rfl⟩:=x2;exact neTo (RcNeAt.int_str i1 t1 w2 t2)
  |tup l2=>obtain⟨a2,us2,rfl,y2,z2⟩:=x2;exact neTo (RcNeAt.int_tuple i1 t1 y2 hu)
  |lst l2=>obtain⟨a2,us2,rfl,y2,z2⟩:=x2;exact neTo (RcNeAt.int_list i1 t1 y2 hu)
  |_=>obtain⟨k,q⟩:=q;cases k<;>simp[plN] at q
 |str w1 =>
  obtain⟨t1,rfl⟩:=x1;cases e with
  |non=>cases (show u2=_ from x2);exact neTo (RcNeAt.str_none w1 t1)
  |bl b2=>cases (show u2=_ from x2);exact neTo (RcNeAt.str_bool w1 t1 b2)
  |int i2=>obtain⟨t2,rfl⟩:=x2;exact neTo (RcNeAt.str_int w1 t1 i2 t2)
  |str w2=>obtain⟨t2,rfl⟩:=x2;exact neTo (RcNeAt.str_str w1 t1 w2 t2)
  |tup l2=>obtain⟨a2,us2,rfl,y2,z2⟩:=x2;exact neTo (RcNeAt.str_tuple w1 t1 y2 hu)
  |lst l2=>obtain⟨a2,us2,rfl,y2,z2⟩:=x2;exact neTo (RcNeAt.str_list w1 t1 y2 hu)
  |_=>obtain⟨k,q⟩:=q;cases k<;>simp[plN] at q
 |tup l1 =>
  obtain⟨a1,us1,rfl,y1,z1⟩:=x1;cases e with
  |non=>cases (show u2=_ from x2);exact neTo (RcNeAt.tuple_none y1 hu)
  |bl b2=>cases (show u2=_ from x2);exact neTo (RcNeAt.tuple_bool b2 y1 hu)
  |int i2=>obtain⟨t2,rfl⟩:=x2;exact neTo (RcNeAt.tuple_int i2 t2 y1 hu)
  |str w2=>obtain⟨t2,rfl⟩:=x2;exact neTo (RcNeAt.tuple_str w2 t2 y1 hu)
  |tup l2=>exact hk _ rfl _ rfl
  |lst l2=>obtain⟨a2,us2,rfl,y2,z2⟩:=x2;exact neTo (RcNeAt.tuple_list y1 y2 hu)
  |_=>obtain⟨k,q⟩:=q;cases k<;>simp[plN] at q
 |lst l1 =>
  obtain⟨a1,us1,rfl,y1,z1⟩:=x1;cases e with
  |non=>cases (show u2=_ from x2);exact neTo (RcNeAt.list_none y1 hu)
  |bl b2=>cases (show u2=_ from x2);exact neTo (RcNeAt.list_bool b2 y1 hu)
  |int i2=>obtain⟨t2,rfl⟩:=x2;exact neTo (RcNeAt.list_int i2 t2 y1 hu)
  |str w2=>obtain⟨t2,rfl⟩:=x2;exact neTo (RcNeAt.list_str w2 t2 y1 hu)
  |tup l2=>obtain⟨a2,us2,rfl,y2,z2⟩:=x2;exact neTo (RcNeAt.list_tuple y1 y2 hu)
  |lst l2=>exact hl _ rfl _ rfl
  |_=>obtain⟨k,q⟩:=q;cases k<;>simp[plN] at q
 |_=>obtain⟨k,p⟩:=p;cases k<;>simp[plN] at p
theorem q2b {k:Nat}(ih:∀{A:Around}{d e:D}{u v:Value},plN k d=true->plN k e=true->Dv s.heap d u->Dv s.heap e v->A.units+k<cLine->EqAt A s u v (eqb d e))
  {ds es:List D}{us vs:List Value}(p:ds.all (plN k)=true) (q:es.all (plN k)=true) (x:DvL s.heap ds us) (y:DvL s.heap es vs) (hu:A.units+k<cLine) :
  ∀j (h1:j<us.toArray.size) (h2:j<vs.toArray.size),EqAt A s us.toArray[j] vs.toArray[j] (q67 ds es j):=by
 intro j h1 h2;have l1:j<ds.length:=by rw[x.length];simpa using h1
 have l2:j<es.length:=by rw[y.length];simpa using h2
 obtain⟨u,e1,z1⟩:=x.get (List.getElem?_eq_getElem l1);obtain⟨v,e2,z2⟩:=y.get (List.getElem?_eq_getElem l2);have f1:us.toArray[j]=u:=by have:us[j]? = some u:=e1;rw[List.getElem?_eq_getElem (by simpa using h1)] at this;simpa using this
 have f2:vs.toArray[j]=v:=by have:vs[j]? = some v:=e2;rw[List.getElem?_eq_getElem (by simpa using h2)] at this;simpa using this
 rw[f1,f2];have f3:q67 ds es j=eqb ds[j] es[j]:=by simp[q67,l1,l2]
 rw[f3];exact ih (List.all_eq_true.mp p _ (List.getElem_mem l1)) (List.all_eq_true.mp q _ (List.getElem_mem l2)) z1 z2 hu
theorem q2p:∀(k:Nat) {A:Around}{s:Shared}{d e:D}{u v:Value},plN k d=true->plN k e=true->Dv s.heap d u->Dv s.heap e v->A.units+k<cLine->EqAt A s u v (eqb d e)
 |0,A,s,d,e,u,v,p,q,x,y,hu=>q5U (λ l h=>by subst h;simp[plN] at p) (λ l h=>by subst h;simp[plN] at p) ⟨0,p⟩ ⟨0,q⟩ x y (by lia)
 |k+1,A,s,d,e,u,v,p,q,x,y,hu=>by
  refine q5U (λ l h m h'=>?_) (λ l h m h'=>?_) ⟨_,p⟩ ⟨_,q⟩ x y (by lia)
  ·subst h h';obtain⟨a,us,rfl,x1,x2⟩:=x;obtain⟨b,vs,rfl,y1,y2⟩:=y
   by_cases ne:a=b
   ·subst ne;have:=q2u (k+1) p q (show Dv s.heap (.tup l) (.ref a) from⟨a,us,rfl,x1,x2⟩) (show Dv s.heap (.tup m) (.ref a) from⟨a,vs,rfl,y1,y2⟩);rw[this];exact EqAt.same _
   ·rw[q1e] at p q;have h:=RcAt.tuples x1 y1 (show A.units<cLine by lia) (q2b (A:=A.in1) (λ {A d e u v}=>q2p k) p q x2 y2 (by rw[Around.in1_units];lia));have e1:us.toArray.size=l.length:=(by rw[x2.length];simp);have e2:vs.toArray.size=m.length:=(by rw[y2.length];simp);rw[e1,e2,q3F] at h;have e3:eqb (.tup l) (.tup m)=eqbL l m:=(by simp[eqb]);rw[e3];exact EqAt.of_refs ne h
  ·subst h h';obtain⟨a,us,rfl,x1,x2⟩:=x;obtain⟨b,vs,rfl,y1,y2⟩:=y
   by_cases ne:a=b
   ·subst ne;have:=q2u (k+1) p q (show Dv s.heap (.lst l) (.ref a) from⟨a,us,rfl,x1,x2⟩) (show Dv s.heap (.lst m) (.ref a) from⟨a,vs,rfl,y1,y2⟩);rw[this];exact EqAt.same _
   ·rw[q3k] at p q;have e1:us.toArray.size=l.length:=(by rw[x2.length];simp);have e2:vs.toArray.size=m.length:=(by rw[y2.length];simp);have e3:eqb (.lst l) (.lst m)=eqbL l m:=(by simp[eqb]);rw[e3]
    by_cases hl:l.length=m.length
    ·have h:=RcAt.lists x1 y1 (by rw[e1,e2,hl]) (show A.units<cLine by lia) (q2b (A:=A.in1) (λ {A d e u v}=>q2p k) p q x2 y2 (by rw[Around.in1_units];lia));rw[e1,q4j hl] at h;exact EqAt.of_refs ne h
    ·have h:=RcAt.lists_lengths x1 y1 (by rw[e1,e2];simpa using hl) (show A.units<cLine by lia);rw[q3G hl];exact EqAt.of_refs ne h
theorem qIW (k:Nat) (p:plN k d=true) (q:plN k e=true) (x:Dv s.heap d u) (y:Dv s.heap e v) (hu:A.units+k<cLine):RcAt A s u v (eqb d e):=by
 refine qAL (λ l h m h'=>?_) (λ l h m h'=>?_) ⟨_,p⟩ ⟨_,q⟩ x y (by lia)
 ·subst h h';cases k with
  |zero=>simp[plN] at p
  |succ k =>
   obtain⟨a,us,rfl,x1,x2⟩:=x;obtain⟨b,vs,rfl,y1,y2⟩:=y;rw[q1e] at p q;have h:=RcAt.tuples x1 y1 (show A.units<cLine by lia) (q2b (A:=A.in1) (λ {A d e u v}=>q2p k) p q x2 y2 (by rw[Around.in1_units];lia));have e1:us.toArray.size=l.length:=(by rw[x2.length];simp);have e2:vs.toArray.size=m.length:=(by rw[y2.length];simp);rw[e1,e2,q3F] at h;have e3:eqb (.tup l) (.tup m)=eqbL l m:=(by simp[eqb]);rw[e3];exact h
 ·subst h h';cases k with
  |zero=>simp[plN] at p
  |succ k =>
   obtain⟨a,us,rfl,x1,x2⟩:=x;obtain⟨b,vs,rfl,y1,y2⟩:=y;rw[q3k] at p q;have e1:us.toArray.size=l.length:=(by rw[x2.length];simp);have e2:vs.toArray.size=m.length:=(by rw[y2.length];simp);have e3:eqb (.lst l) (.lst m)=eqbL l m:=(by simp[eqb]);rw[e3]
   by_cases hl:l.length=m.length
   ·have h:=RcAt.lists x1 y1 (by rw[e1,e2,hl]) (show A.units<cLine by lia) (q2b (A:=A.in1) (λ {A d e u v}=>q2p k) p q x2 y2 (by rw[Around.in1_units];lia));rw[e1,q4j hl] at h;exact h
   ·rw[q3G hl];exact RcAt.lists_lengths x1 y1 (by rw[e1,e2];simpa using hl) (show A.units<cLine by lia)
theorem qDS (k:Nat) (p:plN k d=true) (q:plN k e=true) (x:Dv s.heap d u) (y:Dv s.heap e v) (hu:A.units+k<cLine):RcNeAt A s u v (!eqb d e):=by
 refine q7B (λ l h m h'=>?_) (λ l h m h'=>?_) ⟨_,p⟩ ⟨_,q⟩ x y (by lia)
 ·subst h h';cases k with
  |zero=>simp[plN] at p
  |succ k =>
   obtain⟨a,us,rfl,x1,x2⟩:=x;obtain⟨b,vs,rfl,y1,y2⟩:=y;rw[q1e] at p q;have h:=RcNeAt.tuples x1 y1 (show A.units<cLine by lia) (q2b (A:=A.in1) (λ {A d e u v}=>q2p k) p q x2 y2 (by rw[Around.in1_units];lia));have e1:us.toArray.size=l.length:=(by rw[x2.length];simp);have e2:vs.toArray.size=m.length:=(by rw[y2.length];simp);rw[e1,e2,q3F] at h;have e3:eqb (.tup l) (.tup m)=eqbL l m:=(by simp[eqb]);rw[e3];exact h
 ·subst h h';cases k with
  |zero=>simp[plN] at p
  |succ k =>
   obtain⟨a,us,rfl,x1,x2⟩:=x;obtain⟨b,vs,rfl,y1,y2⟩:=y;rw[q3k] at p q;have e1:us.toArray.size=l.length:=(by rw[x2.length];simp);have e2:vs.toArray.size=m.length:=(by rw[y2.length];simp);have e3:eqb (.lst l) (.lst m)=eqbL l m:=(by simp[eqb]);rw[e3]
   by_cases hl:l.length=m.length
   ·have h:=RcNeAt.lists x1 y1 (by rw[e1,e2,hl]) (show A.units<cLine by lia) (q2b (A:=A.in1) (λ {A d e u v}=>q2p k) p q x2 y2 (by rw[Around.in1_units];lia));rw[e1,q4j hl] at h;exact h
   ·rw[q3G hl];exact RcNeAt.lists_lengths x1 y1 (by rw[e1,e2];simpa using hl) (show A.units<cLine by lia)
end Ev
namespace Ev
open PySem
mutual
def norm:D->D
 | .bl b=> .int (b2i b)
 | .tup l=> .tup (q68 l)
 | .lst l=> .lst (q68 l)
 |d=>d
def q68:List D->List D
 |[]=>[]
 |a::l=>norm a::q68 l
end
theorem q4k {k:Nat}(ih:∀{d e:D},plN k d=true->plN k e=true->(eqb d e=true↔norm d=norm e)):∀{l m:List D},l.all (plN k)=true->m.all (plN k)=true->(eqbL l m=true↔q68 l=q68 m)
 |[],[],_,_=>by simp[eqbL,q68]
 |[],_::_,_,_=>by simp[eqbL,q68]
 |_::_,[],_,_=>by simp[eqbL,q68]
 |d::l,e::m,p,q=>by simp only[List.all_cons,Bool.and_eq_true] at p q;simp only[eqbL,q68,Bool.and_eq_true,List.cons.injEq];rw[ih p.1 q.1,q4k ih p.2 q.2]
theorem q3H:∀(k:Nat) {d e:D},plN k d=true->plN k e=true->(eqb d e=true↔norm d=norm e)
 |0,d,e,p,q=>by
  cases d<;>cases e<;>first
   |(simp[plN] at p;done)
   |(simp[plN] at q;done)
   |(simp[eqb,norm,b2i];done)
   |(rename_i a b;cases a<;>cases b<;>simp[eqb,norm,b2i];done)
   |(rename_i a b;cases a<;>simp[eqb,norm,b2i]<;>lia)
   |(rename_i a b;cases b<;>simp[eqb,norm,b2i]<;>lia)
 |k+1,d,e,p,q=>by
  cases d<;>cases e<;>first
   |(simp[plN] at p;done)
   |(simp[plN] at q;done)
   |(simp[eqb,norm,b2i];done)
   |(rw[q1e] at p q;simpa[eqb,norm] using q4k (λ {d e}=>q3H k) p q;done)
   |(rw[q3k] at p q;simpa[eqb,norm] using q4k (λ {d e}=>q3H k) p q;done)
   |(rename_i a b;cases a<;>cases b<;>simp[eqb,norm,b2i];done)
   |(rename_i a b;cases a<;>simp[eqb,norm,b2i]<;>lia)
   |(rename_i a b;cases b<;>simp[eqb,norm,b2i]<;>lia)
theorem qBT {k:Nat}{d d' e:D}(p:plN k d=true) (p':plN k d'=true) (q:plN k e=true) (h:eqb d d'=true):eqb d e=eqb d' e:=by have h':=(q3H k p p').mp h;rw[Bool.eq_iff_iff,q3H k p q,q3H k p' q,h']
end Ev
namespace Ev
open PySem PySem.SeqAt
open PySem.AutoSeq1 (wpAny_loadPart')
open PySem.MeetsSeq PySem.MeetsSeq2 PySem.MeetsSeq3
def LtAt (A:Around) (s:Shared) (u v:Value) (b:Bool):Prop :=
 ∀(prog:Program) (w:World) (E:Value->Shared->Prop) (Q:Value->Shared->Prop),Q (.bool b) s->wpAny (model prog w) A (richCompare .Lt u v) Q E s
def GeAt (A:Around) (s:Shared) (u v:Value) (b:Bool):Prop :=
 ∀(prog:Program) (w:World) (E:Value->Shared->Prop) (Q:Value->Shared->Prop),Q (.bool b) s->wpAny (model prog w) A (richCompare .GtE u v) Q E s
theorem qBU (l b:Addr) (items items2:List Value) (n n2:Nat) (dd dd2:Option Addr) (sl sl2:Array (Option Value)) (ds es:List D) (c:q0t ds es=true) :
  Meets (Builtin.«tuple.__lt__» ⟨[.ref l,.ref b],[]⟩)
   (λ A R s=>s.heap.get? l=some {cls:= .type "tuple",dict:=dd,data:= .seq items.toArray n,slots:=sl}/\s.heap.get? b=some {cls:= .type "tuple",dict:=dd2,data:= .seq items2.toArray n2,slots:=sl2}/\
    DvL s.heap ds items/\DvL s.heap es items2/\(∀d∈ds,∀e∈es,∀u v,Dv s.heap d u->Dv s.heap e v->EqAt A.in1 s u v (eqb d e)/\(q0o d e=true->LtAt A.in1 s u v (ltb d e)))/\
    R (.ok (.ret (.bool (ltbL ds es)))) s) :=
 .of_wp λ prog w A R s h=>by
  obtain⟨hp,g,d,tk,os⟩:=s;obtain⟨hl,hb,hx,hy,hel,h⟩:=h;have f2:=AutoSeq1.sub_tuple_tuple;have z1:items.toArray.size=ds.length:=by rw[hx.length];simp
  have z2:items2.toArray.size=es.length:=by rw[hy.length];simp
  wp_walk using wpAny_loadPart' hl,wpAny_loadPart' hb,wpAny_forIn_list _ (λ rest b s'=>b.1=none/\s'=⟨hp,g,d,tk,os⟩/\∃(vs ws:List Value) (ds' es':List D),rest=vs.zip ws/\
   DvL hp ds' vs/\DvL hp es' ws/\(∀x∈ds',x∈ds)/\(∀x∈es',x∈es)/\q0t ds' es'=true/\ds'.length+items2.toArray.size=es'.length+items.toArray.size/\R (.ok (.ret (.bool (ltbL ds' es')))) ⟨hp,g,d,tk,os⟩) _
  case turn =>
   rintro⟨y,x⟩ rest b s' ⟨hb',rfl,vs,ws,ds',es',hz,hv,hw,sd,se,hc,hlen,hR⟩;cases ds' with
   |nil=>cases (show vs=[] from hv);rw[List.zip_nil_left] at hz;cases hz
   |cons d1 ds1 =>
    obtain⟨u1,r1,e1,v1,v2⟩:=hv;subst e1;cases es' with
    |nil=>cases (show ws=[] from hw);rw[List.zip_nil_right] at hz;cases hz
    |cons d2 es1 =>
     obtain⟨u2,r2,e2,w1,w2⟩:=hw;subst e2;rw[List.zip_cons_cons] at hz;injection hz with hyx hrest
     injection hyx with hy' hx'
     subst hy' hx';rw[ltbL] at hR;rw[q0t] at hc;simp only[List.length_cons] at hlen;have hh:=hel d1 (sd d1 List.mem_cons_self) d2 (se d2 List.mem_cons_self) _ _ v1 w1;refine wpAny_bind (hh.1 prog w _ _ ?_);cases e:eqb d1 d2 with
     |true =>
      rw[e,if_pos rfl] at hR hc
      wp_walk
      exact⟨rfl,rfl,_,_,_,_,hrest,v2,w2,λ x hx=>sd x (List.mem_cons_of_mem _ hx),λ x hx=>se x (List.mem_cons_of_mem _ hx),hc,by lia,hR⟩
     |false =>
      rw[e,if_neg (by simp)] at hR hc;have hri:=hh.2 hc prog w
      wp_walk using hri
      exact⟨_,rfl,by simpa using hR⟩
  case fin =>
   rintro⟨b1,b2⟩ s' ⟨hb',rfl,vs,ws,ds',es',hz,hv,hw,sd,se,hc,hlen,hR⟩;simp only at hb';subst hb';have hq:ltbL ds' es'=decide (items.toArray.size<items2.toArray.size):=by
    cases ds' with
    |nil=>cases es' with
     |nil =>
      simp only[List.length_nil] at hlen;rw[show ltbL [] []=false by simp[ltbL]];exact (decide_eq_false (by lia)).symm
     |cons _ _ =>
      simp only[List.length_nil,List.length_cons] at hlen;rw[ltbL];exact (decide_eq_true (by lia)).symm
    |cons _ _=>cases es' with
     |nil =>
      simp only[List.length_nil,List.length_cons] at hlen;rw[ltbL];exact (decide_eq_false (by lia)).symm
     |cons _ _ =>
      obtain⟨_,_,e1,_⟩:=hv;obtain⟨_,_,e2,_⟩:=hw;subst e1 e2;rw[List.zip_cons_cons] at hz;cases hz
   rw[hq] at hR
   wp_walk
   exact⟨_,rfl,by simpa[Builtin.Tuple.tupleCompareSizes] using hR⟩
  case h =>
   exact⟨rfl,rfl,items,items2,ds,es,by simp,hx,hy,λ _ h=>h,λ _ h=>h,c,by lia,h⟩
theorem qBV (l b:Addr) (items items2:List Value) (n n2:Nat) (dd dd2:Option Addr) (sl sl2:Array (Option Value)) (ds es:List D) (c:q0t ds es=true) :
  Meets (Builtin.«tuple.__ge__» ⟨[.ref l,.ref b],[]⟩)
   (λ A R s=>s.heap.get? l=some {cls:= .type "tuple",dict:=dd,data:= .seq items.toArray n,slots:=sl}/\s.heap.get? b=some {cls:= .type "tuple",dict:=dd2,data:= .seq items2.toArray n2,slots:=sl2}/\
    DvL s.heap ds items/\DvL s.heap es items2/\(∀d∈ds,∀e∈es,∀u v,Dv s.heap d u->Dv s.heap e v->EqAt A.in1 s u v (eqb d e)/\(q0o d e=true->GeAt A.in1 s u v (!ltb d e)))/\
    R (.ok (.ret (.bool (!ltbL ds es)))) s) :=
 .of_wp λ prog w A R s h=>by
  obtain⟨hp,g,d,tk,os⟩:=s;obtain⟨hl,hb,hx,hy,hel,h⟩:=h;have f2:=AutoSeq1.sub_tuple_tuple;have z1:items.toArray.size=ds.length:=by rw[hx.length];simp
  have z2:items2.toArray.size=es.length:=by rw[hy.length];simp
  wp_walk using wpAny_loadPart' hl,wpAny_loadPart' hb,wpAny_forIn_list _ (λ rest b s'=>b.1=none/\s'=⟨hp,g,d,tk,os⟩/\∃(vs ws:List Value) (ds' es':List D),rest=vs.zip ws/\
   DvL hp ds' vs/\DvL hp es' ws/\(∀x∈ds',x∈ds)/\(∀x∈es',x∈es)/\q0t ds' es'=true/\ds'.length+items2.toArray.size=es'.length+items.toArray.size/\R (.ok (.ret (.bool (!ltbL ds' es')))) ⟨hp,g,d,tk,os⟩) _
  case turn =>
   rintro⟨y,x⟩ rest b s' ⟨hb',rfl,vs,ws,ds',es',hz,hv,hw,sd,se,hc,hlen,hR⟩;cases ds' with
   |nil=>cases (show vs=[] from hv);rw[List.zip_nil_left] at hz;cases hz
   |cons d1 ds1 =>
    obtain⟨u1,r1,e1,v1,v2⟩:=hv;subst e1;cases es' with
    |nil=>cases (show ws=[] from hw);rw[List.zip_nil_right] at hz;cases hz
    |cons d2 es1 =>
     obtain⟨u2,r2,e2,w1,w2⟩:=hw;subst e2;rw[List.zip_cons_cons] at hz;injection hz with hyx hrest
     injection hyx with hy' hx'
     subst hy' hx';rw[ltbL] at hR;rw[q0t] at hc;simp only[List.length_cons] at hlen;have hh:=hel d1 (sd d1 List.mem_cons_self) d2 (se d2 List.mem_cons_self) _ _ v1 w1;refine wpAny_bind (hh.1 prog w _ _ ?_);cases e:eqb d1 d2 with
     |true =>
      rw[e,if_pos rfl] at hR hc
      wp_walk
      exact⟨rfl,rfl,_,_,_,_,hrest,v2,w2,λ x hx=>sd x (List.mem_cons_of_mem _ hx),λ x hx=>se x (List.mem_cons_of_mem _ hx),hc,by lia,hR⟩
     |false =>
      rw[e,if_neg (by simp)] at hR hc;have hri:=hh.2 hc prog w
      wp_walk using hri
      exact⟨_,rfl,by simpa using hR⟩
  case fin =>
   rintro⟨b1,b2⟩ s' ⟨hb',rfl,vs,ws,ds',es',hz,hv,hw,sd,se,hc,hlen,hR⟩;simp only at hb';subst hb';have hq:(!ltbL ds' es')=decide (items.toArray.size≥items2.toArray.size):=by
    cases ds' with
    |nil=>cases es' with
     |nil =>
      simp only[List.length_nil] at hlen;rw[show ltbL [] []=false by simp[ltbL]];exact (decide_eq_true (by lia)).symm
     |cons _ _ =>
      simp only[List.length_nil,List.length_cons] at hlen;rw[ltbL];exact (decide_eq_false (by lia)).symm
    |cons _ _=>cases es' with
     |nil =>
      simp only[List.length_nil,List.length_cons] at hlen;rw[ltbL];exact (decide_eq_true (by lia)).symm
     |cons _ _ =>
      obtain⟨_,_,e1,_⟩:=hv;obtain⟨_,_,e2,_⟩:=hw;subst e1 e2;rw[List.zip_cons_cons] at hz;cases hz
   rw[hq] at hR
   wp_walk
   exact⟨_,rfl,by simpa[Builtin.Tuple.tupleCompareSizes] using hR⟩
  case h =>
   exact⟨rfl,rfl,items,items2,ds,es,by simp,hx,hy,λ _ h=>h,λ _ h=>h,c,by lia,h⟩
theorem qBW:∀(k:Nat) {A:Around}{s:Shared}{d e:D}{u v:Value},plN k d=true->plN k e=true->q03 d=true->q03 e=true->q0o d e=true->Dv s.heap d u->Dv s.heap e v->A.units+k<cLine->LtAt A s u v (ltb d e)/\GeAt A s u v (!ltb d e):=by
 intro k
 induction k with
 |zero =>
  intro A s d e u v p q h1 h2 c x y hu;cases d<;>cases e<;>first
   |(simp[q0o] at c;done)
   |(simp[plN] at p;done)
   |skip
  obtain⟨t,rfl⟩:=x;obtain⟨t',rfl⟩:=y;refine⟨λ prog w E Q h=>?_,λ prog w E Q h=>?_⟩
  ·exact (PyProof.Rows.lt_int (by simpa[ltb] using h):wpAny (model prog w) A (compareOp .Lt _ _) Q E s)
  ·refine (PyProof.Rows.ge_int ?_:wpAny (model prog w) A (compareOp .GtE _ _) Q E s);have e:∀a b:Int,(!decide (a<b))=decide (b<=a):=λ a b=>by rw[Bool.eq_iff_iff];simp
   simp only[ltb] at h;rw[e] at h;exact h
 |succ k ih =>
  intro A s d e u v p q h1 h2 c x y hu;cases d<;>cases e<;>first
   |(simp[q0o] at c;done)
   |(simp[q03] at h1;done)
   |skip
  ·obtain⟨t,rfl⟩:=x;obtain⟨t',rfl⟩:=y;refine⟨λ prog w E Q h=>?_,λ prog w E Q h=>?_⟩
   ·exact (PyProof.Rows.lt_int (by simpa[ltb] using h):wpAny (model prog w) A (compareOp .Lt _ _) Q E s)
   ·refine (PyProof.Rows.ge_int ?_:wpAny (model prog w) A (compareOp .GtE _ _) Q E s);have e:∀a b:Int,(!decide (a<b))=decide (b<=a):=λ a b=>by rw[Bool.eq_iff_iff];simp
    simp only[ltb] at h;rw[e] at h;exact h
  ·rename_i ds es;obtain⟨a,us,rfl,x1,x2⟩:=x;obtain⟨b,vs,rfl,y1,y2⟩:=y;rw[q1e] at p q;have c':q0t ds es=true:=(by simpa[q0o] using c);have h1':q0A ds=true:=(by simpa[q03] using h1);have h2':q0A es=true:=(by simpa[q03] using h2);obtain⟨⟨cls,dd,data,sl⟩,ho,hc,n,hd⟩:=id x1;obtain⟨⟨cls2,dd2,data2,sl2⟩,ho2,hc2,n2,hd2⟩:=id y1;simp only at hc hd hc2 hd2;subst hc hd hc2 hd2;have el:∀d∈ds,∀e∈es,∀u v,Dv s.heap d u->Dv s.heap e v->EqAt A.in1 s u v (eqb d e)/\(q0o d e=true->LtAt A.in1 s u v (ltb d e)/\GeAt A.in1 s u v (!ltb d e)):=by intro d hd e he u v x y;have p1:=List.all_eq_true.mp p d hd;have q1:=List.all_eq_true.mp q e he;have hu':A.in1.units+k<cLine:=(by rw[Around.in1_units];lia);exact⟨q2p k p1 q1 x y hu',λ c=>ih p1 q1 (q0S.mp h1' d hd) (q0S.mp h2' e he) c x y hu'⟩
   have e1:ltb (.tup ds) (.tup es)=ltbL ds es:=(by simp[ltb]);rw[e1];refine⟨λ prog w E Q h=>?_,λ prog w E Q h=>?_⟩
   ·exact richCompare_meets_room (op:= .Lt) ⟨_,ho,rfl⟩ ⟨_,ho2,rfl⟩ PySem.F.slot_tuple_lt PySem.F.entry_tuple_lt (PySem.F.args_tuple_lt_2 _ _) (qBU a b us vs n n2 dd dd2 sl sl2 ds es c')
     ⟨ho,ho2,x2,y2,λ d hd e he u v x y=>⟨(el d hd e he u v x y).1,λ c=>((el d hd e he u v x y).2 c).1⟩,show Value.bool (ltbL ds es)≠Value.notImplemented/\Q (.bool (ltbL ds es)) s from⟨(λ x=>nomatch x),h⟩⟩ (by lia)
   ·exact richCompare_meets_room (op:= .GtE) ⟨_,ho,rfl⟩ ⟨_,ho2,rfl⟩ PySem.F.slot_tuple_ge PySem.F.entry_tuple_ge (PySem.F.args_tuple_ge_2 _ _) (qBV a b us vs n n2 dd dd2 sl sl2 ds es c')
     ⟨ho,ho2,x2,y2,λ d hd e he u v x y=>⟨(el d hd e he u v x y).1,λ c=>((el d hd e he u v x y).2 c).2⟩,show Value.bool (!ltbL ds es)≠Value.notImplemented/\Q (.bool (!ltbL ds es)) s from⟨(λ x=>nomatch x),h⟩⟩ (by lia)
end Ev
namespace Ev
open PySem
mutual
def hv:D->Int
 | .int i=>hashInt i
 | .tup ds=>reduceHash (Builtin.Tuple.tupleHashOf (hvL ds))
 |_=>0
def hvL:List D->List Int
 |[]=>[]
 |d::ds=>hv d::hvL ds
end
theorem q3l:∀a b:List D,hvL (a++b)=hvL a++hvL b
 |[],_=>by simp[hvL]
 |d::a,b=>by simp[hvL,q3l a b]
section
variable {prog:Program}{w:World}
theorem qDT:∀(k:Nat) {A:Around}{E:Value->Shared->Prop}{s:Shared}{d:D}{u:Value}{Q:Int->Shared->Prop},plN k d=true->q03 d=true->Dv s.heap d u->A.units+k<cLine->
  (∀t,Q (hv d) {s with toks:=t})->wpAny (model prog w) A (pyHash u) Q E s:=by
 intro k
 induction k with
 |zero =>
  intro A E s d u Q p hh x hu h;cases d<;>first
   |(simp[q03] at hh;done)
   |(simp[plN] at p;done)
   |skip
  obtain⟨t,rfl⟩:=x;exact wpAny_pyHash_int (by have:=h (s.toks+1);simpa[hv] using this)
 |succ k ih =>
  intro A E s d u Q p hh x hu h;cases d<;>first
   |(simp[q03] at hh;done)
   |skip
  ·obtain⟨t,rfl⟩:=x;exact wpAny_pyHash_int (by have:=h (s.toks+1);simpa[hv] using this)
  ·rename_i ds;obtain⟨a,us,rfl,x1,x2⟩:=x;rw[q1e] at p;have hh':q0A ds=true:=(by simpa[q03] using hh);have hT:s.TypeIs (.ref a) "tuple":=let ⟨o,ho,hc,_⟩:=x1;⟨o,ho,hc⟩;obtain⟨o,ho,hc,n,hd⟩:=x1;unfold pyHash pyHashByItsType;refine wpAny_bind (wpAny_cRoomFor_or (.inr (by lia)) ?_);refine wpAny_bind (wpAny_specialOf hT F.slot_tuple_hash.lookup (wpAny_ite_split (λ z=>absurd z (by rw[beq_builtin_none];decide)) λ _=>wpAny_bind (wpAny_specialOf hT F.slot_tuple_hash.lookup (wpAny_bind (wpAny_callSpecialIfBoundUnlessNone?_slot hT F.slot_tuple_hash
    (wpAny_call_entry F.slot_tuple_hash hT F.entry_tuple_hash (show wpAny _ _ (Builtin.Tuple.tupleItemsOf _ >>= _) _ _ s from wpAny_bind (wpAny_tupleItemsOf ho hd (wpAny_bind ?_))) (F.args_tuple_hash_1 _)))))))
   rw[<-Array.forIn_toList];refine wpAny_forIn_list _
    (λ rest (b:Array Int) s'=>∃done left t,ds=done++left/\DvL s.heap left rest/\b.toList=hvL done/\s'={s with toks:=t})
    _ ?_ ?_ _ _ ⟨[],ds,s.toks,rfl,by simpa using x2,by simp[hvL],rfl⟩
   ·rintro y rest b s' ⟨done,left,t,e,hl,hb,rfl⟩;cases left with
    |nil=>cases (show y::rest=[] from hl)
    |cons d1 left =>
     obtain⟨u1,r1,e1,v1,v2⟩:=hl;injection e1 with e2 e3
     subst e2 e3;have hm:d1∈ds:=(by rw[e];simp);refine wpAny_bind (ih (List.all_eq_true.mp p _ hm) (q0S.mp hh' _ hm) (s:={s with toks:=t}) v1 (by rw[Around.in1_units];lia) λ t'=>?_)
     first
      |exact wpAny_pure ⟨done++[d1],left,t',by simp[e],v2,by simp[hb,q3l,hvL],rfl⟩
      |exact wpAny_bind (wpAny_pure (wpAny_pure ⟨done++[d1],left,t',by simp[e],v2,by simp[hb,q3l,hvL],rfl⟩))
   ·rintro b s' ⟨done,left,t,e,hl,hb,rfl⟩;cases left with
    |cons _ _=>obtain⟨_,_,q,_⟩:=hl;cases q
    |nil =>
     rw[List.append_nil] at e;subst e;show wpAny _ _ (retInt (Builtin.Tuple.tupleHashOf b.toList)) _ _ _;rw[hb];refine wpAny_ret_mkInt ?_;show wpAny _ _ (if (decide (-(2:Int)^63<=Builtin.Tuple.tupleHashOf (hvL ds))&&decide (Builtin.Tuple.tupleHashOf (hvL ds)<2^63))=true then _ else _) Q E _;have hq:∀t,Q (reduceHash (Builtin.Tuple.tupleHashOf (hvL ds))) {s with toks:=t}:=λ t=>by have:=h t;simpa[hv] using this
     unfold reduceHash at hq
     by_cases hr:(decide (-(2:Int)^63<=Builtin.Tuple.tupleHashOf (hvL ds))&&decide (Builtin.Tuple.tupleHashOf (hvL ds)<2^63))=true
     ·rw[if_pos hr] at hq |-;exact wpAny_pure (hq _)
     ·rw[if_neg hr] at hq |-;exact wpAny_bind (wpAny_rule (wpAny_pure (hq _)))
theorem q4l {M:Model}{A:Around}{E:Value->Shared->Prop}{s:Shared}{β:Type}{us:List Value}{b0:β}{body:Value->β->Sem (ForInStep β)}{Q:β->Shared->Prop}{ds:List D}(x:DvL s.heap ds us)
  (hb:∀v d,d∈ds->Dv s.heap d v->∀Q':ForInStep β->Shared->Prop,Q' (.yield b0) s->wpAny M A (body v b0) Q' E s) (h:Q b0 s):wpAny M A (forIn us.toArray b0 body) Q E s:=by
 rw[<-Array.forIn_toList];refine wpAny_forIn_list _ (λ rest r t=>(r=b0/\t=s)/\∀v∈rest,v∈us) _ (λ v rest r t i=>?_) (λ r t i=>?_) _ _ ⟨⟨rfl,rfl⟩,λ v hv=>by simpa using hv⟩
 ·obtain⟨⟨rfl,rfl⟩,m⟩:=i;obtain⟨d,hd,z⟩:=x.mem (m v List.mem_cons_self);exact hb v d hd z _ ⟨⟨rfl,rfl⟩,λ y hy=>m y (List.mem_cons_of_mem _ hy)⟩
 ·obtain⟨⟨rfl,rfl⟩,_⟩:=i;exact h
theorem qBX:∀(k n:Nat) {A:Around}{E:Value->Shared->Prop}{s:Shared}{d:D}{u:Value}{Q:Bool->Shared->Prop},k<=n->plN k d=true->q03 d=true->Dv s.heap d u->Q true s->wpAny (model prog w) A (eqIsQuiet n u) Q E s:=by
 intro k
 induction k with
 |zero =>
  intro n A E s d u Q hk p hh x h;cases d<;>first
   |(simp[q03] at hh;done)
   |(simp[plN] at p;done)
   |skip
  obtain⟨t,rfl⟩:=x;rw[eqIsQuiet_byValue _ (by rfl)];exact wpAny_pure h
 |succ k ih =>
  intro n A E s d u Q hk p hh x h;cases d<;>first
   |(simp[q03] at hh;done)
   |skip
  ·obtain⟨t,rfl⟩:=x;rw[eqIsQuiet_byValue _ (by rfl)];exact wpAny_pure h
  ·rename_i ds;obtain⟨a,us,rfl,x1,x2⟩:=x;rw[q1e] at p;have hh':q0A ds=true:=(by simpa[q03] using hh);have hT:s.TypeIs (.ref a) "tuple":=let ⟨o,ho,hc,_⟩:=x1;⟨o,ho,hc⟩;obtain⟨o,ho,hc,m,hd⟩:=x1;cases n with
   |zero=>lia
   |succ n =>
    unfold eqIsQuiet;refine wpAny_bind (wpAny_specialOf hT F.slot_tuple_eq.lookup (wpAny_bind (wpAny_isInstance hT isSubtype_tuple_tuple (wpAny_bind (wpAny_seqItems ho hd ?_)))));refine wpAny_bind (q4l x2 (λ v d1 hd1 z Q' q=>wpAny_bind (ih n (by lia) (List.all_eq_true.mp p _ hd1) (q0S.mp hh' _ hd1) z (wpAny_pure q))) ?_);exact wpAny_pure h
theorem q7C:∀(k n:Nat) {A:Around}{E:Value->Shared->Prop}{s:Shared}{d:D}{u:Value}{Q:Bool->Shared->Prop},k<=n->plN k d=true->q03 d=true->Dv s.heap d u->Q false s->wpAny (model prog w) A (ofAClassStatement n u) Q E s:=by
 intro k
 induction k with
 |zero =>
  intro n A E s d u Q hk p hh x h;cases d<;>first
   |(simp[q03] at hh;done)
   |(simp[plN] at p;done)
   |skip
  obtain⟨t,rfl⟩:=x;unfold ofAClassStatement;exact wpAny_pure h
 |succ k ih =>
  intro n A E s d u Q hk p hh x h;cases d<;>first
   |(simp[q03] at hh;done)
   |skip
  ·obtain⟨t,rfl⟩:=x;unfold ofAClassStatement;exact wpAny_pure h
  ·rename_i ds;obtain⟨a,us,rfl,x1,x2⟩:=x;rw[q1e] at p;have hh':q0A ds=true:=(by simpa[q03] using hh);have hT:s.TypeIs (.ref a) "tuple":=let ⟨o,ho,hc,_⟩:=x1;⟨o,ho,hc⟩;obtain⟨o,ho,hc,m,hd⟩:=x1;cases n with
   |zero=>lia
   |succ n =>
    unfold ofAClassStatement;refine wpAny_bind (wpAny_typeOf hT (wpAny_bind (wpAny_pure (wpAny_bind (wpAny_seqItems ho hd ?_)))));refine wpAny_bind (q4l x2 (λ v d1 hd1 z Q' q=>wpAny_bind (ih n (by lia) (List.all_eq_true.mp p _ hd1) (q0S.mp hh' _ hd1) z (wpAny_pure q))) ?_);exact wpAny_pure h
theorem qFz:∀(k n:Nat) {A:Around}{E:Value->Shared->Prop}{s:Shared}{d:D}{u:Value}{Q:Bool->Shared->Prop},k<=n->plN k d=true->q03 d=true->Dv s.heap d u->Q true s->wpAny (model prog w) A (hashByValue n u) Q E s:=by
 intro k
 induction k with
 |zero =>
  intro n A E s d u Q hk p hh x h;cases d<;>first
   |(simp[q03] at hh;done)
   |(simp[plN] at p;done)
   |skip
  obtain⟨t,rfl⟩:=x;cases n<;>exact wpAny_pure h
 |succ k ih =>
  intro n A E s d u Q hk p hh x h;cases d<;>first
   |(simp[q03] at hh;done)
   |skip
  ·obtain⟨t,rfl⟩:=x;cases n<;>exact wpAny_pure h
  ·rename_i ds;obtain⟨a,us,rfl,x1,x2⟩:=x;rw[q1e] at p;have hh':q0A ds=true:=(by simpa[q03] using hh);have hT:s.TypeIs (.ref a) "tuple":=let ⟨o,ho,hc,_⟩:=x1;⟨o,ho,hc⟩;obtain⟨o,ho,hc,m,hd⟩:=x1;cases n with
   |zero=>lia
   |succ n =>
    unfold hashByValue;refine wpAny_bind (wpAny_specialOf hT F.slot_tuple_hash.lookup (wpAny_bind (wpAny_seqItems ho hd ?_)));refine wpAny_bind (q4l x2 (λ v d1 hd1 z Q' q=>wpAny_bind (ih n (by lia) (List.all_eq_true.mp p _ hd1) (q0S.mp hh' _ hd1) z (wpAny_pure q))) ?_);exact wpAny_pure h
end
end Ev
namespace Snd
open PySem PySem.Spec PyProof.Rows L2 Ev
variable {H H':Hp}{a:Addr}{vs:List V}{d:D}{v:V}{O:List Addr}
def q3I (a C:Addr):Heap->Prop:=λ h=>∃o,h.get? a=some o/\o.cls = .ref C
def keyD:Key->D
 | .inl i=> .int i
 | .inr x=> .str x
structure Pm where
 K:PySem.W.Frag
 cls:List Addr
mutual
noncomputable def Rep (p:Pm) (H:Hp):D->V->Prop
 | .non,v=>v = .non
 | .bl b,v=>v = .bl b
 | .int i,v=>v = .int i
 | .str x,v=>v = .str x/\x.length<=big
 | .tup ds,v=>∃a vs,v = .ref a/\SqT p.K H a vs/\vs.length<=sizeLine/\RepL p H ds vs
 | .lst ds,v=>∃a vs,v = .ref a/\SqL p.K H a vs/\RepL p H ds vs
 | .dct ks ds,v=>∃a kvs o,v = .ref a/\H a=some (.frz o (.dK kvs))/\ks=kvs.map (λ q=>keyD q.1)/\RepL p H ds (kvs.map (·.2))
 | .exc c,v=>∃a C,v = .ref a/\p.cls[c]? = some C/\H a=some (.ext (q3I a C))
noncomputable def RepL (p:Pm) (H:Hp):List D->List V->Prop
 |[],vs=>vs=[]
 |d::ds,vs=>∃v r,vs=v::r/\Rep p H d v/\RepL p H ds r
end
def Ext (H H':Hp):Prop:=∀a o,H a=some o->H' a=some o
theorem Ext.refl (H:Hp):Ext H H:=λ _ _ e=>e
theorem Ext.trans {H1 H2:Hp}(a:Ext H H1) (b:Ext H1 H2):Ext H H2:=λ x o e=>b x o (a x o e)
theorem Ext.upd {H:Hp}{a:Addr}{o:HO}(n:H a=none):Ext H (upd H a o):=λ b u e=>by rw[q06 (q08 e n)];exact e
theorem Ext.rd (x:Ext H H') {u:HO}(r:Rd H a u):Rd H' a u:=r.elim (λ e=> .inl (x _ _ e)) λ⟨o,e⟩=> .inr ⟨o,x _ _ e⟩
theorem Ext.sqL (x:Ext H H') {K:PySem.W.Frag}(r:SqL K H a vs):SqL K H' a vs:=r.elim (λ e=> .inl (x.rd e)) .inr
theorem Ext.sqT (x:Ext H H') {K:PySem.W.Frag}(r:SqT K H a vs):SqT K H' a vs:=r.elim (λ e=> .inl (x.rd e)) .inr
theorem q4F {p:Pm}(x:Ext H H'):(∀d v,Rep p H d v->Rep p H' d v)/\(∀ds vs,RepL p H ds vs->RepL p H' ds vs):=by
 refine D.ind (P:=λ d=>∀v,Rep p H d v->Rep p H' d v) (Q:=λ ds=>∀vs,RepL p H ds vs->RepL p H' ds vs)
  (λ v h=>h) (λ _ v h=>h) (λ _ v h=>h) (λ _ v h=>h) (λ l ih v h=>?_) (λ l ih v h=>?_) (λ k l ihk ih v h=>?_) (λ c v h=>?_) (λ vs h=>h) (λ d ds ih1 ih2 vs h=>?_)
 ·obtain⟨a,vs,e,s,z,r⟩:=h;exact⟨a,vs,e,x.sqT s,z,ih _ r⟩
 ·obtain⟨a,vs,e,s,r⟩:=h;exact⟨a,vs,e,x.sqL s,ih _ r⟩
 ·obtain⟨a,kvs,o,e,s,q,r⟩:=h;exact⟨a,kvs,o,e,x _ _ s,q,ih _ r⟩
 ·obtain⟨a,C,e,s,q⟩:=h;exact⟨a,C,e,s,x _ _ q⟩
 ·obtain⟨v,r,e,h1,h2⟩:=h;exact⟨v,r,e,ih1 _ h1,ih2 _ h2⟩
theorem Rep.mono {p:Pm}(h:Rep p H d v) (x:Ext H H'):Rep p H' d v:=(q4F x).1 d v h
theorem RepL.mono {p:Pm}{ds:List D}(h:RepL p H ds vs) (x:Ext H H'):RepL p H' ds vs:=(q4F x).2 ds vs h
theorem RepL.length {p:Pm}:∀{ds:List D}{vs:List V},RepL p H ds vs->ds.length=vs.length
 |[],vs,h=>by cases (show vs=[] from h);rfl
 |d::ds,vs,h=>by obtain⟨v,r,e,_,h2⟩:=h;subst e;simp[RepL.length h2]
theorem RepL.get {p:Pm}:∀{ds:List D}{vs:List V}{i:Nat}{d:D},RepL p H ds vs->ds[i]? = some d->∃v,vs[i]? = some v/\Rep p H d v
 |[],vs,i,d,h,e=>by simp at e
 |a::ds,vs,0,d,h,e=>by obtain⟨v,r,q,h1,_⟩:=h;subst q;simp at e;subst e;exact⟨v,rfl,h1⟩
 |a::ds,vs,i+1,d,h,e=>by obtain⟨v,r,q,_,h2⟩:=h;subst q;obtain⟨w,e1,e2⟩:=RepL.get (i:=i) h2 (by simpa using e);exact⟨w,by simpa using e1,e2⟩
theorem RepL.append {p:Pm}:∀{ds es:List D}{vs us:List V},RepL p H ds vs->RepL p H es us->RepL p H (ds++es) (vs++us)
 |[],es,vs,us,h,h'=>by cases (show vs=[] from h);exact h'
 |d::ds,es,vs,us,h,h'=>by obtain⟨v,r,q,h1,h2⟩:=h;subst q;exact⟨v,r++us,rfl,h1,RepL.append h2 h'⟩
theorem RepL.take {p:Pm}:∀{ds:List D}{vs:List V}(n:Nat),RepL p H ds vs->RepL p H (ds.take n) (vs.take n)
 |_,_,0,_=>by simp[RepL]
 |[],vs,n+1,h=>by cases (show vs=[] from h);simp[RepL]
 |d::ds,vs,n+1,h=>by obtain⟨v,r,q,h1,h2⟩:=h;subst q;exact⟨v,r.take n,rfl,h1,RepL.take n h2⟩
theorem RepL.drop {p:Pm}:∀{ds:List D}{vs:List V}(n:Nat),RepL p H ds vs->RepL p H (ds.drop n) (vs.drop n)
 |_,_,0,h=>h
 |[],vs,n+1,h=>by cases (show vs=[] from h);simp[RepL]
 |d::ds,vs,n+1,h=>by obtain⟨v,r,q,h1,h2⟩:=h;subst q;exact RepL.drop n h2
theorem RepL.snoc {p:Pm}{ds:List D}(h:RepL p H ds vs) (h1:Rep p H d v):RepL p H (ds++[d]) (vs++[v]):=h.append ⟨v,[],rfl,h1,rfl⟩
def fz (O:List Addr) (H:Hp):Hp:=λ a=>if a∈O then none else H a
theorem q1J (x:Ext H H'):Ext (fz O H) (fz O H'):=λ a o e=>by
 unfold fz at e |-;split at e
 ·cases e
 ·rename_i h;rw[if_neg h];exact x _ _ e
theorem q0b:Ext (fz O H) H:=λ a o e=>by
 unfold fz at e;split at e
 ·cases e
 ·exact e
theorem qIX:fz [] H=H:=by funext a;simp[fz]
theorem q1z {o:HO}(h:H a=some o) (n:a∉O):fz O H a=some o:=by unfold fz;rw[if_neg n];exact h
theorem q3m {o:HO}(h:a∈O):fz O (upd H a o)=fz O H:=by
 funext b;unfold fz;split
 ·rfl
 ·rename_i n;exact q06 λ e=>n (e▸h)
noncomputable def RepB (p:Pm) (H Hf:Hp):D->V->Prop
 | .lst ds,v=>∃a vs,v = .ref a/\SqL p.K H a vs/\RepL p Hf ds vs
 | .dct ks ds,v=>∃a kvs,v = .ref a/\Rd H a (.dK kvs)/\ks=kvs.map (λ q=>keyD q.1)/\RepL p Hf ds (kvs.map (·.2))
 |d,v=>Rep p Hf d v
theorem Rep.b {p:Pm}{Hf:Hp}(h:Rep p Hf d v) (x:Ext Hf H):RepB p H Hf d v:=by
 cases d with
 |lst ds=>obtain⟨a,vs,e,s,r⟩:=h;exact⟨a,vs,e,x.sqL s,r⟩
 |dct ks ds=>obtain⟨a,kvs,o,e,s,q,r⟩:=h;exact⟨a,kvs,e,.inr ⟨o,x _ _ s⟩,q,r⟩
 |_=>exact h
theorem RepB.mono {p:Pm}{Hf Hf':Hp}(h:RepB p H Hf d v) (x:Ext H H') (y:Ext Hf Hf'):RepB p H' Hf' d v:=by
 cases d with
 |lst ds=>obtain⟨a,vs,e,s,r⟩:=h;exact⟨a,vs,e,x.sqL s,r.mono y⟩
 |dct ks ds=>obtain⟨a,kvs,e,s,q,r⟩:=h;exact⟨a,kvs,e,x.rd s,q,r.mono y⟩
 |non=>exact h
 |bl _=>exact h
 |int _=>exact h
 |str _=>exact h
 |tup _=>exact Rep.mono (d:= .tup _) h y
 |exc _=>exact Rep.mono (d:= .exc _) h y
def qG0 (p:Pm) (H Hf:Hp) (a:Addr):D->Prop
 | .lst ds=>∃vs,H a=some (.lst vs)/\RepL p Hf ds vs
 | .dct ks ds=>∃kvs,H a=some (.dK kvs)/\ks=kvs.map (λ q=>keyD q.1)/\RepL p Hf ds (kvs.map (·.2))
 |_=>False
def q2q (p:Pm) (H Hf:Hp):List Addr->List (List D)->Prop
 |[],xss=>xss=[]
 |b::bs,xss=>∃xs r,xss=xs::r/\(∃vs,H b=some (.lst vs)/\RepL p Hf xs vs)/\q2q p H Hf bs r
noncomputable def q3J (p:Pm) (H Hf:Hp):Option Sl->Option V->List Addr->Prop
 |none,_,as=>as=[]
 |some (.val d),σ,as=>as=[]/\∃v,σ=some v/\Rep p Hf d v
 |some (.own d),σ,as=>∃a,σ=some (.ref a)/\as=[a]/\qG0 p H Hf a d
 |some (.own2 xss),σ,as=>∃a bs,σ=some (.ref a)/\as=a::bs/\H a=some (.lst (bs.map V.ref))/\q2q p H Hf bs xss
def q1K (p:Pm) (H Hf:Hp):Ev.Env->L2.St->List (List Addr)->Prop
 |[],_,_=>True
 |x::ρ,σ,os=>∃y σ' as os',σ=y::σ'/\os=as::os'/\q3J p H Hf x y as/\q1K p H Hf ρ σ' os'
structure Rel (p:Pm) (ρ:Ev.Env) (σ:L2.St) (os:List (List Addr)) (H:Hp):Prop where
 nd:os.flatten.Nodup
 there:∀a∈os.flatten,∃o,H a=some o
 slots:q1K p H (fz os.flatten H) ρ σ os
end Snd
namespace Snd
open PySem PySem.Spec PyProof.Rows L2 Ev
variable {a b:Int}{r d:D}
def Fin (p:Pm) (O:List Addr) (H:Hp) (r:D):VK:=λ z H'=>Ext H H'/\Rep p (fz O H') r z
def Th (O:List Addr) (H:Hp):Prop:=∀a∈O,∃o,H a=some o
theorem Th.ext {O:List Addr}{H H':Hp}(h:Th O H) (x:Ext H H'):Th O H':=λ a ha=>let ⟨o,e⟩:=h a ha;⟨o,x _ _ e⟩
theorem Th.out {O:List Addr}{H:Hp}(h:Th O H) {a:Addr}(n:H a=none):a∉O:=λ z=>by obtain⟨o,e⟩:=h a z;rw[n] at e;cases e
theorem q0H {p:Pm}{O:List Addr}{H:Hp}{z:V}(h:Rep p (fz O H) r z):Fin p O H r z H:=⟨Ext.refl _,h⟩
theorem q4m {p:Pm}{O:List Addr}{H:Hp}{ds:List D}{vs:List V}(hO:Th O H) (h:RepL p (fz O H) ds vs) {a:Addr}(n:H a=none):Fin p O H (.lst ds) (.ref a) (upd H a (.lst vs)) :=
 ⟨Ext.upd n,a,vs,rfl,SqL.of (q1z q0E (hO.out n)),h.mono (q1J (Ext.upd n))⟩
theorem q8S {p:Pm}{O:List Addr}{H:Hp}{ds:List D}{vs:List V}(hO:Th O H) (h:RepL p (fz O H) ds vs) (z:vs.length<=sizeLine) {a:Addr}(n:H a=none):Fin p O H (.tup ds) (.ref a) (upd H a (.tup vs)) :=
 ⟨Ext.upd n,a,vs,rfl,SqT.of (q1z q0E (hO.out n)),z,h.mono (q1J (Ext.upd n))⟩
theorem q0p:big<=sizeLine:=by rw[sizeLine_eq];decide
def opr:Op2->Operator
 | .add=> .Add | .sub=> .Sub | .mul=> .Mult | .fdiv=> .FloorDiv | .mod=> .Mod | .shl=> .LShift | .shr=> .RShift | .band=> .BitAnd | .bor=> .BitOr | .bxor=> .BitXor
theorem q99 {op:Operator}{o:Op2}(h:opOf op=some o):op=opr o:=by cases op<;>simp[opOf] at h<;>subst h<;>rfl
section
variable {X:Cx}{p:Pm}{O:List Addr}{H:Hp}
def qKx (K:PySem.W.Frag):R2:=λ x y H Q=>∃l b xs zs,x = .ref l/\y = .ref b/\SqL K H l xs/\SqL K H b zs/\xs.length+zs.length<=sizeLine/\∀q,H q=none->Q (.ref q) (upd H q (.lst (xs++zs)))
theorem qG1:OpR X (binaryOp .Add) (qKx X.K):=by
 intro pins s σ H x y v u Q I rx ry h;obtain⟨l,b,xs,zs,rfl,rfl,hH,hB,hz,q⟩:=h;cases rx;cases ry;obtain⟨its,r,⟨o1,n,e,c1,d1,f1⟩,z1⟩:=I.list hH;obtain⟨its2,r2,⟨o2,n2,e2,c2,d2,f2⟩,z2⟩:=I.list hB;have hl:=r.length;have hl2:=r2.length;obtain⟨oc,od,odt,os⟩:=o1;obtain⟨oc2,od2,odt2,os2⟩:=o2;simp only at c1 d1 f1 c2 d2 f2;subst c1 f1 c2 f2;refine concat_meets ⟨_,e,rfl⟩ ⟨_,e2,rfl⟩ noFill_list_add seq_list_add PySem.F.slot_list_add PySem.F.entry_list_add (PySem.F.args_list_add_2 _ _) (list_addW l b its.toArray its2.toArray n n2 od od2 os os2 (by rw[List.size_toArray,List.size_toArray];lia)) ⟨e,e2,?_⟩;have ea:its.toArray++its2.toArray=(its++its2).toArray:=by simp
 rw[ea];exact⟨.ref _,_,I.lnew (t':=s.toks) (r.append r2) (by rw[List.length_append];lia),rfl,q _ I.fresh⟩
theorem q9A (ha:0<=a) (hb:0<=b):Builtin.bitAnd a b=((a.toNat &&& b.toNat:Nat):Int):=by unfold Builtin.bitAnd;simp[ha,hb]
theorem qBY (ha:0<=a) (hb:0<=b):Builtin.bitOr a b=((a.toNat ||| b.toNat:Nat):Int):=by
 unfold Builtin.bitOr Builtin.bitAnd Builtin.bitNot;have h1:decide (0<=-a-1)=false:=decide_eq_false (by lia);have h2:decide (0<=-b-1)=false:=decide_eq_false (by lia);rw[h1,h2];have e1:(-(-a-1)-1).toNat=a.toNat:=by lia
 have e2:(-(-b-1)-1).toNat=b.toNat:=by lia
 dsimp only;rw[e1,e2];lia
theorem qAM:∀a b:Nat,a ||| b=(a ^^^ b)+(a &&& b):=by
 intro a
 induction a using Nat.strongRecOn with
 |ind a ih =>
  intro b
  by_cases h:a=0
  ·subst h;simp
  ·have ih':=ih (a / 2) (by lia) (b / 2);have o1:=Nat.or_div_two (a:=a) (b:=b);have o2:=Nat.xor_div_two (a:=a) (b:=b);have o3:=Nat.and_div_two (a:=a) (b:=b);have m1:=Nat.or_mod_two_eq_one (a:=a) (b:=b);have m2:=Nat.xor_mod_two_eq_one (a:=a) (b:=b);have m3:=Nat.and_mod_two_eq_one (a:=a) (b:=b)
   by_cases p:a % 2=1<;>by_cases q:b % 2=1<;>lia
theorem qDU (ha:0<=a) (hb:0<=b):Builtin.bitXor a b=((a.toNat ^^^ b.toNat:Nat):Int):=by unfold Builtin.bitXor;rw[qBY ha hb,q9A ha hb,qAM];lia
theorem q0e (a b:Str):(a++b).length=a.length+b.length:=by show (a.cps++b.cps).size=_;rw[Array.size_append];rfl
noncomputable def qIY (K:PySem.W.Frag):R2:=λ x y H Q=>∃a b xs ys,x = .ref a/\y = .ref b/\SqT K H a xs/\SqT K H b ys/\xs.length+ys.length<=sizeLine/\
 (ys=[]->Q (.ref a) H)/\(xs=[]->Q (.ref b) H)/\(xs≠[]->ys≠[]->∀p,H p=none->Q (.ref p) (upd H p (.tup (xs++ys))))
theorem qDV:OpR X (binaryOp .Add) (qIY X.K):=by
 intro pins s σ H x y v u Q I rx ry h;obtain⟨a,b,xs,ys,rfl,rfl,ha,hb,hz,q1,q2,q3⟩:=h
 by_cases hx:xs=[]
 ·cases rx;cases ry;obtain⟨its,r1,p1,_⟩:=I.tuple ha;obtain⟨its2,r2,p2,_⟩:=I.tuple hb;have e0:its=[]:=r1.q5x.mpr hx;subst e0;obtain⟨⟨cls,dd,data,sl⟩,ho,hc,n,hd⟩:=id p1;obtain⟨⟨cls2,dd2,data2,sl2⟩,ho2,hc2,n2,hd2⟩:=id p2;simp only at hc hd hc2 hd2;subst hc hd hc2 hd2;exact concat_meets ⟨_,ho,rfl⟩ ⟨_,ho2,rfl⟩ noFill_tuple_add seq_tuple_add PySem.F.slot_tuple_add PySem.F.entry_tuple_add (PySem.F.args_tuple_add_2 _ _)
   (tuple_addW0 a b _ its2.toArray n n2 dd dd2 sl sl2 (by simp)) ⟨ho,ho2,⟨.ref b,H,I,rfl,q2 hx⟩⟩
 ·exact qFh pins s σ H _ _ v u Q I rx ry ⟨a,b,xs,ys,rfl,rfl,ha,hb,hx,hz,q1,λ hy=>q3 hx hy⟩
def qKy (K:PySem.W.Frag):R2:=λ x y H Q=>∃l k xs,x = .ref l/\y = .int k/\SqL K H l xs/\-(2^63)<=k/\k<2^63/\xs.length*k.toNat<=sizeLine/\
 ∀p,H p=none->Q (.ref p) (upd H p (.lst (List.replicate k.toNat xs).flatten))
theorem qG2:OpR X (binaryOp .Mult) (qKy X.K):=by
 intro pins s σ H x y v u Q I rx ry h;obtain⟨l,k,xs,rfl,rfl,hH,h1,h2,hz,q⟩:=h;cases rx;obtain⟨t,rfl⟩:=ry;obtain⟨its,r,⟨o1,n,e,c1,d1,f1⟩,z1⟩:=I.list hH;have hl:=r.length;obtain⟨oc,od,odt,os⟩:=o1;simp only at c1 d1 f1;subst c1 f1;have hs:sizeLine=2^24:=sizeLine_eq;have hlen:its.toArray.size*k.toNat<=2^24:=by rw[List.size_toArray,<-hl,<-hs];exact hz
 refine wpAny_binaryOp_repeat_ref (T := "list") (U := "int") (by decide) ⟨_,e,rfl⟩ (λ s'=>typeIs_int s' k t) noFill_list_mul PySem.F.fills_int_mul PySem.F.slot_int_rmul repeat_list PySem.F.slot_int_index.lookup
  (call_meets PySem.F.slot_int_rmul (typeIs_int s k t) PySem.F.entry_int_rmul (PySem.F.args_int_rmul_2 _ _) (lm_int_rmul_list_any k t l its.toArray n od os)
   ⟨e,rfl,⟨_,e,rfl⟩,call_meets PySem.F.slot_list_mul ⟨_,e,rfl⟩ PySem.F.entry_list_mul (PySem.F.args_list_mul_2 _ _)
    (lm_list_mul_any l its.toArray n od os k t (by simp[Builtin.List.listFitsIndex];lia) (by lia) (by simp[Builtin.List.listTooLong,sizeLine];lia))
    ⟨e,?_⟩⟩)
 rw[listMul_foldl_if];show EP X pins σ Q (.ref s.heap.objs.size) {s with heap:=s.heap.push {cls:= .type "list",data:= .seq (List.replicate k.toNat its.toArray.toList).flatten.toArray}};exact⟨.ref _,_,I.lnew (t':=s.toks) (r.rep k.toNat) (by rw[len_rep,Nat.mul_comm];exact hz),rfl,q _ I.fresh⟩
theorem q9B {p:Pm}{H:Hp}{ds:List D}{vs:List V}(h:RepL p H ds vs):∀k:Nat,RepL p H (List.replicate k ds).flatten (List.replicate k vs).flatten
 |0=>by simp[RepL]
 |k+1=>by rw[List.replicate_succ,List.replicate_succ,List.flatten_cons,List.flatten_cons];exact h.append (q9B h k)
theorem qIZ (h:(-(2^62)<a/\a<2^62)\/(-(2^62)<b/\b<2^62)):CMul a b:=by unfold CMul;lia
theorem q1Y {f:Int->R D}(h:intD f d = .ok r):∃a,d = .int a/\f a = .ok r:=by cases d<;>first|(cases h;done)|exact⟨_,rfl,h⟩
theorem qDW {f:List D->R D}(h:lstD f d = .ok r):∃a,d = .lst a/\f a = .ok r:=by cases d<;>first|(cases h;done)|exact⟨_,rfl,h⟩
theorem qDX {f:List D->R D}(h:tupD f d = .ok r):∃a,d = .tup a/\f a = .ok r:=by cases d<;>first|(cases h;done)|exact⟨_,rfl,h⟩
theorem qDY {f:Str->R D}(h:strD f d = .ok r):∃a,d = .str a/\f a = .ok r:=by cases d<;>first|(cases h;done)|exact⟨_,rfl,h⟩
theorem q9C {q:R D}(h:nonD q d = .ok r):d = .non/\q = .ok r:=by cases d<;>first|(cases h;done)|exact⟨rfl,h⟩
noncomputable def rInt:Op2->R2
 | .add=>rI0 λ i j=> .int (i+j)
 | .sub=>rI0 λ i j=> .int (i-j)
 | .mul=>rI CMul λ i j=> .int (i*j)
 | .fdiv=>rI CDiv λ i j=> .int (i / j)
 | .mod=>rI (λ _ j=>0<j) λ i j=> .int (i % j)
 | .shl=>rI CPow λ i j=> .int (i*2^j.toNat)
 | .shr=>rI (λ _ j=>0<=j) λ i j=> .int (i / 2^j.toNat)
 | .band=>rI0 λ i j=> .int (Builtin.bitAnd i j)
 | .bor=>rI0 λ i j=> .int (Builtin.bitOr i j)
 | .bxor=>rI0 λ i j=> .int (Builtin.bitXor i j)
theorem qIa:∀o:Op2,OpR X (binaryOp (opr o)) (rInt o)
 | .add=>qHr | .sub=>qHs | .mul=>qHt | .fdiv=>qFU | .mod=>qHu | .shl=>qHv | .shr=>qHw | .band=>qHx | .bor=>qKX | .bxor=>qHy
theorem qG3:∀o:Op2,OpR X (inplaceOp (opr o)) (rInt o)
 | .add=>qFV | .sub=>qFW | .mul=>qFX | .fdiv=>qDA | .mod=>qFY | .shl=>qFZ | .shr=>qFa | .band=>qFb | .bor=>qHz | .bxor=>qFc
theorem q2i {c:Prop}{_:Decidable c}{x:D}(h:(if c then R.ok x else .stuck) = .ok r):c/\x=r:=by
 by_cases z:c
 ·rw[if_pos z] at h;cases h;exact⟨z,rfl⟩
 ·rw[if_neg z] at h;cases h
theorem q4G {i j:Int}(e:j=i) (h:D.int i=r):Fin p O H r (.int j) H:=by subst e h;exact q0H rfl
theorem q7D (o:Op2) {m n:Int}(h:opD o (.int m) (.int n) = .ok r):rInt o (.int m) (.int n) H (Fin p O H r):=by
 cases o with
 |add=>cases h;exact⟨_,_,rfl,rfl,q0H rfl⟩
 |mul =>
  obtain⟨c,e⟩:=q2i h;exact⟨_,_,rfl,rfl,qIZ c,q4G rfl e⟩
 |sub=>cases h;exact⟨_,_,rfl,rfl,q0H rfl⟩
 |fdiv =>
  obtain⟨c,e⟩:=q2i h;exact⟨_,_,rfl,rfl,c,q4G rfl e⟩
 |mod =>
  obtain⟨c,e⟩:=q2i h;exact⟨_,_,rfl,rfl,c,q4G rfl e⟩
 |shl =>
  obtain⟨c,e⟩:=q2i h;refine⟨_,_,rfl,rfl,⟨c.2.2.1,by lia,by lia⟩,q4G ?_ e⟩;rw[Nat.shiftLeft_eq,Int.natCast_mul,Int.natCast_pow,Int.toNat_of_nonneg c.1];rfl
 |shr =>
  obtain⟨c,e⟩:=q2i h;refine⟨_,_,rfl,rfl,c.2,q4G ?_ e⟩;rw[Nat.shiftRight_eq_div_pow,Int.natCast_ediv,Int.natCast_pow,Int.toNat_of_nonneg c.1];rfl
 |band =>
  obtain⟨c,e⟩:=q2i h;exact⟨_,_,rfl,rfl,q4G (q9A c.1 c.2) e⟩
 |bor =>
  obtain⟨c,e⟩:=q2i h;exact⟨_,_,rfl,rfl,q4G (qBY c.1 c.2) e⟩
 |bxor =>
  obtain⟨c,e⟩:=q2i h;exact⟨_,_,rfl,rfl,q4G (qDU c.1 c.2) e⟩
theorem qG4 {o:Op2}{e:D}(h:opD o d e = .ok r) (h1:o ≠ .add) (h2:o ≠ .mul):∃m n,d = .int m/\e = .int n:=by
 unfold opD at h;split at h
 ·exact absurd rfl h1
 ·exact absurd rfl h2
 ·obtain⟨m,e1,h⟩:=q1Y h;obtain⟨n,e2,_⟩:=q1Y h;exact⟨m,n,e1,e2⟩
theorem qDZ (hK:p.K=X.K) (hO:Th O H):∀(o:Op2) (d e r:D) (x y:V),opD o d e = .ok r->RepB p H (fz O H) d x->RepB p H (fz O H) e y->
  ∃r2:R2,OpR X (binaryOp (opr o)) r2/\r2 x y H (Fin p O H r):=by
 intro o d e r x y h hx hy;have tw2:(∃m n,d = .int m/\e = .int n)->∃r2:R2,OpR X (binaryOp (opr o)) r2/\r2 x y H (Fin p O H r):=λ⟨m,n,e1,e2⟩=>by subst e1 e2;cases (show x=_ from hx);cases (show y=_ from hy);exact⟨_,qIa o,q7D o h⟩
 by_cases h1:o = .add
 ·subst h1;cases d with
  |int m=>obtain⟨n,e1,_⟩:=q1Y h;exact tw2 ⟨_,_,rfl,e1⟩
  |lst ds =>
   obtain⟨es,rfl,h⟩:=qDW h;obtain⟨c,rfl⟩:=q2i h;obtain⟨a,vs,rfl,s1,r1⟩:=hx;obtain⟨b,us,rfl,s2,r2⟩:=hy;exact⟨_,qG1,a,b,vs,us,rfl,rfl,hK▸s1,hK▸s2,Nat.le_trans (by rw[<-r1.length,<-r2.length];exact c) q0p,λ q n=>q4m hO (r1.append r2) n⟩
  |tup ds =>
   obtain⟨es,rfl,h⟩:=qDX h;obtain⟨c,rfl⟩:=q2i h;obtain⟨a,vs,rfl,s1,z1,r1⟩:=hx;obtain⟨b,us,rfl,s2,z2,r2⟩:=hy;have c':vs.length+us.length<=sizeLine:=Nat.le_trans (by rw[<-r1.length,<-r2.length];exact c) q0p;refine⟨_,qDV,a,b,vs,us,rfl,rfl,hK▸q0b.sqT s1,hK▸q0b.sqT s2,c',λ e=>?_,λ e=>?_,λ n1 n2 q n=>q8S hO (r1.append r2) (by rw[List.length_append];exact c') n⟩
   ·subst e;cases (List.length_eq_zero_iff.mp r2.length:es=[]);rw[List.append_nil];exact q0H ⟨a,vs,rfl,s1,z1,r1⟩
   ·subst e;cases (List.length_eq_zero_iff.mp r1.length:ds=[]);rw[List.nil_append];exact q0H ⟨b,us,rfl,s2,z2,r2⟩
  |str a =>
   obtain⟨b,rfl,h⟩:=qDY h;obtain⟨c,rfl⟩:=q2i h;obtain⟨rfl,z1⟩:=hx;obtain⟨rfl,z2⟩:=hy;exact⟨_,qAD,_,_,rfl,rfl,Nat.le_trans c q0p,q0H ⟨rfl,by rw[q0e];exact c⟩⟩
  |_=>cases h
 by_cases h2:o = .mul
 ·subst h2;cases d with
  |int m=>obtain⟨n,e1,_⟩:=q1Y h;exact tw2 ⟨_,_,rfl,e1⟩
  |lst ds =>
   obtain⟨k,rfl,h⟩:=q1Y h;obtain⟨c,rfl⟩:=q2i h;obtain⟨a,vs,rfl,s1,r1⟩:=hx;cases (show y=_ from hy);exact⟨_,qG2,a,k,vs,rfl,rfl,hK▸s1,by lia,by lia,Nat.le_trans (by rw[<-r1.length];exact c.2.2) q0p,λ q n=>q4m hO (q9B r1 _) n⟩
  |_=>cases h
 exact tw2 (qG4 h h1 h2)
end
end Snd
namespace Snd
open PySem PySem.Spec PyProof.Rows L2 Ev
variable {s:Shared}{u:Value}
section
variable {X:Cx}{p:Pm}{O:List Addr}
theorem q2L {pins:List (Addr×Obj)}{σ:L2.St}{H:Hp}(hK:p.K=X.K) (I:Inv X pins σ H s):(∀d v u,Rep p H d v->RelV v u->Dv s.heap d u)/\(∀ds vs us,RepL p H ds vs->Vals vs us->DvL s.heap ds us):=by
 refine D.ind (P:=λ d=>∀v u,Rep p H d v->RelV v u->Dv s.heap d u) (Q:=λ ds=>∀vs us,RepL p H ds vs->Vals vs us->DvL s.heap ds us)
  (λ v u h r=>?_) (λ b v u h r=>?_) (λ i v u h r=>?_) (λ x v u h r=>?_) (λ l ih v u h r=>?_) (λ l ih v u h r=>?_) (λ _ _ _ _ _ _ _ _=>trivial) (λ _ _ _ _ _=>trivial) (λ vs us h r=>?_) (λ d ds ih1 ih2 vs us h r=>?_)
 ·cases (show v=_ from h);exact r
 ·cases (show v=_ from h);exact r
 ·cases (show v=_ from h);exact r
 ·obtain⟨rfl,_⟩:=h;exact r
 ·obtain⟨a,vs,rfl,s1,z,r1⟩:=h;cases r;obtain⟨its,rv,pt,_⟩:=I.tuple (hK▸s1);exact⟨a,its,rfl,pt,ih _ _ r1 rv⟩
 ·obtain⟨a,vs,rfl,s1,r1⟩:=h;cases r;obtain⟨its,rv,pt,_⟩:=I.list (hK▸s1);exact⟨a,its,rfl,pt.isList,ih _ _ r1 rv⟩
 ·cases (show vs=[] from h);cases r;rfl
 ·obtain⟨v,r',rfl,h1,h2⟩:=h;cases r with
  |cons ra rb=>exact⟨_,_,rfl,ih1 _ _ h1 ra,ih2 _ _ h2 rb⟩
theorem q3K {pins:List (Addr×Obj)}{σ:L2.St}{H Hf:Hp}(hK:p.K=X.K) (I:Inv X pins σ H s) (x:Ext Hf H) {d:D}{v:V}(h:RepB p H Hf d v) (r:RelV v u):Dv s.heap d u:=by
 cases d with
 |lst ds =>
  obtain⟨a,vs,rfl,s1,r1⟩:=h;exact (q2L hK I).1 (.lst ds) _ _ ⟨a,vs,rfl,s1,r1.mono x⟩ r
 |dct _ _=>trivial
 |exc _=>trivial
 |non=>exact (q2L hK I).1 .non _ _ (Rep.mono (p:=p) (d:= .non) h x) r
 |bl b=>exact (q2L hK I).1 (.bl b) _ _ (Rep.mono (p:=p) (d:= .bl b) h x) r
 |int i=>exact (q2L hK I).1 (.int i) _ _ (Rep.mono (p:=p) (d:= .int i) h x) r
 |str y=>exact (q2L hK I).1 (.str y) _ _ (Rep.mono (p:=p) (d:= .str y) h x) r
 |tup l=>exact (q2L hK I).1 (.tup l) _ _ (Rep.mono (p:=p) (d:= .tup l) h x) r
def rCm (p:Pm) (ok:D->D->Bool) (g:D->D->Bool):R2:=λ x y H Q=>∃d e Hf,Ext Hf H/\RepB p H Hf d x/\RepB p H Hf e y/\ok d e=true/\Q (.bl (g d e)) H
theorem qKz (hK:p.K=X.K) (hu:X.A.units+64<cLine):OpR X (compareOp .Eq) (rCm p (λ a b=>pl a&&pl b) eqb):=by intro pins s σ H x y v u Q I rx ry h;obtain⟨d,e,Hf,xt,h1,h2,c,q⟩:=h;simp only[Bool.and_eq_true] at c;exact qIW 8 c.1 c.2 (q3K hK I xt h1 rx) (q3K hK I xt h2 ry) (by lia) X.prog X.w X.xe _ ⟨.bl _,H,I,rfl,q⟩
theorem qL0 (hK:p.K=X.K) (hu:X.A.units+64<cLine):OpR X (compareOp .NotEq) (rCm p (λ a b=>pl a&&pl b) (λ a b=>!eqb a b)):=by intro pins s σ H x y v u Q I rx ry h;obtain⟨d,e,Hf,xt,h1,h2,c,q⟩:=h;simp only[Bool.and_eq_true] at c;exact qDS 8 c.1 c.2 (q3K hK I xt h1 rx) (q3K hK I xt h2 ry) (by lia) X.prog X.w X.xe _ ⟨.bl _,H,I,rfl,q⟩
def qDa (a b:D):Bool:=pl a&&pl b&&q03 a&&q03 b&&q0o a b
theorem qL1 (hK:p.K=X.K) (hu:X.A.units+64<cLine):OpR X (compareOp .Lt) (rCm p qDa ltb):=by intro pins s σ H x y v u Q I rx ry h;obtain⟨d,e,Hf,xt,h1,h2,c,q⟩:=h;simp only[qDa,Bool.and_eq_true] at c;exact (qBW 8 c.1.1.1.1 c.1.1.1.2 c.1.1.2 c.1.2 c.2 (q3K hK I xt h1 rx) (q3K hK I xt h2 ry) (by lia)).1 X.prog X.w X.xe _ ⟨.bl _,H,I,rfl,q⟩
theorem qL2 (hK:p.K=X.K) (hu:X.A.units+64<cLine):OpR X (compareOp .GtE) (rCm p qDa (λ a b=>!ltb a b)):=by intro pins s σ H x y v u Q I rx ry h;obtain⟨d,e,Hf,xt,h1,h2,c,q⟩:=h;simp only[qDa,Bool.and_eq_true] at c;exact (qBW 8 c.1.1.1.1 c.1.1.1.2 c.1.1.2 c.1.2 c.2 (q3K hK I xt h1 rx) (q3K hK I xt h2 ry) (by lia)).2 X.prog X.w X.xe _ ⟨.bl _,H,I,rfl,q⟩
noncomputable def eqTo (h:Heap) (ds:List D) (x:D) (u:Value):Bool:=@decide (∃d∈ds,Dv h d u/\eqb d x=true) (Classical.propDecidable _)
theorem q69 {h:Heap}{ds:List D}{x d:D}(pd:plL ds=true) (px:pl x=true) (hd:d∈ds) (y:Dv h d u):eqTo h ds x u=eqb d x:=by unfold eqTo;rw[Bool.eq_iff_iff,@decide_eq_true_eq _ (Classical.propDecidable _)];refine⟨λ⟨e,he,z,w⟩=>?_,λ w=>⟨d,hd,y,w⟩⟩;have p1:=q1f.mp pd d hd;have p2:=q1f.mp pd e he;rw[qBT (k:=8) p1 p2 px (q2u 8 p1 p2 y z)];exact w
theorem q6A {h:Heap}{ds:List D}{x:D}(pd:plL ds=true) (px:pl x=true):∀{es:List D}{us:List Value},(∀e∈es,e∈ds)->DvL h es us->us.any (eqTo h ds x)=es.any λ y=>eqb y x
 |[],us,_,y=>by cases (show us=[] from y);rfl
 |e::es,us,hs,y=>by obtain⟨u,r,rfl,y1,y2⟩:=y;rw[List.any_cons,List.any_cons,q69 pd px (hs e List.mem_cons_self) y1,q6A pd px (λ z hz=>hs z (List.mem_cons_of_mem _ hz)) y2]
def rMem (p:Pm) (neg:Bool):R2:=λ x y H Q=>∃d e Hf ds,Ext Hf H/\RepB p H Hf d x/\RepB p H Hf e y/\(e = .lst ds\/e = .tup ds)/\pl d=true/\plL ds=true/\Q (.bl (neg ^^ ds.any λ y=>eqb y d)) H
theorem q20 {ds:List D}{x:D}{us:List Value}{A:Around}(pd:plL ds=true) (px:pl x=true) (y:DvL s.heap ds us) (z:Dv s.heap x u) (hu:A.units+8<cLine) :
  ∀w,w∈us.toArray->SeqAt.EqAt A s w u (eqTo s.heap ds x w):=λ w hw=>by
 obtain⟨d,hd,yd⟩:=y.mem (by simpa using hw);rw[q69 pd px hd yd];exact q2p 8 (q1f.mp pd d hd) px yd z hu
theorem qIb (hK:p.K=X.K) (hu:X.A.units+64<cLine):OpR X (compareOp .In) (rMem p false):=by
 intro pins s σ H x y v u Q I rx ry h;obtain⟨d,e,Hf,ds,xt,h1,h2,c,p1,p2,q⟩:=h;have z1:=q3K hK I xt h1 rx;have z2:=q3K hK I xt h2 ry;have hu':X.A.in1.units+8<cLine:=by rw[Around.in1_units];lia
 have q':∀us:List Value,DvL s.heap ds us->EP X pins σ Q (.bool (us.toArray.any (eqTo s.heap ds d))) s:=λ us y=>by rw[List.any_toArray,q6A p2 p1 (λ _ h=>h) y];exact⟨.bl _,H,I,rfl,by simpa using q⟩
 rcases c with rfl|rfl
 ·obtain⟨a,us,rfl,w1,w2⟩:=z2;exact SeqAt.in_listAt (eqTo s.heap ds d) w1 (q20 p2 p1 w2 z1 hu') (q' us w2)
 ·obtain⟨a,us,rfl,w1,w2⟩:=z2;exact SeqAt.in_tupleAt (eqTo s.heap ds d) w1 (q20 p2 p1 w2 z1 hu') (q' us w2)
theorem q9D (hK:p.K=X.K) (hu:X.A.units+64<cLine):OpR X (compareOp .NotIn) (rMem p true):=by
 intro pins s σ H x y v u Q I rx ry h;obtain⟨d,e,Hf,ds,xt,h1,h2,c,p1,p2,q⟩:=h;have z1:=q3K hK I xt h1 rx;have z2:=q3K hK I xt h2 ry;have hu':X.A.in1.units+8<cLine:=by rw[Around.in1_units];lia
 have q':∀us:List Value,DvL s.heap ds us->EP X pins σ Q (.bool (!us.toArray.any (eqTo s.heap ds d))) s:=λ us y=>by rw[List.any_toArray,q6A p2 p1 (λ _ h=>h) y];exact⟨.bl _,H,I,rfl,by simpa using q⟩
 rcases c with rfl|rfl
 ·obtain⟨a,us,rfl,w1,w2⟩:=z2;exact SeqAt.notIn_listAt (eqTo s.heap ds d) w1 (q20 p2 p1 w2 z1 hu') (q' us w2)
 ·obtain⟨a,us,rfl,w1,w2⟩:=z2;exact SeqAt.notIn_tupleAt (eqTo s.heap ds d) w1 (q20 p2 p1 w2 z1 hu') (q' us w2)
end
end Snd
namespace Snd
open PySem PySem.Spec PyProof.Rows L2 Ev
variable {d:D}
section
variable {X:Cx}{p:Pm}{O:List Addr}{H:Hp}
def cmr:Cm->CmpOp
 | .eq=> .Eq | .ne=> .NotEq | .lt=> .Lt | .le=> .LtE | .gt=> .Gt | .ge=> .GtE | .isN=> .Is | .notN=> .IsNot | .mem=> .In | .nmem=> .NotIn
theorem qEy (op:CmpOp):cmr (cmOf op)=op:=by cases op<;>rfl
theorem q9E (kvs:List (Key×V)) (i:Int):((kvs.map λ q=>keyD q.1).any λ y=>eqb y (.int i))=(valV kvs (.inl i)).isSome:=by
 induction kvs with
 |nil=>rfl
 |cons q r ih =>
  rw[List.map_cons,List.any_cons,ih];obtain⟨k,v⟩:=q;cases k with
  |inl j =>
   by_cases e:j=i
   ·subst e;rw[q3A rfl];simp[keyD,eqb]
   ·rw[q2X (λ z=>e (Sum.inl.inj z))];simp[keyD,eqb,e]
  |inr x=>rw[q2X (p:=(Sum.inr x,v)) (by intro z;cases z)];simp[keyD,eqb]
theorem qIc (hu:X.A.units+64<cLine):OpR X (compareOp .In) (λ x y H Q=>∃i a kvs,x = .int i/\y = .ref a/\Rd H a (.dK kvs)/\Q (.bl (valV kvs (.inl i)).isSome) H):=by intro pins s σ H x y v u Q I rx ry h;obtain⟨i,a,kvs,rfl,rfl,e,q⟩:=h;cases ry;exact d_in (by lia) I (.inl ⟨kvs,.inl i,e,rfl,rfl⟩) rx λ s' I'=>⟨.bl _,H,I',rfl,q⟩
theorem qBZ (hu:X.A.units+64<cLine):OpR X (compareOp .NotIn) (λ x y H Q=>∃i a kvs,x = .int i/\y = .ref a/\Rd H a (.dK kvs)/\Q (.bl (!(valV kvs (.inl i)).isSome)) H):=by intro pins s σ H x y v u Q I rx ry h;obtain⟨i,a,kvs,rfl,rfl,e,q⟩:=h;cases ry;exact qFf (by lia) I (.inl ⟨kvs,.inl i,e,rfl,rfl⟩) rx λ s' I'=>⟨.bl _,H,I',rfl,q⟩
theorem q9F {Hf:Hp}{x:V}(h:RepB p H Hf d x):decide (x = .non)=(match d with | .non=>true|_=>false):=by
 cases d with
 |non=>cases (show x=_ from h);rfl
 |bl b=>cases (show x=_ from h);rfl
 |int i=>cases (show x=_ from h);rfl
 |str y=>obtain⟨rfl,_⟩:=h;rfl
 |tup l=>obtain⟨_,_,rfl,_⟩:=h;rfl
 |lst l=>obtain⟨_,_,rfl,_⟩:=h;rfl
 |dct k l=>obtain⟨_,_,rfl,_⟩:=h;rfl
 |exc c=>obtain⟨_,_,rfl,_⟩:=h;rfl
theorem q9G (hK:p.K=X.K) (hO:Th O H) (hu:X.A.units+64<cLine):∀(o:Cm) (d e r:D) (x y:V),cmD o d e = .ok r->RepB p H (fz O H) d x->RepB p H (fz O H) e y->
  ∃r2:R2,OpR X (compareOp (cmr o)) r2/\r2 x y H (Fin p O H r):=by
 intro o d e r x y h hx hy;have pf:∀b:Bool,Fin p O H (.bl b) (.bl b) H:=λ b=>q0H rfl;cases o with
 |eq =>
  obtain⟨c,rfl⟩:=q2i h;exact⟨_,qKz hK hu,d,e,_,q0b,hx,hy,c,pf _⟩
 |ne =>
  obtain⟨c,rfl⟩:=q2i h;exact⟨_,qL0 hK hu,d,e,_,q0b,hx,hy,c,pf _⟩
 |lt =>
  obtain⟨c,rfl⟩:=q2i h;exact⟨_,qL1 hK hu,d,e,_,q0b,hx,hy,c,pf _⟩
 |ge =>
  obtain⟨c,rfl⟩:=q2i h;exact⟨_,qL2 hK hu,d,e,_,q0b,hx,hy,c,pf _⟩
 |le =>
  obtain⟨a,rfl,h⟩:=q1Y h;obtain⟨b,rfl,h⟩:=q1Y h;cases h;cases (show x=_ from hx);cases (show y=_ from hy);exact⟨_,qKY,_,_,rfl,rfl,pf _⟩
 |gt =>
  obtain⟨a,rfl,h⟩:=q1Y h;obtain⟨b,rfl,h⟩:=q1Y h;cases h;cases (show x=_ from hx);cases (show y=_ from hy);exact⟨_,qKZ,_,_,rfl,rfl,pf _⟩
 |isN =>
  have hn:=q9F hx;obtain⟨rfl,h⟩:=q9C h;cases h;cases (show y=_ from hy);refine⟨_,qI0,rfl,?_⟩;rw[hn];cases d<;>exact pf _
 |notN =>
  have hn:=q9F hx;obtain⟨rfl,h⟩:=q9C h;cases h;cases (show y=_ from hy);refine⟨_,qFd,rfl,?_⟩;rw[hn];cases d<;>exact pf _
 |mem =>
  simp only[cmD,memD] at h;split at h
  ·split at h
   ·rename_i xs c;simp only[Bool.and_eq_true] at c;cases h;exact⟨_,qIb hK hu,d,_,_,xs,q0b,hx,hy,.inl rfl,c.1,c.2,by simpa using pf _⟩
   ·cases h
  ·split at h
   ·rename_i xs c;simp only[Bool.and_eq_true] at c;cases h;exact⟨_,qIb hK hu,d,_,_,xs,q0b,hx,hy,.inr rfl,c.1,c.2,by simpa using pf _⟩
   ·cases h
  ·split at h
   ·cases h;cases (show x=_ from hx);obtain⟨a,kvs,rfl,s1,rfl,_⟩:=hy;refine⟨_,qIc hu,_,a,kvs,rfl,rfl,s1,?_⟩;rw[<-q9E];exact pf _
   ·cases h
  ·cases h
 |nmem =>
  simp only[cmD,memD] at h;split at h
  ·split at h
   ·rename_i xs c;simp only[Bool.and_eq_true] at c;cases h;exact⟨_,q9D hK hu,d,_,_,xs,q0b,hx,hy,.inl rfl,c.1,c.2,by simpa using pf _⟩
   ·cases h
  ·split at h
   ·rename_i xs c;simp only[Bool.and_eq_true] at c;cases h;exact⟨_,q9D hK hu,d,_,_,xs,q0b,hx,hy,.inr rfl,c.1,c.2,by simpa using pf _⟩
   ·cases h
  ·split at h
   ·cases h;cases (show x=_ from hx);obtain⟨a,kvs,rfl,s1,rfl,_⟩:=hy;refine⟨_,qBZ hu,_,a,kvs,rfl,rfl,s1,?_⟩;rw[<-q9E];exact pf _
   ·cases h
  ·cases h
theorem qEz {Hf:Hp}{ds:List D}{vs:List V}{i:Int}(h:RepL p Hf ds vs) (e:nth ds i = .ok d):∃v,atI vs i=some v/\Rep p Hf d v:=by
 have hl:=h.length;unfold nth at e;unfold atI ixN;split at e
 ·rename_i z hz;cases e;split at hz
  ·rename_i c;obtain⟨v,e1,e2⟩:=h.get hz;refine⟨v,?_,e2⟩;have:=(List.getElem?_eq_some_iff.mp e1).1;rw[if_pos c,if_pos (by lia)];exact e1
  ·rename_i c;split at hz
   ·rename_i c2;obtain⟨v,e1,e2⟩:=h.get hz;refine⟨v,?_,e2⟩;rw[if_neg c,if_pos (by lia)];rw[hl] at e1;exact e1
   ·cases hz
 ·cases e
theorem q9H {Hf:Hp}{i:Int}{d:D}:∀{kvs:List (Key×V)}{ds:List D},RepL p Hf ds (kvs.map (·.2))->look i (kvs.map λ q=>keyD q.1) ds = .ok d->∃v,valV kvs (.inl i)=some v/\Rep p Hf d v
 |[],ds,h,e=>by cases ds<;>simp[look] at e
 |(k,w)::r,ds,h,e=>by
  cases ds with
  |nil=>cases k<;>simp[look,keyD] at e
  |cons d1 ds =>
   obtain⟨v,r',q,h1,h2⟩:=h;injection q with q1 q2
   subst q1 q2;cases k with
   |inl j =>
    simp only[List.map_cons,keyD,look] at e;split at e
    ·rename_i c;subst c;cases e;exact⟨w,q3A rfl,h1⟩
    ·rename_i c;obtain⟨v,e1,e2⟩:=q9H h2 e;exact⟨v,by rw[q2X (λ z=>c (Sum.inl.inj z))];exact e1,e2⟩
   |inr x=>simp[look,keyD] at e
theorem qG5 (hu:X.A.units+64<cLine):IxR X (λ x y H Q=>∃a kvs i v,x = .ref a/\y = .int i/\Rd H a (.dK kvs)/\valV kvs (.inl i)=some v/\Q v H):=by intro value slice pins s σ H x y v u Q I rx ry h hs;obtain⟨a,kvs,i,z,rfl,rfl,e,hv,q⟩:=h;cases rx;have g:DGet H a (.int i) (some z):= .inl ⟨kvs,.inl i,e,rfl,hv.symm⟩;obtain⟨ht,_⟩:=qI3 I (.inl ⟨kvs,e⟩);exact tail_any (ops:=[.ref a,u]) ht slot_dict_getitem.lookup (qAw (by lia) I g ry λ w' s' I' rw'=>⟨z,H,I',rw',q⟩) hs
theorem qDb (hK:p.K=X.K) (hu:X.A.units+64<cLine):∀(d e r:D) (x y:V),idxD d e = .ok r->RepB p H (fz O H) d x->RepB p H (fz O H) e y->
  ∃r2:R2,IxR X r2/\r2 x y H (Fin p O H r):=by
 intro d e r x y h hx hy;unfold idxD at h;split at h
 ·cases (show y=_ from hy);obtain⟨a,vs,rfl,s1,r1⟩:=hx;obtain⟨v,e1,e2⟩:=qEz r1 h;exact⟨_,qB0,a,vs,_,v,rfl,rfl,hK▸s1,e1,q0H e2⟩
 ·cases (show y=_ from hy);obtain⟨a,vs,rfl,s1,z,r1⟩:=hx;obtain⟨v,e1,e2⟩:=qEz r1 h;exact⟨_,qI6,a,vs,_,v,rfl,rfl,hK▸q0b.sqT s1,e1,q0H e2⟩
 ·cases (show y=_ from hy);obtain⟨a,kvs,rfl,s1,rfl,r1⟩:=hx;obtain⟨v,e1,e2⟩:=q9H r1 h;exact⟨_,qG5 hu,a,kvs,_,v,rfl,rfl,s1,e1,q0H e2⟩
 ·cases h
theorem qDc (hK:p.K=X.K) {x:V}{b:Bool}(h:tr d = .ok b) (hx:RepB p H (fz O H) d x):TruV X.K x H b:=by
 unfold tr at h;split at h<;>cases h
 ·cases (show x=_ from hx);rfl
 ·cases (show x=_ from hx);rfl
 ·cases (show x=_ from hx);rfl
 ·obtain⟨rfl,z⟩:=hx;refine⟨Nat.le_trans z q0p,?_⟩;rw[Bool.eq_iff_iff];simp
 ·obtain⟨a,vs,rfl,s1,z,r1⟩:=hx;refine .inr (.inl ⟨vs,hK▸q0b.sqT s1,?_⟩);have:=r1.length;rename_i ds;cases ds<;>cases vs<;>first|rfl|(simp at this)
 ·obtain⟨a,vs,rfl,s1,r1⟩:=hx;refine .inl ⟨vs,hK▸s1,?_⟩;have:=r1.length;rename_i ds;cases ds<;>cases vs<;>first|rfl|(simp at this)
end
end Snd
namespace Snd
open PySem PySem.Spec PyProof.Rows L2 Ev
variable {σ:L2.St}{H H':Hp}{d:D}{ρ:Ev.Env}{os:List (List Addr)}{a:PySem.Expr}{la lb:L}{pos:Pos}
structure BOk (X:Cx) (pins:List (Addr×Obj)) (H:Hp) (B:Heap):Prop where
 hok:HOk X.prog X.w H B
 keep:∀b o,X.s₀.heap.get? b=some o->X.H₀ b=none->b∉frs X.stack->b∉X.ex->B.get? b=some o
 there:∀b o,X.s₀.heap.get? b=some o->b∉frs X.stack->b∉X.ex->∃o',B.get? b=some o'
 pin:∀q∈X.pn++pins,B.get? q.1=some q.2
def Mid (X:Cx) (p:Pm) (pins:List (Addr×Obj)) (σ:L2.St) (H:Hp) (c:Nat) (e:Value) (s':Shared):Prop :=
 ∃H' a C,e = .ref a/\p.cls[c]? = some C/\Ext H H'/\
  ((∃s1 vs,Inv X pins σ H' s1/\Heap.MadeExcOf s1.heap s'.heap a (.ref C) vs/\s'={s1 with heap:=s'.heap})\/
   (∃B t,Inv X pins σ H' s'/\BOk X pins H' B/\Heap.FlyingW B X.stack a (.ref C) (.ref t) s'.heap)\/
   (∃B t L,X.env.frame=some L/\Inv X pins σ H' s'/\BOk X pins H' B/\Heap.HeldW B X.stack a (.ref C) (.ref t) L s'.heap))
theorem Mid.ext {X:Cx}{p:Pm}{pins:List (Addr×Obj)}{H1:Hp}{c:Nat}{e:Value}{s':Shared}(m:Mid X p pins σ H1 c e s') (x:Ext H H1):Mid X p pins σ H c e s':=by obtain⟨H',a,C,h1,h2,h3,h4⟩:=m;exact⟨H',a,C,h1,h2,x.trans h3,h4⟩
theorem q4Q {p:Pm}{H H' Hf Hf':Hp}(x:Ext H H') (y:Ext Hf Hf'):∀{bs:List Addr}{xss:List (List D)},q2q p H Hf bs xss->q2q p H' Hf' bs xss
 |[],_,h=>h
 |b::bs,xss,h=>by obtain⟨xs,r,e,⟨vs,h1,h2⟩,h3⟩:=h;exact⟨xs,r,e,⟨vs,x _ _ h1,h2.mono y⟩,q4Q x y h3⟩
theorem qBa {p:Pm}{Hf Hf':Hp}(x:Ext H H') (y:Ext Hf Hf') {a:Addr}(h:qG0 p H Hf a d):qG0 p H' Hf' a d:=by
 cases d with
 |lst ds=>obtain⟨vs,h1,h2⟩:=h;exact⟨vs,x _ _ h1,h2.mono y⟩
 |dct ks ds=>obtain⟨kvs,h1,h2,h3⟩:=h;exact⟨kvs,x _ _ h1,h2,h3.mono y⟩
 |_=>exact h.elim
theorem q6B {p:Pm}{Hf Hf':Hp}(x:Ext H H') (y:Ext Hf Hf') {sl:Option Sl}{v:Option V}{as:List Addr}(h:q3J p H Hf sl v as):q3J p H' Hf' sl v as:=by
 cases sl with
 |none=>exact h
 |some s=>cases s with
  |val d=>obtain⟨h1,w,h2,h3⟩:=h;exact⟨h1,w,h2,h3.mono y⟩
  |own d=>obtain⟨a,h1,h2,h3⟩:=h;exact⟨a,h1,h2,qBa x y h3⟩
  |own2 xss=>obtain⟨a,bs,h1,h2,h3,h4⟩:=h;exact⟨a,bs,h1,h2,x _ _ h3,q4Q x y h4⟩
theorem q1h {p:Pm}{H H' Hf Hf':Hp}(x:Ext H H') (y:Ext Hf Hf'):∀{ρ:Ev.Env}{σ:L2.St}{os:List (List Addr)},q1K p H Hf ρ σ os->q1K p H' Hf' ρ σ os
 |[],_,_,h=>h
 |_::ρ,_,_,h=>by obtain⟨y1,σ',as,os',e1,e2,h1,h2⟩:=h;exact⟨y1,σ',as,os',e1,e2,q6B x y h1,q1h x y h2⟩
theorem Rel.th {p:Pm}(r:Rel p ρ σ os H):Th os.flatten H:=r.there
theorem Rel.ext {p:Pm}(r:Rel p ρ σ os H) (x:Ext H H'):Rel p ρ σ os H' :=
 ⟨r.nd,r.th.ext x,q1h x (q1J x) r.slots⟩
theorem q3L {p:Pm}{H Hf:Hp}:∀{ρ:Ev.Env}{σ:L2.St}{os:List (List Addr)}{i:Nat}{x:Option Sl},q1K p H Hf ρ σ os->ρ[i]? = some x->∃y as,σ[i]? = some y/\os[i]? = some as/\q3J p H Hf x y as
 |[],_,_,i,x,h,e=>by simp at e
 |x0::ρ,_,_,0,x,h,e=>by obtain⟨y1,σ',as,os',rfl,rfl,h1,h2⟩:=h;simp at e;subst e;exact⟨y1,as,rfl,rfl,h1⟩
 |x0::ρ,_,_,i+1,x,h,e=>by obtain⟨y1,σ',as,os',rfl,rfl,h1,h2⟩:=h;obtain⟨y,bs,e1,e2,e3⟩:=q3L (i:=i) h2 (by simpa using e);exact⟨y,bs,by simpa using e1,by simpa using e2,e3⟩
theorem Rel.val {p:Pm}(r:Rel p ρ σ os H) {i:Nat}(e:getV ρ i = .ok d):∃v,σ[i]? = some (some v)/\Rep p (fz os.flatten H) d v:=by
 unfold getV at e;split at e
 ·rename_i d' h;cases e;obtain⟨y,as,e1,_,h1,v,e2,h2⟩:=q3L r.slots h;exact⟨v,by rw[e1,e2],h2⟩
 ·cases e
theorem Rel.bor {p:Pm}(r:Rel p ρ σ os H) {i:Nat}(e:getB ρ i = .ok d):∃v,σ[i]? = some (some v)/\RepB p H (fz os.flatten H) d v:=by
 unfold getB at e;split at e
 ·rename_i d' h;cases e;obtain⟨y,as,e1,_,h1,v,e2,h2⟩:=q3L r.slots h;exact⟨v,by rw[e1,e2],h2.b q0b⟩
 ·rename_i d' h;cases e;obtain⟨y,as,e1,_,a,e2,_,h2⟩:=q3L r.slots h;refine⟨.ref a,by rw[e1,e2],?_⟩;cases d with
  |lst ds=>obtain⟨vs,q1,q2⟩:=h2;exact⟨a,vs,rfl,SqL.of q1,q2⟩
  |dct ks ds=>obtain⟨kvs,q1,q2,q3⟩:=h2;exact⟨a,kvs,rfl,.inl q1,q2,q3⟩
  |_=>exact h2.elim
 ·cases e
section
variable {X:Cx}{p:Pm}{G:Nat->List D->R D}{sub:Nat->Nat->Bool}
def Gd (X:Cx) (p:Pm) (pins:List (Addr×Obj)) (σ:L2.St) (os:List (List Addr)) (H:Hp) (r:R D) (u:Value) (s':Shared):Prop :=
 ∃d v H',r = .ok d/\Inv X pins σ H' s'/\RelV v u/\Ext H H'/\Rep p (fz os.flatten H') d v
def Gb (X:Cx) (p:Pm) (pins:List (Addr×Obj)) (σ:L2.St) (os:List (List Addr)) (H:Hp) (r:R D) (u:Value) (s':Shared):Prop :=
 ∃d v H',r = .ok d/\Inv X pins σ H' s'/\RelV v u/\Ext H H'/\RepB p H' (fz os.flatten H') d v
def Er {α:Type}(X:Cx) (p:Pm) (pins:List (Addr×Obj)) (σ:L2.St) (H:Hp) (r:R α) (e:Value) (s':Shared):Prop:=∃c,r = .err c/\Mid X p pins σ H c e s'
def SE (X:Cx) (p:Pm) (G:Nat->List D->R D) (sub:Nat->Nat->Bool) (e:PySem.Expr) (l:L):Prop :=
 ∀(pins:List (Addr×Obj)) (s:Shared) (σ:L2.St) (H:Hp) (ρ:Ev.Env) (os:List (List Addr)),Inv X pins σ H s->Rel p ρ σ os H->ev G sub l ρ ≠ .stuck->
  wpAny (model X.prog X.w) X.A (eval e X.env) (Gd X p pins σ os H (ev G sub l ρ)) (Er X p pins σ H (ev G sub l ρ)) s
def SB (X:Cx) (p:Pm) (G:Nat->List D->R D) (sub:Nat->Nat->Bool) (e:PySem.Expr) (l:L):Prop :=
 ∀(pins:List (Addr×Obj)) (s:Shared) (σ:L2.St) (H:Hp) (ρ:Ev.Env) (os:List (List Addr)),Inv X pins σ H s->Rel p ρ σ os H->ev G sub l ρ ≠ .stuck->
  wpAny (model X.prog X.w) X.A (eval e X.env) (Gb X p pins σ os H (ev G sub l ρ)) (Er X p pins σ H (ev G sub l ρ)) s
theorem SE.b {e:PySem.Expr}{l:L}(h:SE X p G sub e l):SB X p G sub e l:=λ pins s σ H ρ os I R hs =>
 wpAny_mono (h pins s σ H ρ os I R hs) (λ u s' ⟨d,v,H',e1,I',rv,x,q⟩=>⟨d,v,H',e1,I',rv,x,q.b q0b⟩) λ _ _ z=>z
theorem q0D {α β:Type}{r:R α}{f:α->R β}(h:r.bind f ≠ .stuck):r ≠ .stuck:=λ e=>h (by rw[e];rfl)
theorem q8T {pins:List (Addr×Obj)}{H1:Hp}{r:D}{rr:R D}{E:Value->Shared->Prop}{u:Value}{s':Shared}(x:Ext H H1) (e:rr = .ok r) (h:EP (X.wish E) pins σ (Fin p os.flatten H1 r) u s'):Gd X p pins σ os H rr u s':=by obtain⟨v,H',I',rv,x',q⟩:=h;exact⟨r,v,H',e,I'.q2k,rv,x.trans x',q⟩
theorem q9I {b:PySem.Expr}{f:Value->Value->Sem Value}{g:D->D->R D}(ha:SB X p G sub a la) (hb:SB X p G sub b lb)
  (hf:∀(E:Value->Shared->Prop) (pins:List (Addr×Obj)) (s:Shared) (σ:L2.St) (H:Hp) (os:List (List Addr)) (x y:V) (v u:Value) (d e r:D),Inv X pins σ H s->Th os.flatten H->RelV x v->RelV y u->RepB p H (fz os.flatten H) d x->RepB p H (fz os.flatten H) e y->g d e = .ok r->
   wpAny (model X.prog X.w) X.A (f v u) (EP (X.wish E) pins σ (Fin p os.flatten H r)) E s)
  (hg:∀d e,g d e = .stuck\/∃r,g d e = .ok r)
  {pins:List (Addr×Obj)}{s:Shared}{σ:L2.St}{H:Hp}{ρ:Ev.Env}{os:List (List Addr)}(I:Inv X pins σ H s) (R:Rel p ρ σ os H) {rr:Ev.R D}(er:rr=(ev G sub la ρ).bind λ x=>(ev G sub lb ρ).bind λ y=>g x y) (hs:rr ≠ .stuck) :
  wpAny (model X.prog X.w) X.A (eval a X.env) (λ v s₁=>wpAny (model X.prog X.w) X.A (eval b X.env) (λ u s₂=>wpAny (model X.prog X.w) X.A (f v u) (Gd X p pins σ os H rr) (Er X p pins σ H rr) s₂) (Er X p pins σ H rr) s₁) (Er X p pins σ H rr) s:=by
 subst er;refine wpAny_mono (ha pins s σ H ρ os I R (q0D hs)) (λ v s1 ⟨d,x,H1,e1,I1,r1,x1,q1⟩=>?_) (λ e s' ⟨c,e1,m⟩=>⟨c,by rw[e1];rfl,m⟩);rw[e1,q00] at hs |-;have R1:=R.ext x1;refine wpAny_mono (hb pins s1 σ H1 ρ os I1 R1 (q0D hs)) (λ u s2 ⟨d2,y,H2,e2,I2,r2,x2,q2⟩=>?_) (λ e s' ⟨c,e2,m⟩=>⟨c,by rw[e2];rfl,m.ext x1⟩);rw[e2,q00] at hs |-;rcases hg d d2 with z|⟨r,z⟩
 ·exact absurd z hs
 rw[z];exact wpAny_mono (hf _ pins s2 σ H2 os x y v u d d2 r I2 (R1.ext x2).th r1 r2 (q1.mono x2 (q1J x2)) q2 z) (λ w s3 h3=>q8T (x1.trans x2) rfl h3) λ _ _ z=>z
theorem q9J {c:Prop}{_:Decidable c}{x:D}:(if c then R.ok x else .stuck) = .stuck\/∃r,(if c then R.ok x else .stuck) = .ok r:=by
 by_cases z:c
 ·rw[if_pos z];exact .inr ⟨_,rfl⟩
 ·rw[if_neg z];exact .inl rfl
theorem q2c {f:Int->R D}(h:∀i,f i = .stuck\/∃r,f i = .ok r) (d:D):intD f d = .stuck\/∃r,intD f d = .ok r:=by cases d<;>first|exact h _|exact .inl rfl
theorem qG6 (o:Op2) (a b:Int):opI o a b = .stuck\/∃r,opI o a b = .ok r:=by cases o<;>first|exact .inl rfl|exact .inr ⟨_,rfl⟩|exact q9J
theorem qBb (o:Op2) (d e:D):opD o d e = .stuck\/∃r,opD o d e = .ok r:=by
 unfold opD;split
 ·cases d<;>first|exact .inl rfl|exact q2c (λ _=> .inr ⟨_,rfl⟩) e|(cases e<;>first|exact .inl rfl|exact q9J)
 ·cases d<;>first|exact .inl rfl|exact q2c (λ _=>q9J) e
 ·exact q2c (λ a=>q2c (qG6 o a) e) d
theorem qDd (d e:D):memD d e = .stuck\/∃r,memD d e = .ok r:=by
 unfold memD;split<;>first
  |exact .inl rfl
  |(split<;>first|exact .inr ⟨_,rfl⟩|exact .inl rfl)
theorem qBc (o:Cm) (d e:D):cmD o d e = .stuck\/∃r,cmD o d e = .ok r:=by
 cases o<;>first
  |exact q9J
  |exact q2c (λ a=>q2c (λ b=> .inr ⟨_,rfl⟩) e) d
  |(cases e<;>first|exact .inl rfl|exact .inr ⟨_,rfl⟩)
  |(unfold cmD;dsimp only;rcases qDd d e with z|⟨r,z⟩<;>rw[z]<;>first|exact .inl rfl|exact .inr ⟨_,rfl⟩)
theorem qG7 (l:List D) (i:Int):nth l i = .stuck\/∃r,nth l i = .ok r:=by unfold nth;split<;>first|exact .inr ⟨_,rfl⟩|exact .inl rfl
theorem q9K (i:Int):∀(ks vs:List D),look i ks vs = .stuck\/∃r,look i ks vs = .ok r
 |[],vs=>by unfold look;exact .inl rfl
 |k::ks,[]=>by cases k<;>(unfold look;exact .inl rfl)
 |k::ks,v::vs=>by
  cases k<;>first
   |(unfold look;exact .inl rfl)
   |(unfold look;split<;>first|exact .inr ⟨_,rfl⟩|exact q9K i ks vs)
theorem qDe (d e:D):idxD d e = .stuck\/∃r,idxD d e = .ok r:=by unfold idxD;split<;>first|exact qG7 _ _|exact q9K _ _ _|exact .inl rfl
theorem qL3 {b:PySem.Expr}{op:Operator}{o:Op2}(hK:p.K=X.K) (ho:opOf op=some o) (ha:SB X p G sub a la) (hb:SB X p G sub b lb):SE X p G sub (.BinOp a op b pos) (.op o la lb):=by intro pins s σ H ρ os I R hs;rw[q99 ho];refine wpAny_BinOp (q9I ha hb (λ E pins s σ H os x y v u d e r I t rx ry h1 h2 h=>?_) (qBb o) I R (q0O ..) hs);obtain⟨r2,k,q⟩:=qDZ (X:=X.wish E) hK t o d e r x y h h1 h2;exact k pins s σ H x y v u _ (I.wish E) rx ry q
theorem qL4 {b:PySem.Expr}{op:CmpOp}(hK:p.K=X.K) (hu:X.A.units+64<cLine) (hm:behindInMarks op b=false) (ha:SB X p G sub a la) (hb:SB X p G sub b lb):SE X p G sub (.Compare a [op] [b] pos) (.cm (cmOf op) la lb):=by intro pins s σ H ρ os I R hs;refine wpAny_Compare1 (q9I ha hb (λ E pins s σ H os x y v u d e r I t rx ry h1 h2 h=>?_) (qBc (cmOf op)) I R (qAI ..) hs) hm;obtain⟨r2,k,q⟩:=q9G (X:=X.wish E) hK t hu (cmOf op) d e r x y h h1 h2;rw[qEy] at k;exact k pins s σ H x y v u _ (I.wish E) rx ry q
theorem qId {b:PySem.Expr}(hK:p.K=X.K) (hu:X.A.units+64<cLine) (hs:q8C b) (ha:SB X p G sub a la) (hb:SB X p G sub b lb):SE X p G sub (.Subscript a b pos) (.idx la lb):=by intro pins s σ H ρ os I R hn;refine Subscript_ (q9I ha hb (λ E pins s σ H os x y v u d e r I t rx ry h1 h2 h=>?_) qDe I R (q1d ..) hn);obtain⟨r2,k,q⟩:=qDb (X:=X.wish E) (O:=os.flatten) hK hu d e r x y h h1 h2;exact k a b pins s σ H x y v u _ (I.wish E) rx ry q (hs _ _)
end
end Snd
namespace Snd
open PySem PySem.Spec PyProof.Rows L2 Ev
variable {d:D}{pos:Pos}{pins:List (Addr×Obj)}{σ:L2.St}{H:Hp}{x:Str}{i:Nat}{u:Value}{a b:PySem.Expr}{la lb:L}{r es:List PySem.Expr}{s':Shared}{ls:List L}
section
variable {X:Cx}{p:Pm}{G:Nat->List D->R D}{sub:Nat->Nat->Bool}
theorem qF0 {c:Const}{j:Nat}(h:q8E c=some d):SE X p G sub (.Constant c j pos) (.con d):=by
 intro pins s σ H ρ os I R hs;cases c<;>simp[q8E] at h
 ·subst h;exact Constant_none ⟨_,.non,H,rfl,I,rfl,Ext.refl _,rfl⟩
 ·subst h;exact Constant_bool ⟨_,.bl _,H,rfl,I,rfl,Ext.refl _,rfl⟩
 ·subst h;exact wpAny_Constant_int ⟨_,.int _,H,rfl,I.tok _,⟨_,rfl⟩,Ext.refl _,rfl⟩
 ·obtain⟨h1,rfl⟩:=h;exact Calls.Constant_str ⟨_,.str _,H,rfl,I.tok _,⟨_,rfl⟩,Ext.refl _,rfl,Nat.le_trans h1 (by decide)⟩
theorem q3M {E:Value->Shared->Prop}{s:Shared}{v:V}{Q:Value->Shared->Prop}(I:Inv X pins σ H s) (hN:X.N[i]? = some x) (hv:Vis X.env.scope x) (e:σ[i]? = some (some v))
  (hd:(x==("__debug__":Str))=false) (hcd:(x==("__classdict__":Str))=false) (h:∀u,RelV v u->Q u s):wpAny (model X.prog X.w) X.A (eval (.Name x pos) X.env) Q E s:=by
 obtain⟨m,hn,hl⟩:=I.loc;obtain⟨u,r,l⟩:=hl i x v hN e hv;rcases l with ⟨hk,hm⟩|⟨hk,c,hc,hcell⟩
 ·exact wpAny_Name (wpAny_loadName_local I.ok.kind hk hn hm (h u r)) hd
 ·rcases hk with hk|hk
  ·exact wpAny_Name (wpAny_loadName_cell I.ok.kind hk hc hcell (h u r)) hd
  ·exact wpAny_Name (wpAny_loadName_free I.ok.kind hk hc hcell (h u r) hcd) hd
theorem qIe (hN:X.N[i]? = some x) (hv:Vis X.env.scope x) (hd:(x==("__debug__":Str))=false) (hcd:(x==("__classdict__":Str))=false):SE X p G sub (.Name x pos) (.var i):=by
 intro pins s σ H ρ os I R hs;rw[q1V] at hs |-;cases e:getV ρ i with
 |ok d =>
  obtain⟨v,e1,q⟩:=R.val e;exact q3M I hN hv e1 hd hcd λ u r=>⟨d,v,H,rfl,I,r,Ext.refl _,q⟩
 |err c=>unfold getV at e;split at e<;>cases e
 |stuck=>exact absurd e hs
theorem qF1 (hN:X.N[i]? = some x) (hv:Vis X.env.scope x) (hd:(x==("__debug__":Str))=false) (hcd:(x==("__classdict__":Str))=false):SB X p G sub (.Name x pos) (.bor i):=by
 intro pins s σ H ρ os I R hs;rw[qEs] at hs |-;cases e:getB ρ i with
 |ok d =>
  obtain⟨v,e1,q⟩:=R.bor e;exact q3M I hN hv e1 hd hcd λ u r=>⟨d,v,H,rfl,I,r,Ext.refl _,q⟩
 |err c=>unfold getB at e;split at e<;>cases e
 |stuck=>exact absurd e hs
theorem qG8 {v:V}(hg:Gl X x) (hm:X.mg x=some u) (r:RelV v u) (hr:∀H,Rep p H d v) (hd:(x==("__debug__":Str))=false):SE X p G sub (.Name x pos) (.con d):=λ pins s σ H ρ os I R hs =>
 q3f I hg hm ⟨d,v,H,rfl,I,r,Ext.refl _,hr _⟩ hd
theorem qIf (ha:SE X p G sub a la):SE X p G sub (.UnaryOp .USub a pos) (.neg la):=by
 intro pins s σ H ρ os I R hs;rw[qIJ] at hs |-;refine UnaryOp_ (wpAny_mono (ha pins s σ H ρ os I R (q0D hs)) (λ v s1 ⟨d,x,H1,e1,I1,r1,x1,q1⟩=>?_) (λ e s' ⟨c,e1,m⟩=>⟨c,by rw[e1];rfl,m⟩));rw[e1,q00] at hs |-;cases d<;>first
  |exact absurd rfl hs
  |skip
 cases (show x=_ from q1);obtain⟨t,rfl⟩:=r1;exact neg_int ⟨_,.int _,H1,rfl,I1.tok _,⟨_,rfl⟩,x1,rfl⟩
def Tp (X:Cx) (p:Pm) (pins:List (Addr×Obj)) (σ:L2.St) (H:Hp) (r:R Bool) (b:Bool) (s':Shared):Prop:=∃H',r = .ok b/\Inv X pins σ H' s'/\Ext H H'
def ST (X:Cx) (p:Pm) (G:Nat->List D->R D) (sub:Nat->Nat->Bool) (e:PySem.Expr) (l:T):Prop :=
 ∀(whole:Sem Value) (pins:List (Addr×Obj)) (s:Shared) (σ:L2.St) (H:Hp) (ρ:Ev.Env) (os:List (List Addr)),(whole=eval e X.env\/q8F e=true)->Inv X pins σ H s->Rel p ρ σ os H->tst G sub l ρ ≠ .stuck->
  wpAny (model X.prog X.w) X.A (isTrue e X.env whole) (Tp X p pins σ H (tst G sub l ρ)) (Er X p pins σ H (tst G sub l ρ)) s
theorem q2v (hK:p.K=X.K) {s:Shared}{H0:Hp}{os:List (List Addr)}{x:V}{v:Value}{E:Value->Shared->Prop}{rr:R Bool}(I:Inv X pins σ H s) (r:RelV x v) (q:RepB p H (fz os.flatten H) d x) (x0:Ext H0 H) (hs:tr d ≠ .stuck) (er:rr=tr d) :
  wpAny (model X.prog X.w) X.A (truthy v) (Tp X p pins σ H0 rr) E s:=by
 cases e:tr d with
 |ok b =>
  refine thn (qI1 (X:=X.wish E) pins s σ H x v (λ b' H'=>b'=b/\H'=H) (I.wish E) r ⟨b,qDc (X:=X.wish E) (O:=os.flatten) hK e q,rfl,rfl⟩) λ b' s' h=>?_;obtain⟨H',I',rfl,rfl⟩:=h;exact⟨H',by rw[er,e],I'.q2k,x0⟩
 |err c=>unfold tr at e;split at e<;>cases e
 |stuck=>exact absurd e hs
theorem st_e {e:PySem.Expr}{l:L}(hK:p.K=X.K) (he:∀whole,isTrue e X.env whole=(do let v <-whole;standAt e.pos;holding [v] (truthy v))) (hb:q8F e=false) (h:SB X p G sub e l):ST X p G sub e (.e l):=by
 intro whole pins s σ H ρ os hw I R hs;rcases hw with rfl|hw
 ·rw[q8N] at hs |-;refine isTrue_plain (wpAny_mono (h pins s σ H ρ os I R (q0D hs)) (λ v s1 ⟨d,x,H1,e1,I1,r1,x1,q1⟩=>?_) (λ e s' ⟨c,e1,m⟩=>⟨c,by rw[e1];rfl,m⟩)) (he _);rw[e1,q00] at hs |-;exact q2v hK I1 r1 q1 x1 hs rfl
 ·rw[hb] at hw;cases hw
theorem qL5 {op:CmpOp}(hK:p.K=X.K) (hu:X.A.units+64<cLine) (hm:behindInMarks op b=false) (ha:SB X p G sub a la) (hb:SB X p G sub b lb):ST X p G sub (.Compare a [op] [b] pos) (.e (.cm (cmOf op) la lb)):=by
 intro whole pins s σ H ρ os hw I R hs;rw[q8N] at hs |-;have hs':ev G sub (.cm (cmOf op) la lb) ρ ≠ .stuck:=q0D hs;have two:=q9I (X:=X) ha hb (f:=compareOp op) (g:=cmD (cmOf op)) (λ E pins s σ H os x y v u d e r I t rx ry h1 h2 h=>by obtain⟨r2,k,q⟩:=q9G (X:=X.wish E) hK t hu (cmOf op) d e r x y h h1 h2;rw[qEy] at k;exact k pins s σ H x y v u _ (I.wish E) rx ry q) (qBc (cmOf op)) I R (qAI ..) hs'
 have er:∀e s',Er X p pins σ H (ev G sub (.cm (cmOf op) la lb) ρ) e s'->Er X p pins σ H ((ev G sub (.cm (cmOf op) la lb) ρ).bind tr) e s':=λ e s' ⟨c,e1,m⟩=>⟨c,by rw[e1];rfl,m⟩
 refine wpAny_isTrue_Compare1 (wpAny_mono two (λ v s1 h1=>wpAny_mono h1 (λ u s2 h2=>wpAny_mono h2 (λ w s3 h3=>?_) er) er) er) hm;obtain⟨d,x,H1,e1,I1,r1,x1,q1⟩:=h3;rw[e1,q00] at hs |-;exact q2v hK I1 r1 (q1.b q0b) x1 hs rfl
theorem qIg {la:T}(ha:ST X p G sub a la):ST X p G sub (.UnaryOp .Not a pos) (.not la):=by intro whole pins s σ H ρ os hw I R hs;rw[q4f] at hs |-;refine isTrue_not (wpAny_mono (ha _ pins s σ H ρ os (.inl rfl) I R (q0D hs)) (λ b s1 ⟨H1,e1,I1,x1⟩=>?_) (λ e s' ⟨c,e1,m⟩=>⟨c,by rw[e1];rfl,m⟩));exact⟨H1,by rw[e1];rfl,I1,x1⟩
theorem qG9 {la:T}(ha:ST X p G sub a la):ST X p G sub (.BoolOp .And [a] pos) la:=by
 intro whole pins s σ H ρ os hw I R hs;refine isTrue_and (wpAny_mono (ha _ pins s σ H ρ os (.inl rfl) I R hs) (λ c s1 e=>?_) (λ _ _ z=>z));cases c with
 |true=>exact isTrue_and_nil e
 |false=>exact e
theorem qIh {la:T}(ha:ST X p G sub a la):ST X p G sub (.BoolOp .Or [a] pos) la:=by
 intro whole pins s σ H ρ os hw I R hs;refine isTrue_or (wpAny_mono (ha _ pins s σ H ρ os (.inl rfl) I R hs) (λ c s1 e=>?_) (λ _ _ z=>z));cases c with
 |false=>exact isTrue_or_nil e
 |true=>exact e
theorem qIi {la lb:T}(ha:ST X p G sub a la) (hb:ST X p G sub (.BoolOp .And (b::r) pos) lb):ST X p G sub (.BoolOp .And (a::b::r) pos) (.and la lb):=by
 intro whole pins s σ H ρ os hw I R hs;rw[qBF] at hs |-;refine isTrue_and (wpAny_mono (ha _ pins s σ H ρ os (.inl rfl) I R (q0D hs)) (λ c s1 ⟨H1,e1,I1,x1⟩=>?_) (λ e s' ⟨c,e1,m⟩=>⟨c,by rw[e1];rfl,m⟩));rw[e1,q00] at hs |-;cases c with
 |false=>exact⟨H1,rfl,I1,x1⟩
 |true =>
  rw[if_pos rfl] at hs |-;exact wpAny_mono (hb _ pins s1 σ H1 ρ os (.inr rfl) I1 (R.ext x1) hs) (λ c s2 ⟨H2,e2,I2,x2⟩=>⟨H2,e2,I2,x1.trans x2⟩) (λ e s' ⟨c,e1,m⟩=>⟨c,e1,m.ext x1⟩)
theorem qL6 {la lb:T}(ha:ST X p G sub a la) (hb:ST X p G sub (.BoolOp .Or (b::r) pos) lb):ST X p G sub (.BoolOp .Or (a::b::r) pos) (.or la lb):=by
 intro whole pins s σ H ρ os hw I R hs;rw[q5S] at hs |-;refine isTrue_or (wpAny_mono (ha _ pins s σ H ρ os (.inl rfl) I R (q0D hs)) (λ c s1 ⟨H1,e1,I1,x1⟩=>?_) (λ e s' ⟨c,e1,m⟩=>⟨c,by rw[e1];rfl,m⟩));rw[e1,q00] at hs |-;cases c with
 |true=>exact⟨H1,rfl,I1,x1⟩
 |false =>
  rw[if_neg (by simp)] at hs |-;exact wpAny_mono (hb _ pins s1 σ H1 ρ os (.inr rfl) I1 (R.ext x1) hs) (λ c s2 ⟨H2,e2,I2,x2⟩=>⟨H2,e2,I2,x1.trans x2⟩) (λ e s' ⟨c,e1,m⟩=>⟨c,e1,m.ext x1⟩)
theorem qIj {op:BoolOp}(ha:SE X p G sub a la):SE X p G sub (.BoolOp op [a] pos) la:=λ pins s σ H ρ os I R hs=>BoolOp_one (ha pins s σ H ρ os I R hs)
theorem Gd.ext {os:List (List Addr)}{H1:Hp}{r:R D}(x:Ext H H1) (h:Gd X p pins σ os H1 r u s'):Gd X p pins σ os H r u s':=by obtain⟨d,v,H',e,I,rv,y,q⟩:=h;exact⟨d,v,H',e,I,rv,x.trans y,q⟩
theorem Er.ext {α:Type}{H1:Hp}{r:R α}(x:Ext H H1) (h:Er X p pins σ H1 r u s'):Er X p pins σ H r u s':=by obtain⟨c,e,m⟩:=h;exact⟨c,e,m.ext x⟩
theorem Er.bind {α β:Type}{r:R α}{f:α->R β}(h:Er X p pins σ H r u s'):Er X p pins σ H (r.bind f) u s':=by obtain⟨c,e,m⟩:=h;exact⟨c,by rw[e];rfl,m⟩
theorem qIk (ha:SE X p G sub a la) (hb:SE X p G sub (.BoolOp .And (b::r) pos) lb):SE X p G sub (.BoolOp .And (a::b::r) pos) (.and la lb):=by
 intro pins s σ H ρ os I R hs;rw[qEt] at hs |-;refine BoolOp_and (wpAny_mono (ha pins s σ H ρ os I R (q0D hs)) (λ v s1 ⟨d,x,H1,e1,I1,r1,x1,q1⟩=>?_) (λ e s' z=>z.bind));rw[e1,q00] at hs |-;cases d<;>first
  |exact absurd rfl hs
  |skip
 rename_i c;cases (show x=_ from q1);cases r1;refine wpAny_truthy_bool ?_;cases c with
 |true=>exact wpAny_mono (hb pins s1 σ H1 ρ os I1 (R.ext x1) hs) (λ _ _ z=>z.ext x1) (λ _ _ z=>z.ext x1)
 |false=>exact⟨_,.bl false,H1,rfl,I1,rfl,x1,rfl⟩
theorem qL7 (ha:SE X p G sub a la) (hb:SE X p G sub (.BoolOp .Or (b::r) pos) lb):SE X p G sub (.BoolOp .Or (a::b::r) pos) (.or la lb):=by
 intro pins s σ H ρ os I R hs;rw[qKe] at hs |-;refine BoolOp_or (wpAny_mono (ha pins s σ H ρ os I R (q0D hs)) (λ v s1 ⟨d,x,H1,e1,I1,r1,x1,q1⟩=>?_) (λ e s' z=>z.bind));rw[e1,q00] at hs |-;cases d<;>first
  |exact absurd rfl hs
  |skip
 rename_i c;cases (show x=_ from q1);cases r1;refine wpAny_truthy_bool ?_;cases c with
 |false=>exact wpAny_mono (hb pins s1 σ H1 ρ os I1 (R.ext x1) hs) (λ _ _ z=>z.ext x1) (λ _ _ z=>z.ext x1)
 |true=>exact⟨_,.bl true,H1,rfl,I1,rfl,x1,rfl⟩
theorem qIl (hK:p.K=X.K) (ha:SB X p G sub a la):SE X p G sub (.UnaryOp .Not a pos) (.not la):=by intro pins s σ H ρ os I R hs;rw[qIK] at hs |-;refine UnaryOp_ (wpAny_mono (ha pins s σ H ρ os I R (q0D hs)) (λ v s1 ⟨d,x,H1,e1,I1,r1,x1,q1⟩=>?_) (λ e s' z=>z.bind));rw[e1,q00] at hs |-;refine not_of (thn (q2v hK I1 r1 q1 x1 (q0D hs) rfl) λ b s2 ⟨H2,e2,I2,x2⟩=>?_);rw[e2];exact⟨_,.bl _,H2,rfl,I2,rfl,x2,rfl⟩
theorem qIm {c:PySem.Expr}{lc:T}(hc:ST X p G sub c lc) (ha:SE X p G sub a la) (hb:SE X p G sub b lb):SE X p G sub (.IfExp c a b pos) (.ite lc la lb):=by
 intro pins s σ H ρ os I R hs;rw[qBC] at hs |-;refine wpAny_IfExp (wpAny_mono (hc _ pins s σ H ρ os (.inl rfl) I R (q0D hs)) (λ t s1 ⟨H1,e1,I1,x1⟩=>?_) (λ e s' z=>z.bind));rw[e1,q00] at hs |-;cases t with
 |true=>exact wpAny_mono (ha pins s1 σ H1 ρ os I1 (R.ext x1) hs) (λ _ _ z=>z.ext x1) (λ _ _ z=>z.ext x1)
 |false=>exact wpAny_mono (hb pins s1 σ H1 ρ os I1 (R.ext x1) hs) (λ _ _ z=>z.ext x1) (λ _ _ z=>z.ext x1)
def Ga (X:Cx) (p:Pm) (pins:List (Addr×Obj)) (σ:L2.St) (os:List (List Addr)) (H:Hp) (r:R (List D)) (us:List Value) (s':Shared):Prop :=
 ∃ds vs H',r = .ok ds/\Inv X pins σ H' s'/\Vals vs us/\Ext H H'/\RepL p (fz os.flatten H') ds vs
def SA (X:Cx) (p:Pm) (G:Nat->List D->R D) (sub:Nat->Nat->Bool) (es:List PySem.Expr) (l:List L):Prop :=
 ∀(pos:Pos) (pins:List (Addr×Obj)) (s:Shared) (σ:L2.St) (H:Hp) (ρ:Ev.Env) (os:List (List Addr)),Inv X pins σ H s->Rel p ρ σ os H->evs G sub l ρ ≠ .stuck->
  wpAny (model X.prog X.w) X.A (spliced (backTo pos (starEach es X.env))) (Ga X p pins σ os H (evs G sub l ρ)) (Er X p pins σ H (evs G sub l ρ)) s
theorem qF2:SA X p G sub [] []:=λ _ _ _ _ H _ _ I _ _=>Calls.spliced_nil ⟨[],[],H,rfl,I,.nil,Ext.refl _,rfl⟩
theorem qBd {e:PySem.Expr}{l:L}(ha:SE X p G sub e l) (hr:SA X p G sub es ls) (hst:starEach (e::es) X.env=(false,eval e X.env)::starEach es X.env):SA X p G sub (e::es) (l::ls):=by intro pos pins s σ H ρ os I R hs;rw[hst];rw[q0J] at hs |-;show wpAny _ _ (spliced ((false,eval e X.env)::backTo pos (starEach es X.env))) _ _ s;refine Calls.spliced_cons (wpAny_mono (ha pins s σ H ρ os I R (q0D hs)) (λ u s1 ⟨d,x,H1,e1,I1,r1,x1,q1⟩=>?_) (λ e s' z=>z.bind));rw[e1,q00] at hs |-;refine wpAny_mono (hr pos pins s1 σ H1 ρ os I1 (R.ext x1) (q0D hs)) (λ us s2 ⟨ds,vs,H2,e2,I2,r2,x2,q2⟩=>?_) (λ e s' z=>(z.ext x1).bind);rw[e2];exact⟨d::ds,x::vs,H2,rfl,I2,.cons r1 r2,x1.trans x2,x,vs,rfl,q1.mono (q1J x2),q2⟩
theorem q9L {O:List Addr}{a:Addr}{o:HO}(t:Th O H) (n:H a=none):fz O (upd H a o) a=some o:=q1z q0E λ m=>by obtain⟨u,e⟩:=t a m;rw[n] at e;cases e
theorem qIn {k1:Nat}(h:SA X p G sub es ls):SE X p G sub (.Tuple es k1 pos) (.tup ls):=by
 intro pins s σ H ρ os I R hs;rw[qBD] at hs |-;refine wpAny_Tuple_spliced (wpAny_mono (h pos pins s σ H ρ os I R (q0D hs)) (λ us s1 ⟨ds,vs,H1,e1,I1,r1,x1,q1⟩=>?_) (λ e s' z=>z.bind));rw[e1,q00] at hs |-;have z:ds.length<=big:=by
  by_cases z:ds.length<=big
  ·exact z
  ·rw[if_neg z] at hs;exact absurd rfl hs
 rw[if_pos z];have z1:vs.length<=sizeLine:=Nat.le_trans (q1.length▸z) q0p;refine⟨by rw[<-r1.length];exact z1,?_⟩;have hf:H1 s1.heap.objs.size=none:=I1.hok.fresh (Nat.le_refl _);refine⟨_,.ref s1.heap.objs.size,upd H1 s1.heap.objs.size (.tup vs),rfl,I1.laid (t':=s1.toks) (λ b u e=>Heap.get?_push_of_some _ e) (Nat.le_refl _) ?_,rfl,x1.trans (Ext.upd hf),?_⟩
 ·exact⟨z1,us,r1,⟨_,Heap.get?_push_size _ rfl,rfl,_,rfl⟩⟩
 ·exact⟨_,vs,rfl,SqT.of (q9L (R.ext x1).th hf),z1,q1.mono (q1J (Ext.upd hf))⟩
theorem qIo (h:SA X p G sub es ls):SE X p G sub (.List es pos) (.lst ls):=by
 intro pins s σ H ρ os I R hs;rw[q76] at hs |-;refine wpAny_List_spliced (wpAny_mono (h pos pins s σ H ρ os I R (q0D hs)) (λ us s1 ⟨ds,vs,H1,e1,I1,r1,x1,q1⟩=>?_) (λ e s' z=>z.bind));rw[e1,q00] at hs |-;have z:ds.length<=big:=by
  by_cases z:ds.length<=big
  ·exact z
  ·rw[if_neg z] at hs;exact absurd rfl hs
 rw[if_pos z];have z1:vs.length<=sizeLine:=Nat.le_trans (q1.length▸z) q0p;refine⟨by rw[<-r1.length];exact z1,?_⟩;have hf:H1 s1.heap.objs.size=none:=I1.hok.fresh (Nat.le_refl _);refine⟨_,.ref s1.heap.objs.size,upd H1 s1.heap.objs.size (.lst vs),rfl,I1.laid (t':=s1.toks) (λ b u e=>Heap.get?_push_of_some _ e) (Nat.le_refl _) ?_,rfl,x1.trans (Ext.upd hf),?_⟩
 ·exact⟨z1,us,0,r1,Heap.get?_push_size _ rfl⟩
 ·exact⟨_,vs,rfl,SqL.of (q9L (R.ext x1).th hf),q1.mono (q1J (Ext.upd hf))⟩
end
end Snd
namespace Snd
open PySem PySem.Spec PyProof.Rows L2 Ev
variable {H0 H:Hp}{O0:List Addr}{ρ:Ev.Env}{σ:L2.St}{os:List (List Addr)}{i:Nat}{pins:List (Addr×Obj)}{pos:Pos}{e:PySem.Expr}{l:L}
theorem q3N {p:Pm}{H Hf:Hp}{x:Option Sl}{y:Option V}{as:List Addr}(h:q3J p H Hf x y as):∀{ρ:Ev.Env}{σ:L2.St}{os:List (List Addr)}(i:Nat),q1K p H Hf ρ σ os->q1K p H Hf (ρ.set i x) (σ.set i y) (os.set i as)
 |[],_,_,_,_=>trivial
 |_::ρ,_,_,0,q=>by obtain⟨y1,σ',as',os',rfl,rfl,h1,h2⟩:=q;exact⟨y,σ',as,os',rfl,rfl,h,h2⟩
 |_::ρ,_,_,i+1,q=>by obtain⟨y1,σ',as',os',rfl,rfl,h1,h2⟩:=q;exact⟨y1,σ'.set i y,as',os'.set i as,rfl,rfl,h1,q3N h i h2⟩
theorem q0K {as:List Addr}{b:Addr}:∀{os:List (List Addr)}{i:Nat},b∈(os.set i as).flatten->b∈os.flatten\/b∈as
 |[],i,h=>by simp at h
 |o::os,0,h=>by
  simp only[List.set_cons_zero,List.flatten_cons,List.mem_append] at h;rcases h with h|h
  ·exact .inr h
  ·exact .inl (by simp only[List.flatten_cons,List.mem_append];exact .inr h)
 |o::os,i+1,h=>by
  simp only[List.set_cons_succ,List.flatten_cons,List.mem_append] at h;rcases h with h|h
  ·exact .inl (by simp only[List.flatten_cons,List.mem_append];exact .inl h)
  ·rcases q0K h with h|h
   ·exact .inl (by simp only[List.flatten_cons,List.mem_append];exact .inr h)
   ·exact .inr h
theorem q0z {as:List Addr}(na:as.Nodup):∀{os:List (List Addr)}{i:Nat},os.flatten.Nodup->(∀a∈as,a∉os.flatten)->(os.set i as).flatten.Nodup
 |[],i,h,_=>by simp
 |o::os,0,h,d=>by simp only[List.set_cons_zero,List.flatten_cons] at h |-;have h2:=List.nodup_append.mp h;refine List.nodup_append.mpr ⟨na,h2.2.1,λ a ha b hb e=>?_⟩;subst e;exact d a ha (by simp only[List.flatten_cons,List.mem_append];exact .inr hb)
 |o::os,i+1,h,d=>by
  simp only[List.set_cons_succ,List.flatten_cons] at h |-;have h2:=List.nodup_append.mp h;refine List.nodup_append.mpr ⟨h2.1,q0z na h2.2.1 (λ a ha hb=>d a ha (by simp only[List.flatten_cons,List.mem_append];exact .inr hb)),λ a ha b hb e=>?_⟩;subst e;rcases q0K hb with hb|hb
  ·exact h2.2.2 a ha a hb rfl
  ·exact d a hb (by simp only[List.flatten_cons,List.mem_append];exact .inl ha)
structure Bd (p:Pm) (H0:Hp) (O0:List Addr) (ρ:Ev.Env) (σ:L2.St) (os:List (List Addr)) (H:Hp):Prop where
 rel:Rel p ρ σ (os++[O0]) H
 len:os.length=ρ.length
 slen:σ.length=ρ.length
 ext:Ext H0 H
 new:∀a∈os.flatten,H0 a=none
theorem Bd.mono {p:Pm}{H1:Hp}(b:Bd p H0 O0 ρ σ os H) (x:Ext H H1):Bd p H0 O0 ρ σ os H1 :=
 ⟨b.rel.ext x,b.len,b.slen,b.ext.trans x,b.new⟩
theorem q4n {A B:List Addr}(h:∀a∈B,a∈A):Ext (fz A H) (fz B H):=λ a o e=>by
 unfold fz at e |-;split at e
 ·cases e
 ·rename_i n;rw[if_neg λ m=>n (h a m)];exact e
theorem q0m (os:List (List Addr)) (O:List Addr):(os++[O]).flatten=os.flatten++O:=by simp
theorem qGA:Ext (fz (os++[O0]).flatten H) (fz O0 H):=q4n λ a h=>by rw[q0m];exact List.mem_append_right _ h
theorem q0q {O as:List Addr}(h:i<os.length):(os++[O]).set i as=os.set i as++[O]:=by rw[List.set_append,if_pos h]
theorem Bd.setV {p:Pm}{d:D}{v:V}(b:Bd p H0 O0 ρ σ os H) (hi:i < ρ.length) (h:Rep p (fz (os++[O0]).flatten H) d v) :
  Bd p H0 O0 (ρ.set i (some (.val d))) (σ.set i (some v)) (os.set i []) H:=by
 have sub:∀a∈(os.set i []++[O0]).flatten,a∈(os++[O0]).flatten:=λ a ha=>by rw[<-q0q (by rw[b.len];exact hi)] at ha;exact (q0K ha).elim id λ z=>absurd z (by simp)
 have y:Ext (fz (os++[O0]).flatten H) (fz (os.set i []++[O0]).flatten H):=q4n sub;refine⟨⟨?_,λ a ha=>b.rel.there a (sub a ha),?_⟩,by simp[b.len],by simp[b.slen],b.ext,λ a ha=>?_⟩
 ·rw[<-q0q (by rw[b.len];exact hi)];exact q0z List.nodup_nil b.rel.nd λ a ha=>absurd ha (by simp)
 ·have:=q3N (x:=some (.val d)) (y:=some v) (as:=[]) (show q3J p H (fz (os.set i []++[O0]).flatten H) _ _ _ from⟨rfl,v,rfl,h.mono y⟩) i (q1h (Ext.refl H) y b.rel.slots)
  rwa [q0q (by rw[b.len];exact hi)] at this
 ·exact (q0K ha).elim (b.new a) λ z=>absurd z (by simp)
theorem Bd.setN {p:Pm}{y:Option V}(b:Bd p H0 O0 ρ σ os H) (hi:i < ρ.length) :
  Bd p H0 O0 (ρ.set i none) (σ.set i y) (os.set i []) H:=by
 have sub:∀a∈(os.set i []++[O0]).flatten,a∈(os++[O0]).flatten:=λ a ha=>by rw[<-q0q (by rw[b.len];exact hi)] at ha;exact (q0K ha).elim id λ z=>absurd z (by simp)
 have z:Ext (fz (os++[O0]).flatten H) (fz (os.set i []++[O0]).flatten H):=q4n sub;refine⟨⟨?_,λ a ha=>b.rel.there a (sub a ha),?_⟩,by simp[b.len],by simp[b.slen],b.ext,λ a ha=>?_⟩
 ·rw[<-q0q (by rw[b.len];exact hi)];exact q0z List.nodup_nil b.rel.nd λ a ha=>absurd ha (by simp)
 ·have:=q3N (x:=none) (y:=y) (as:=[]) (show q3J p H (fz (os.set i []++[O0]).flatten H) _ _ _ from rfl) i (q1h (Ext.refl H) z b.rel.slots)
  rwa [q0q (by rw[b.len];exact hi)] at this
 ·exact (q0K ha).elim (b.new a) λ z=>absurd z (by simp)
theorem Bd.setO {p:Pm}{H1:Hp}{sl:Sl}{v:V}{as:List Addr}(b:Bd p H0 O0 ρ σ os H) (hi:i < ρ.length) (x:Ext H H1) (nd:as.Nodup) (na:∀a∈as,H a=none)
  (th:∀a∈as,∃o,H1 a=some o) (h:q3J p H1 (fz ((os++[O0]).flatten++as) H1) (some sl) (some v) as) :
  Bd p H0 O0 (ρ.set i (some sl)) (σ.set i (some v)) (os.set i as) H1:=by
 have lt:i<os.length:=by rw[b.len];exact hi
 have sub:∀a∈(os.set i as++[O0]).flatten,a∈(os++[O0]).flatten++as:=λ a ha=>by rw[<-q0q lt] at ha;exact List.mem_append.mpr (q0K ha)
 have y:Ext (fz ((os++[O0]).flatten++as) H1) (fz (os.set i as++[O0]).flatten H1):=q4n sub;have z:Ext (fz (os++[O0]).flatten H) (fz ((os++[O0]).flatten++as) H1):=λ c o e=>by
  unfold fz at e |-;split at e
  ·cases e
  ·rename_i n;rw[if_neg λ m=>?_]
   ·exact x _ _ e
   ·rcases List.mem_append.mp m with m|m
    ·exact n m
    ·rw[na c m] at e;cases e
 have dis:∀a∈as,a∉(os++[O0]).flatten:=λ a ha hb=>by obtain⟨o,e⟩:=b.rel.there a hb;rw[na a ha] at e;cases e
 refine⟨⟨?_,λ a ha=>?_,?_⟩,by simp[b.len],by simp[b.slen],b.ext.trans x,λ a ha=>?_⟩
 ·rw[<-q0q lt];exact q0z nd b.rel.nd dis
 ·rcases List.mem_append.mp (sub a ha) with m|m
  ·obtain⟨o,e⟩:=b.rel.there a m;exact⟨o,x _ _ e⟩
  ·exact th a m
 ·have:=q3N (q6B (Ext.refl H1) y h) i (q1h x (z.trans y) b.rel.slots)
  rwa [q0q lt] at this
 ·rcases q0K ha with m|m
  ·exact b.new a m
  ·cases e:H0 a with
   |none=>rfl
   |some o=>have:=b.ext a o e;rw[na a m] at this;cases this
def FlR (p:Pm) (Hf:Hp):F->Flow->Prop
 | .nx,.next=>True
 | .brk,.brk=>True
 | .cont,.cont=>True
 | .ret d,.ret u=>∃v,RelV v u/\Rep p Hf d v
 |_,_=>False
section
variable {X:Cx}{p:Pm}{G:Nat->List D->R D}{sub:Nat->Nat->Bool}
def Es (X:Cx) (p:Pm) (H0:Hp) (O0:List Addr) (pins:List (Addr×Obj)) (r:RS) (e:Value) (s':Shared):Prop :=
 ∃c ρ' σ' os' H',r = .err c ρ'/\Bd p H0 O0 ρ' σ' os' H'/\Mid X p pins σ' H' c e s'
def Gs (X:Cx) (p:Pm) (H0:Hp) (O0:List Addr) (pins:List (Addr×Obj)) (r:RS) (f:Flow) (s':Shared):Prop :=
 ∃ρ' fl σ' os' H',r = .ok ρ' fl/\Bd p H0 O0 ρ' σ' os' H'/\Inv X pins σ' H' s'/\FlR p (fz O0 H') fl f
def SS (X:Cx) (p:Pm) (G:Nat->List D->R D) (sub:Nat->Nat->Bool) (st:Stmt) (l:S):Prop :=
 ∀(H0:Hp) (O0:List Addr) (E:Value->Shared->Prop),PassesOwn (model X.prog X.w) X.A X.env E->∀(pins:List (Addr×Obj)) (s:Shared) (σ:L2.St) (H:Hp) (ρ:Ev.Env) (os:List (List Addr)),Inv X pins σ H s->Bd p H0 O0 ρ σ os H->
  ex G sub l ρ ≠ .stuck->(∀e s',Es X p H0 O0 pins (ex G sub l ρ) e s'->E e s')->wpAny (model X.prog X.w) X.A (exec st X.env) (Gs X p H0 O0 pins (ex G sub l ρ)) E s
def SSs (X:Cx) (p:Pm) (G:Nat->List D->R D) (sub:Nat->Nat->Bool) (st:List Stmt) (l:List S):Prop :=
 ∀(H0:Hp) (O0:List Addr) (E:Value->Shared->Prop),PassesOwn (model X.prog X.w) X.A X.env E->∀(pins:List (Addr×Obj)) (s:Shared) (σ:L2.St) (H:Hp) (ρ:Ev.Env) (os:List (List Addr)),Inv X pins σ H s->Bd p H0 O0 ρ σ os H->
  exs G sub l ρ ≠ .stuck->(∀e s',Es X p H0 O0 pins (exs G sub l ρ) e s'->E e s')->wpAny (model X.prog X.w) X.A (execs st X.env) (Gs X p H0 O0 pins (exs G sub l ρ)) E s
theorem q2j {α:Type}{r:R α}{f:α->RS}(h:r.go ρ f ≠ .stuck):r ≠ .stuck:=λ e=>h (by rw[e];rfl)
theorem q3O {α:Type}{r:R α}{f:α->RS}{e:Value}{s':Shared}(B:Bd p H0 O0 ρ σ os H) (h:Er X p pins σ H r e s'):Es X p H0 O0 pins (r.go ρ f) e s':=by obtain⟨c,e1,m⟩:=h;exact⟨c,ρ,σ,os,H,by rw[e1];rfl,B,m⟩
theorem qGB:SSs X p G sub [] []:=λ H0 O0 E _ pins s σ H ρ os I B _ _=>wpAny_execs_nil ⟨ρ,.nx,σ,os,H,rfl,B,I,trivial⟩
theorem qDf {st:Stmt}{sts:List Stmt}{l:S}{ls:List S}(h1:SS X p G sub st l) (h2:SSs X p G sub sts ls):SSs X p G sub (st::sts) (l::ls):=by
 intro H0 O0 E hp pins s σ H ρ os I B hs hE;have e0:exs G sub (l::ls) ρ=(ex G sub l ρ).nx λ ρ'=>exs G sub ls ρ':=rfl;rw[e0] at hs hE |-;have ns:ex G sub l ρ ≠ .stuck:=λ e=>hs (by rw[e];rfl);refine wpAny_execs_cons (thn (h1 H0 O0 E hp pins s σ H ρ os I B ns (λ e s' ⟨c,ρ',σ',os',H',e1,B1,m⟩=>hE e s' ⟨c,ρ',σ',os',H',by rw[e1];rfl,B1,m⟩)) λ f s1 q=>?_);obtain⟨ρ1,fl,σ1,os1,H1,e1,B1,I1,r1⟩:=q;rw[e1] at hs hE |-;cases fl<;>cases f<;>first|exact r1.elim|skip
 ·exact h2 H0 O0 E hp pins s1 σ1 H1 ρ1 os1 I1 B1 hs hE
 ·exact⟨_,_,σ1,os1,H1,rfl,B1,I1,r1⟩
 ·exact⟨_,_,σ1,os1,H1,rfl,B1,I1,r1⟩
 ·exact⟨_,_,σ1,os1,H1,rfl,B1,I1,r1⟩
theorem qGC:SS X p G sub (.Pass pos) .pass:=λ H0 O0 E _ pins s σ H ρ os I B _ _=>wpAny_Pass ⟨ρ,.nx,σ,os,H,rfl,B,I,trivial⟩
theorem qIp:SS X p G sub (.Break pos) .brk:=λ H0 O0 E _ pins s σ H ρ os I B _ _=>wpAny_Break ⟨ρ,.brk,σ,os,H,rfl,B,I,trivial⟩
theorem qGD:SS X p G sub (.Continue pos) .cont:=λ H0 O0 E _ pins s σ H ρ os I B _ _=>wpAny_Continue ⟨ρ,.cont,σ,os,H,rfl,B,I,trivial⟩
theorem qIq {x:Str}{j:Nat}{pos':Pos}:SS X p G sub (.Expr (.Constant (.str x) j pos) pos') .pass:=λ H0 O0 E _ pins s σ H ρ os I B _ _ =>
 wpAny_Expr (Calls.Constant_str (show Gs X p H0 O0 pins _ .next {s with toks:=s.toks+1} from⟨ρ,.nx,σ,os,H,rfl,B,I.tok _,trivial⟩)) I.quiet
theorem qGE (he:SE X p G sub e l) (hsw:swapsWith e none pos.line X.env=pure false):SS X p G sub (.Expr e pos) (.expr l):=by intro H0 O0 E hp pins s σ H ρ os I B hs hE;have e0:ex G sub (.expr l) ρ=(ev G sub l ρ).go ρ λ _=> .ok ρ .nx:=rfl;rw[e0] at hs hE |-;refine wpAny_Expr_any (wpAny_mono (he pins s σ H ρ _ I B.rel (q2j hs)) (λ v s1 ⟨d,x,H1,e1,I1,r1,x1,q1⟩=>?_) (λ e s' z=>hE e s' (q3O B z))) I.quiet hsw;rw[e1];exact⟨ρ,.nx,σ,os,H1,rfl,B.mono x1,I1,trivial⟩
theorem qIr (he:SE X p G sub e l):SS X p G sub (.Return (some e) pos) (.ret l):=by intro H0 O0 E hp pins s σ H ρ os I B hs hE;have e0:ex G sub (.ret l) ρ=(ev G sub l ρ).go ρ λ d=> .ok ρ (.ret d):=rfl;rw[e0] at hs hE |-;refine wpAny_Return_some (wpAny_mono (he pins s σ H ρ _ I B.rel (q2j hs)) (λ v s1 ⟨d,x,H1,e1,I1,r1,x1,q1⟩=>?_) (λ e s' z=>hE e s' (q3O B z)));rw[e1];exact⟨ρ,.ret d,σ,os,H1,rfl,B.mono x1,I1,x,r1,q1.mono qGA⟩
theorem qGF:SS X p G sub (.Return none pos) .retN:=λ H0 O0 E _ pins s σ H ρ os I B _ _=>wpAny_Return_none ⟨ρ,.ret .non,σ,os,H,rfl,B,I,.non,rfl,rfl⟩
theorem qIs {c:PySem.Expr}{a b:List Stmt}{lc:T}{la lb:List S}(hc:ST X p G sub c lc) (ha:SSs X p G sub a la) (hb:SSs X p G sub b lb):SS X p G sub (.If c a b pos) (.ifs lc la lb):=by
 intro H0 O0 E hp pins s σ H ρ os I B hs hE;have e0:ex G sub (.ifs lc la lb) ρ=(tst G sub lc ρ).go ρ λ t=>if t then exs G sub la ρ else exs G sub lb ρ:=rfl
 rw[e0] at hs hE |-;refine wpAny_If (wpAny_mono (hc _ pins s σ H ρ _ (.inl rfl) I B.rel (q2j hs)) (λ t s1 ⟨H1,e1,I1,x1⟩=>?_) (λ e s' z=>hE e s' (q3O B z)));rw[e1,q05] at hs hE |-;cases t with
 |true=>exact ha H0 O0 E hp pins s1 σ H1 ρ os I1 (B.mono x1) hs hE
 |false=>exact hb H0 O0 E hp pins s1 σ H1 ρ os I1 (B.mono x1) hs hE
theorem qIt {x:Str}{pos':Pos}(hN:X.N.Nodup) (hi:X.N[i]? = some x) (hx:Loc X.env.scope x) (hf:X.fn x=true\/X.env.scope.names.lookup x=some .local) (he:SE X p G sub e l)
  (hsw:swapsWith e (some (.Name x pos')) pos.line X.env=pure false):SS X p G sub (.Assign [.Name x pos'] e pos) (.set i l):=by
 intro H0 O0 E hp pins s σ H ρ os I B hs hE;have e0:ex G sub (.set i l) ρ=(ev G sub l ρ).go ρ λ d=> .ok (ρ.set i (some (.val d))) .nx:=rfl;rw[e0] at hs hE |-;refine wpAny_Assign_Name (wpAny_mono (he pins s σ H ρ _ I B.rel (q2j hs)) (λ v s1 ⟨d,y,H1,e1,I1,r1,x1,q1⟩=>?_) (λ e s' z=>hE e s' (q3O B z))) hsw;rw[e1];have lt:i < ρ.length:=by rw[<-B.slen,I.len];exact (List.getElem?_eq_some_iff.mp hi).1
 exact q13 I1 hN hi hx r1 (λ s2 I2=>⟨_,.nx,_,_,H1,rfl,(B.mono x1).setV lt q1,I2,trivial⟩) hf
theorem BOk.qDg {pl:List (Addr×Obj)}{B:Heap}(b:BOk X (pins++pl) H B):BOk X pins H B :=
 ⟨b.hok,b.keep,b.there,λ q hq=>b.pin q ((List.mem_append.mp hq).elim (λ z=>List.mem_append_left _ z) λ z=>List.mem_append_right _ (List.mem_append_left _ z))⟩
theorem Mid.qDg {pl:List (Addr×Obj)}{c:Nat}{e:Value}{s':Shared}(m:Mid X p (pins++pl) σ H c e s'):Mid X p pins σ H c e s':=by
 obtain⟨H',a,C,h1,h2,h3,h4⟩:=m;refine⟨H',a,C,h1,h2,h3,?_⟩;rcases h4 with ⟨s1,vs,q1,q2⟩|⟨B,t,q1,q2,q3⟩|⟨B,t,L,q0,q1,q2,q3⟩
 ·exact .inl ⟨s1,vs,q1.q1E,q2⟩
 ·exact .inr (.inl ⟨B,t,q1.q1E,q2.qDg,q3⟩)
 ·exact .inr (.inr ⟨B,t,L,q0,q1.q1E,q2.qDg,q3⟩)
theorem qIu {c:PySem.Expr}{body:List Stmt}{lc:T}{lb:List S}(hc:ST X p G sub c lc) (hb:SSs X p G sub body lb):SS X p G sub (.While c body [] pos) (.whl lc lb):=by
 intro H0 O0 E hp pins s σ H ρ os I B hs hE;have e0:ex G sub (.whl lc lb) ρ=q1L (tst G sub lc) (exs G sub lb) 100000 ρ:=rfl;rw[e0] at hs hE |-;generalize hr:q1L (tst G sub lc) (exs G sub lb) 100000 ρ=r at hs hE |-;refine wpAny_While (codeAny_whileLoop (λ n s'=>∃ρ' σ' os' H',Inv X pins σ' H' s'/\Bd p H0 O0 ρ' σ' os' H'/\q1L (tst G sub lc) (exs G sub lb) n ρ'=r) ?_ 100000 ⟨ρ,σ,os,H,I,B,hr⟩);rintro n s1 ⟨ρ1,σ1,os1,H1,I1,B1,w1⟩;cases n with
 |zero=>exact absurd w1.symm hs
 |succ n =>
  have w2:q1L (tst G sub lc) (exs G sub lb) (n+1) ρ1=(tst G sub lc ρ1).go ρ1 λ t=>if t then (exs G sub lb ρ1).turn λ ρ'=>q1L (tst G sub lc) (exs G sub lb) n ρ' else .ok ρ1 .nx:=rfl
  rw[w2] at w1;have ns:tst G sub lc ρ1 ≠ .stuck:=λ e=>hs (by rw[<-w1,e];rfl);refine wpAny_passesOwn hp (wpAny_mono (hc _ pins s1 σ1 H1 ρ1 _ (.inl rfl) I1 B1.rel ns) (λ t s2 ⟨H2,e2,I2,x2⟩=>?_) (λ e s' z=>hE e s' (by rw[<-w1];exact q3O B1 z)));rw[e2,q05] at w1;cases t with
  |true =>
   rw[if_pos rfl] at w1 |-;have ns:exs G sub lb ρ1 ≠ .stuck:=λ e=>hs (by rw[<-w1,e];rfl);refine wpAny_passesOwn hp (thn (hb H0 O0 E hp pins s2 σ1 H2 ρ1 os1 I2 (B1.mono x2) ns (λ e s' ⟨c,ρ',σ',os',H',e1,B1,m⟩=>hE e s' ⟨c,ρ',σ',os',H',by rw[<-w1,e1];rfl,B1,m⟩)) λ f s3 q3=>?_);obtain⟨ρ3,fl,σ3,os3,H3,e3,B3,I3,r3⟩:=q3;rw[e3] at w1;cases fl<;>cases f<;>first|exact r3.elim|skip
   ·exact⟨n,Nat.lt_succ_self _,ρ3,σ3,os3,H3,I3,B3,w1⟩
   ·exact⟨ρ3,.nx,σ3,os3,H3,w1.symm,B3,I3,trivial⟩
   ·exact⟨n,Nat.lt_succ_self _,ρ3,σ3,os3,H3,I3,B3,w1⟩
   ·exact⟨ρ3,_,σ3,os3,H3,w1.symm,B3,I3,r3⟩
  |false =>
   rw[if_neg Bool.false_ne_true] at w1 |-;exact wpAny_execs_nil ⟨ρ1,.nx,σ1,os1,H2,w1.symm,B1.mono x2,I2,trivial⟩
end
end Snd
namespace Snd
open PySem PySem.Spec PyProof.Rows L2 Ev
variable {Hf H H0:Hp}{vs:List V}{K:PySem.W.Frag}{d:Addr}{o:Obj}{kvs:List (Key×V)}{P:Program}{w:World}{u:Value}{i:Nat}{tg:PySem.Expr}{E:Value->Shared->Prop}{pins:List (Addr×Obj)}{s:Shared}{σ:L2.St}{os:List (List Addr)}{v:V}{l:L}{pos:Pos}{O0:List Addr}{ρ:Ev.Env}
structure Wk (J:It) (Hf:Hp) (vs:List V):Prop where
 go:∀i H',Ext Hf H'->i<vs.length->J.go i H'
 yld:∀i H' x H'',Ext Hf H'->i<vs.length->J.yld i H' x H''->H''=H'/\vs[i]? = some x
 stop:∀H',Ext Hf H'->J.stop vs.length H'
theorem Wk.mono {J:It}{Hf':Hp}(k:Wk J Hf vs) (x:Ext Hf Hf'):Wk J Hf' vs :=
 ⟨λ i H' y=>k.go i H' (x.trans y),λ i H' v H'' y=>k.yld i H' v H'' (x.trans y),λ H' y=>k.stop H' (x.trans y)⟩
theorem qGG {a:Addr}(h:SqL K Hf a vs):Wk (Itl K a) Hf vs :=
 ⟨λ i H' x hi=>⟨vs,vs[i],x.sqL h,by simp[hi]⟩,λ i H' v H'' x _ y=>⟨y.1,y.2 vs (x.sqL h)⟩,λ H' x=>⟨vs,x.sqL h,Nat.le_refl _⟩⟩
theorem qIv {a:Addr}(h:SqT K Hf a vs):Wk (Itt K a) Hf vs :=
 ⟨λ i H' x hi=>⟨vs,vs[i],x.sqT h,by simp[hi]⟩,λ i H' v H'' x _ y=>⟨y.1,y.2 vs (x.sqT h)⟩,λ H' x=>⟨vs,x.sqT h,Nat.le_refl _⟩⟩
theorem qF3 (lo:Int) (n:Nat):Wk (Itr lo n) Hf ((List.range n).map λ (k:Nat)=>V.int (lo+k)):=by
 refine⟨λ i H' _ hi=>?_,λ i H' v H'' _ hi y=>⟨y.1,?_⟩,λ H' _=>?_⟩
 ·show i<n;simpa using hi
 ·have hi':i<n:=by simpa using hi
  rw[y.2];simp[hi']
 ·show n<=_;simp
def Itd (d:Addr) (o:Obj) (kvs:List (Key×V)):It :=
 ⟨λ i H=>H d=some (.frz o (.dK kvs))/\i<kvs.length,λ i H x H'=>H'=H/\∃q,kvs[i]? = some q/\x=kV q.1,λ i H=>H d=some (.frz o (.dK kvs))/\kvs.length<=i⟩
theorem qGH (h:Hf d=some (.frz o (.dK kvs))):Wk (Itd d o kvs) Hf (kvs.map λ q=>kV q.1):=by refine⟨λ i H' x hi=>⟨x _ _ h,by simpa using hi⟩,λ i H' v H'' x _ y=>⟨y.1,?_⟩,λ H' x=>⟨x _ _ h,by simp⟩⟩;obtain⟨q,e1,e2⟩:=y.2;rw[List.getElem?_map,e1,e2];rfl
theorem qIw {k:Key}(h:(q0f P w).is k u=true):RelV (kV k) u:=by
 rcases q0U h with ⟨i,t,rfl,rfl⟩|⟨x,t,rfl,rfl⟩
 ·exact⟨t,rfl⟩
 ·exact⟨t,rfl⟩
theorem q6C {h:Heap}(ok:HOk P w H h) (e:H d=some (.frz o (.dK kvs))) :
  kvs.length<=sizeLine/\(d==sysModules)=false/\∃vs es ep,KV kvs vs/\o.data = .dict es ep/\h.DictAt (q0f P w) d vs ep:=by
 obtain⟨h1,z,hd,vs,rel,o',es,ep,h2,h3,h4,h5,h6,h7⟩:=ok d _ e;rw[h1] at h2;cases h2;exact⟨z,hd,vs,es,ep,rel,h4,o,es,h1,h3,h4,h5,h6,h7⟩
theorem KV.key {vs:List (Key×Value)}(r:KV kvs vs) {q:Key×V}(e:kvs[i]? = some q):∃u,vs[i]? = some (q.1,u):=by
 induction r generalizing i with
 |nil=>simp at e
 |@cons p p' ps ps' h t ih =>
  cases i with
  |zero=>simp at e;subst e;exact⟨p'.2,by simp[h.1]⟩
  |succ i=>simpa using ih (by simpa using e)
theorem qBe {tg:Expr}{it:Addr}{es:Array DictEntry}{ep:Nat}(hd:o.data = .dict es ep) :
  Turn P w K tg (Itd d o kvs) [it] it (λ i h=>h.IsKeyIter it d i kvs.length ep) where
 mem:=by simp
 obj:=λ i h st b hb=>by
  have e:b=it:=by simpa using hb
  subst e;obtain⟨o,e,c,d⟩:=st;exact⟨o,e,λ v z=>by rw[d] at z;cases z⟩
 keep:=λ i h h' st k=>st.at λ o e=>k it (by simp) o e
 item:=by intro X hP hw hK hc i pins s σ H E I hf st hg;subst hP hw hK;obtain⟨hq,hi⟩:=hg;obtain⟨z,hd',vs,es',ep',rel,dd,hm⟩:=q6C I.hok hq;rw[hd] at dd;cases dd;have hl:=KV.length rel;obtain⟨u,hu⟩:=KV.key rel (i:=i) (q:=kvs[i]) (by simp[hi]);obtain⟨f0,f1,f2,f3,f4,f5⟩:=hf it (by simp);refine wpAny_pyNext_dict_item (hl▸st) hm hu λ key h' hkey st' sb=>?_;have I1:Inv X pins σ H {s with heap:=h'}:=I.turned (t':=s.toks) (λ b o hb e=>(sb.2 b hb).trans e) f0 f1 f3 f4 f5;obtain⟨o1,e,c,d1⟩:=id st';exact⟨key,rfl,qD9 (s:={s with heap:=h'}) e c d1 (by decide) ⟨kV (kvs[i]).1,H,I1,qIw hkey,⟨rfl,_,by simp[hi],rfl⟩,hl▸st',λ b hb=>(hf b hb).1⟩⟩
 done:=by intro X hP hw hK hc i pins s σ H E I hf st hg;subst hP hw hK;obtain⟨hq,hi⟩:=hg;obtain⟨z,hd',vs,es',ep',rel,dd,hm⟩:=q6C I.hok hq;rw[hd] at dd;cases dd;have hl:=KV.length rel;obtain⟨f0,f1,f2,f3,f4,f5⟩:=hf it (by simp);exact wpAny_pyNext_dict_end (I.ok.hd hc) (hl▸st) hm (by rw[List.getElem?_eq_none_iff];lia) λ h' eb=>⟨rfl,I.turned (t':=s.toks) (λ b o hb e=>eb b o hb e) f0 f1 f3 f4 f5⟩
 self:=λ _ _ _ _ _ st h=>wpAny_pyIter_keyiter st h
def Gi (X:Cx) (p:Pm) (fr:Bool) (tg:Expr) (pins:List (Addr×Obj)) (σ:L2.St) (os:List (List Addr)) (H:Hp) (r:R (List D)) (itv:Value) (s2:Shared):Prop :=
 ∃ds,r = .ok ds/\PIE X pins σ tg (λ J H'=>Ext H H'/\∃vs,RepL p (fz os.flatten H') ds vs/\Wk J (if fr then fz os.flatten H' else H') vs) itv s2
def SI (X:Cx) (p:Pm) (G:Nat->List D->R D) (sub:Nat->Nat->Bool) (fr:Bool) (tg e:PySem.Expr) (l:I):Prop :=
 ∀(pins:List (Addr×Obj)) (s:Shared) (σ:L2.St) (H:Hp) (ρ:Ev.Env) (os:List (List Addr)),Inv X pins σ H s->Rel p ρ σ os H->evi G sub l ρ ≠ .stuck->
  wpAny (model X.prog X.w) X.A (eval e X.env) (λ v s1=>wpAny (model X.prog X.w) X.A (pyIter v) (Gi X p fr tg pins σ os H (evi G sub l ρ)) (Er X p pins σ H (evi G sub l ρ)) s1) (Er X p pins σ H (evi G sub l ρ)) s
section
variable {X:Cx}{p:Pm}{G:Nat->List D->R D}{sub:Nat->Nat->Bool}
theorem q6D {Hf:Hp}:∀{kvs:List (Key×V)},(ints? (kvs.map λ q=>keyD q.1)).isSome=true->RepL p Hf (kvs.map λ q=>keyD q.1) (kvs.map λ q=>kV q.1)
 |[],_=>rfl
 |(.inl i,v)::r,h=>by refine⟨.int i,_,rfl,rfl,q6D ?_⟩;have h':((ints? (r.map λ q=>keyD q.1)).map (i::·)).isSome=true:=h;simpa using h'
 |(.inr x,v)::r,h=>by simp[keyD,ints?] at h
theorem q9M {fr:Bool}{tg:Expr}(hK:p.K=X.K) {xs:List D}(I:Inv X pins σ H s) (x0:Ext H0 H) (rv:RelV v u)
  (q:Rep p (fz os.flatten H) (.tup xs) v):wpAny (model X.prog X.w) X.A (pyIter u) (Gi X p fr tg pins σ os H0 (.ok xs)) E s:=by
 obtain⟨a,vs,rfl,s1,z,r1⟩:=q;cases rv;have s1':SqT X.K H a vs:=hK▸q0b.sqT s1;obtain⟨its,rv,pt,hz⟩:=I.tuple s1';refine wpAny_pyIter_tuple (show s.heap.IsTuple a its.toArray from pt) ?_;refine⟨xs,rfl,s.heap.objs.size,[s.heap.objs.size],_,_,H,rfl,I.kept (t':=s.toks) λ b o e=>Heap.get?_push_of_some _ e,qAA a _,⟨_,Heap.get?_push_size _ rfl,rfl,rfl⟩,λ b hb=>?_,x0,vs,r1,?_⟩
 ·have e:b=s.heap.objs.size:=by simpa using hb
  subst e;exact I.fpOk (Nat.le_refl _) (I.hok.fresh (Nat.le_refl _))
 ·have:=qIv (hK▸s1:SqT X.K (fz os.flatten H) a vs);cases fr
  ·exact this.mono q0b
  ·exact this
theorem q9N {fr:Bool}{tg:Expr}(hK:p.K=X.K) {xs:List D}(I:Inv X pins σ H s) (x0:Ext H0 H) (rv:RelV v u)
  (q:∃a vs,v = .ref a/\SqL p.K (if fr then fz os.flatten H else H) a vs/\RepL p (fz os.flatten H) xs vs):wpAny (model X.prog X.w) X.A (pyIter u) (Gi X p fr tg pins σ os H0 (.ok xs)) E s:=by
 obtain⟨a,vs,rfl,s1,r1⟩:=q;cases rv;have s1':SqL X.K H a vs:=by
  cases fr
  ·exact hK▸s1
  ·exact hK▸q0b.sqL s1
 obtain⟨its,rv,pt,hz⟩:=I.list s1';refine wpAny_pyIter_list pt.isList ?_;refine⟨xs,rfl,s.heap.objs.size,[s.heap.objs.size],_,_,H,rfl,I.kept (t':=s.toks) λ b o e=>Heap.get?_push_of_some _ e,qAq a _,⟨_,Heap.get?_push_size _ rfl,rfl,rfl⟩,λ b hb=>?_,x0,vs,r1,?_⟩
 ·have e:b=s.heap.objs.size:=by simpa using hb
  subst e;exact I.fpOk (Nat.le_refl _) (I.hok.fresh (Nat.le_refl _))
 ·exact qGG (hK▸s1)
theorem qDh {tg:Expr}{ks ws:List D}(I:Inv X pins σ H s) (x0:Ext H0 H) (rv:RelV v u) (hki:(ints? ks).isSome=true)
  (q:Rep p (fz os.flatten H) (.dct ks ws) v):wpAny (model X.prog X.w) X.A (pyIter u) (Gi X p true tg pins σ os H0 (.ok ks)) E s:=by
 obtain⟨a,kvs,o,rfl,s1,rfl,r1⟩:=q;cases rv;obtain⟨z,hd,vs,es,ep,rel,dd,hm⟩:=q6C I.hok (q0b _ _ s1);refine wpAny_pyIter_dict hd hm ?_;have hl:=KV.length rel;refine⟨_,rfl,s.heap.objs.size,[s.heap.objs.size],_,Itd a o kvs,H,rfl,I.kept (t':=s.toks) λ b o e=>Heap.get?_push_of_some _ e,qBe dd,⟨_,Heap.get?_push_size _ rfl,rfl,by rw[hl];rfl⟩,λ b hb=>?_,x0,_,q6D hki,qGH s1⟩;have e:b=s.heap.objs.size:=by simpa using hb
 subst e;exact I.fpOk (Nat.le_refl _) (I.hok.fresh (Nat.le_refl _))
theorem si_e {e:PySem.Expr}(hK:p.K=X.K) (h:SE X p G sub e l):SI X p G sub true tg e (.e l):=by
 intro pins s σ H ρ os I R hs;rw[q8M] at hs |-;refine wpAny_mono (h pins s σ H ρ os I R (q0D hs)) (λ v s1 ⟨d,x,H1,e1,I1,r1,x1,q1⟩=>?_) (λ e s' z=>z.bind);rw[e1,q00] at hs |-;cases d<;>first
  |exact absurd rfl hs
  |skip
 ·exact q9M hK I1 x1 r1 q1
 ·exact q9N (fr:=true) hK I1 x1 r1 q1
 ·rename_i ks ws;cases hki:(ints? ks).isSome with
  |true =>
   have e0:q0L (.dct ks ws) = .ok ks:=(by simp[q0L,hki]);rw[e0];exact qDh I1 x1 r1 hki q1
  |false=>exact absurd (by simp[q0L,hki]) hs
theorem si_b {x:Str}(hK:p.K=X.K) (hN:X.N[i]? = some x) (hv:Vis X.env.scope x) (hd:(x==("__debug__":Str))=false) (hcd:(x==("__classdict__":Str))=false):SI X p G sub false tg (.Name x pos) (.b i):=by
 intro pins s σ H ρ os I R hs;rw[qKh] at hs |-;refine wpAny_mono (qF1 (G:=G) (sub:=sub) hN hv hd hcd pins s σ H ρ os I R (q0D hs)) (λ v s1 ⟨d,x,H1,e1,I1,r1,x1,q1⟩=>?_) (λ e s' z=>z.bind);rw[qEs] at e1;rw[e1,q00] at hs |-;cases d<;>first
  |exact absurd rfl hs
  |skip
 ·exact q9M hK I1 x1 r1 q1
 ·exact q9N (fr:=false) hK I1 x1 r1 q1
theorem q8U {Hf:Hp}(lo:Int):∀(l:List Nat),RepL p Hf (l.map λ (k:Nat)=>D.int (lo+k)) (l.map λ (k:Nat)=>V.int (lo+k))
 |[]=>rfl
 |k::l=>⟨_,_,rfl,rfl,q8U lo l⟩
theorem rng0 (n:Nat):(List.range n).map (λ (k:Nat)=>D.int k)=(List.range n).map (λ (k:Nat)=>D.int (0+k)):=by simp
theorem q6E {ρ:Ev.Env}:∀{ls:List L}{ds:List D},evs G sub ls ρ = .ok ds->ds.length=ls.length
 |[],ds,e=>by cases e;rfl
 |l::ls,ds,e=>by
  rw[q0J] at e;cases h:ev G sub l ρ with
  |ok d =>
   rw[h,q00] at e;cases h2:evs G sub ls ρ with
   |ok ds'=>rw[h2,q00] at e;cases e;simp[q6E h2]
   |err c=>rw[h2] at e;cases e
   |stuck=>rw[h2] at e;cases e
  |err c=>rw[h] at e;cases e
  |stuck=>rw[h] at e;cases e
theorem q4o {a:PySem.Expr}{q:Pos}(hg:Gl X "range") (hm:X.mg "range" = none) (ha:SA X p G sub [a] [l]) (hst:starEach [a] X.env=[(false,eval a X.env)]):SI X p G sub true tg (.Call (.Name "range" q) [a] [] pos) (.rng [l]):=by
 intro pins s σ H ρ os I R hs;rw[q0l] at hs |-;refine Call_ (q1p I hg hm boot_range (PyProof.Rows.callWith_type1 (wpAny_mono (ha pos pins s σ H ρ os I R (q0D hs)) (λ us s1 ⟨ds,vs,H1,e1,I1,r1,x1,q1⟩=>?_) (λ e s' z=>z.bind)) hst rfl));have hl:=q6E e1;rw[e1,q00] at hs |-;unfold rngD at hs |-;split at hs
 ·rename_i j;split at hs
  ·rename_i hj;obtain⟨v,r,rfl,h1,h2⟩:=q1;cases (show v=_ from h1);cases (show r=[] from h2);cases r1 with
   |cons ra rb =>
    cases rb;obtain⟨t,rfl⟩:=ra;rw[if_pos hj];refine call_range_1 (wpAny_mono (q90 (tg:=tg) (R:=λ J H'=>H'=H1/\J=Itr 0 j.toNat) (E:=λ _ _=>False) I1 (by lia) (by lia) hj.1 hj.2 ⟨rfl,by simp⟩) (λ itv s2 h=>?_) (λ _ _ z=>z.elim));obtain⟨it,fp,tn,J,H',e2,I2,T,st,f,rfl,rfl⟩:=h;refine⟨_,rfl,it,fp,tn,_,H',e2,I2,T,st,f,x1,_,?_,(qF3 0 j.toNat)⟩;rw[rng0];exact q8U 0 _
  ·exact absurd rfl hs
 ·simp at hl
 ·exact absurd rfl hs
theorem q7E {a b:PySem.Expr}{m:L}{q:Pos}(hg:Gl X "range") (hm:X.mg "range" = none) (ha:SA X p G sub [a,b] [l,m]) (hst:starEach [a,b] X.env=[(false,eval a X.env),(false,eval b X.env)]) (hs2:starEach [b] X.env=[(false,eval b X.env)]) :
  SI X p G sub true tg (.Call (.Name "range" q) [a,b] [] pos) (.rng [l,m]):=by
 intro pins s σ H ρ os I R hs;rw[q0l] at hs |-;refine Call_ (q1p I hg hm boot_range (PyProof.Rows.callWith_type1 (wpAny_mono (ha pos pins s σ H ρ os I R (q0D hs)) (λ us s1 ⟨ds,vs,H1,e1,I1,r1,x1,q1⟩=>?_) (λ e s' z=>z.bind)) (by rw[hst,hs2]) (by rw[hs2];rfl)));have hl:=q6E e1;rw[e1,q00] at hs |-;unfold rngD at hs |-;split at hs
 ·simp at hl
 ·rename_i i j;split at hs
  ·rename_i hj;obtain⟨v,r,rfl,h1,h2⟩:=q1;obtain⟨v2,r2,rfl,h3,h4⟩:=h2;cases (show v=_ from h1);cases (show v2=_ from h3);cases (show r2=[] from h4);cases r1 with
   |cons ra rb =>
    cases rb with
    |cons rc rd =>
    cases rd;obtain⟨t,rfl⟩:=ra;obtain⟨t',rfl⟩:=rc;rw[if_pos hj];refine call_range_2 (wpAny_mono (q90 (tg:=tg) (R:=λ J H'=>H'=H1/\J=Itr i (j-i).toNat) (E:=λ _ _=>False) I1 hj.1 hj.2.1 hj.2.2.1 hj.2.2.2 ⟨rfl,rfl⟩) (λ itv s2 h=>?_) (λ _ _ z=>z.elim));obtain⟨it,fp,tn,J,H',e2,I2,T,st,f,rfl,rfl⟩:=h;exact⟨_,rfl,it,fp,tn,_,H',e2,I2,T,st,f,x1,_,q8U i _,(qF3 i (j-i).toNat)⟩
  ·exact absurd rfl hs
 ·exact absurd rfl hs
def SG (X:Cx) (p:Pm) (tg:PySem.Expr) (k:Nat) (is:List Nat):Prop :=
 ∀(E:Value->Shared->Prop) (H0:Hp) (O0:List Addr) (pins:List (Addr×Obj)) (s:Shared) (σ:L2.St) (H:Hp) (ρ:Ev.Env) (os:List (List Addr)) (d:D) (xs:List D) (v:V) (u:Value),Inv X pins σ H s->Bd p H0 O0 ρ σ os H->RelV v u->
  Rep p (fz (os++[O0]).flatten H) d v->unp k d = .ok xs->wpAny (model X.prog X.w) X.A (assign tg X.env u) (λ _ s'=>∃σ' os',Inv X pins σ' H s'/\Bd p H0 O0 (q2n is xs ρ) σ' os' H) E s
theorem qGI {x:Str}(hN:X.N.Nodup) (hi:X.N[i]? = some x) (hx:Loc X.env.scope x) (hf:X.fn x=true\/X.env.scope.names.lookup x=some .local):SG X p (.Name x pos) 0 [i]:=by
 intro E H0 O0 pins s σ H ρ os d xs v u I B rv q e;cases e;have lt:i < ρ.length:=by rw[<-B.slen,I.len];exact (List.getElem?_eq_some_iff.mp hi).1
 exact wpAny_assign_Name (q13 I hN hi hx rv (λ s2 I2=>⟨_,_,I2,B.setV lt q⟩) hf)
theorem Bd.refr (b:Bd p H0 O0 ρ σ os H):Bd p (fz os.flatten H) O0 ρ σ os H/\Ext H0 (fz os.flatten H) :=
 ⟨⟨b.rel,b.len,b.slen,q0b,λ a ha=>by unfold fz;rw[if_pos ha]⟩,λ a o e=>q1z (b.ext a o e) λ m=>by rw[b.new a m] at e;cases e⟩
theorem Bd.back {H0':Hp}(b:Bd p H0' O0 ρ σ os H) (x:Ext H0 H0'):Bd p H0 O0 ρ σ os H :=
 ⟨b.rel,b.len,b.slen,x.trans b.ext,λ a ha=>by
  cases e:H0 a with
  |none=>rfl
  |some o=>have:=x a o e;rw[b.new a ha] at this;cases this⟩
theorem Bd.kept {os2:List (List Addr)}{H2:Hp}(b:Bd p (fz os2.flatten H2) O0 ρ σ os H):Ext (fz (os2++[O0]).flatten H2) (fz (os++[O0]).flatten H):=λ a o e=>by
 unfold fz at e;split at e
 ·cases e
 ·rename_i n;rw[q0m] at n;have e':fz os2.flatten H2 a=some o:=q1z e λ m=>n (List.mem_append_left _ m);refine q1z (b.ext a o e') λ m=>?_;rw[q0m] at m;rcases List.mem_append.mp m with m|m
  ·rw[b.new a m] at e';cases e'
  ·exact n (List.mem_append_right _ m)
theorem qGJ (k:Nat) (d:D):unp k d = .stuck\/∃xs,unp k d = .ok xs:=by
 unfold unp;split
 ·exact .inr ⟨_,rfl⟩
 ·split
  ·split
   ·exact .inr ⟨_,rfl⟩
   ·exact .inl rfl
  ·exact .inl rfl
theorem qIx {iter:PySem.Expr}{body:List Stmt}{k:Nat}{is:List Nat}{li:I}{lb:List S}(hc:X.calm=true) (hi:SI X p G sub true tg iter li) (hg:SG X p tg k is) (hb:SSs X p G sub body lb) (hfs:∀x,foldedSetIterable iter X.env x=pure x) :
  SS X p G sub (.For tg iter body [] pos) (.forr k is li lb):=by
 intro H0 O0 E hp pins s σ H ρ os I B hs hE;have e0:ex G sub (.forr k is li lb) ρ=(evi G sub li ρ).go ρ λ ds=>q0k (exs G sub lb) k is ds ρ:=rfl;rw[e0] at hs hE |-;refine wpAny_For (wpAny_mono (hi pins s σ H ρ _ I B.rel (q2j hs)) (λ v s1 h1=>wpAny_mono h1 (λ itv s2 h2=>?_) (λ e s' z=>hE e s' (q3O B z))) (λ e s' z=>hE e s' (q3O B z))) hfs;obtain⟨ds,e1,it,fp,tn,J,H2,rfl,I2,T,st2,f2,x2,vs,rep,wk⟩:=h2;rw[e1,q05] at hs hE |-;rw[if_pos rfl] at wk;have B2:=B.mono x2;obtain⟨B2',x02⟩:=B2.refr;have hlen:ds.length=vs.length:=rep.length;generalize hr:q0k (exs G sub lb) k is ds ρ=r at hs hE |-;have stat:∀{H':Hp},(∀b∈fp,H' b=none)->∀b∈fp,FpOk X pins H' b:=λ hn b hb=>⟨hn b hb,(f2 b hb).2⟩
 refine codeAny_forLoop_any (λ n s'=>∃i ρ' σ' os' H',Inv X pins σ' H' s'/\tn i s'.heap/\(∀b∈fp,H' b=none)/\Bd p (fz os.flatten H2) O0 ρ' σ' os' H'/\q0k (exs G sub lb) k is (ds.drop i) ρ'=r/\n=ds.length-i/\i<=ds.length) ?_ ds.length
  ⟨0,ρ,σ,os,H2,I2,st2,λ b hb=>(f2 b hb).1,B2',by simpa using hr,by simp,Nat.zero_le _⟩
 rintro n s3 ⟨i,ρ3,σ3,os3,H3,I3,st3,fr3,B3,w3,rfl,hi3⟩;have xw:Ext (fz (os++[O0]).flatten H2) H3:=B3.kept.trans q0b
 by_cases hlt:i<ds.length
 ·have hd:ds.drop i=ds[i]::ds.drop (i+1):=List.drop_eq_getElem_cons hlt;rw[hd] at w3;have w3':(unp k ds[i]).go ρ3 (λ xs=>(exs G sub lb (q2n is xs ρ3)).turn λ ρ'=>q0k (exs G sub lb) k is (ds.drop (i+1)) ρ')=r:=w3;rcases qGJ k ds[i] with hu|⟨xs,hu⟩
  ·rw[hu] at w3';exact absurd w3'.symm hs
  rw[hu,q05] at w3';refine wpAny_passesOwn hp (wpAny_mono (T.item X rfl rfl rfl hc i pins s3 σ3 H3 E I3 (stat fr3) st3 (wk.go i H3 xw (hlen▸hlt))) (λ r4 s4 ⟨u,hr4,h4⟩=>?_) (λ _ _ z=>z));subst hr4;refine wpAny_passesOwn hp (wpAny_mono h4 (λ _ s5 ⟨x,H5,I5,r5,y5,st5,fr5⟩=>?_) (λ _ _ z=>z));obtain⟨rfl,hx⟩:=wk.yld i H3 x H5 xw (hlen▸hlt) y5;obtain⟨v',hv',rv'⟩:=rep.get (i:=i) (d:=ds[i]) (by simp[hlt]);rw[hx] at hv';cases hv';have I5':=I5.pinned (stat fr5) (T.obj _ _ st5);refine wpAny_passesOwn hp (wpAny_mono (hg E _ O0 _ s5 σ3 H5 ρ3 os3 ds[i] xs x u I5' B3 r5 (rv'.mono B3.kept) hu) (λ _ s6 ⟨σ6,os6,I6,B6⟩=>?_) (λ _ _ z=>z));have ns:exs G sub lb (q2n is xs ρ3) ≠ .stuck:=λ e=>hs (by rw[<-w3',e];rfl);refine wpAny_passesOwn hp (wpAny_mono (hb _ O0 E hp _ s6 σ6 H5 (q2n is xs ρ3) os6 I6 B6 ns (λ e s' z=>hE e s' ?_)) (λ f s7 q7=>?_) (λ _ _ z=>z))
  ·obtain⟨c,ρ',σ',os',H',z1,z2,z3⟩:=z;exact⟨c,ρ',σ',os',H',by rw[<-w3',z1];rfl,z2.back x02,z3.qDg⟩
  ·obtain⟨ρ7,fl,σ7,os7,H7,e7,B7,I7,r7⟩:=q7;rw[e7] at w3';have again:q0k (exs G sub lb) k is (ds.drop (i+1)) ρ7=r->∃m,m<ds.length-i/\∃i ρ' σ' os' H',Inv X pins σ' H' s7/\tn i s7.heap/\(∀b∈fp,H' b=none)/\Bd p (fz os.flatten H2) O0 ρ' σ' os' H'/\q0k (exs G sub lb) k is (ds.drop i) ρ'=r/\m=ds.length-i/\i<=ds.length:=λ w7=>by refine⟨ds.length-(i+1),by lia,i+1,ρ7,σ7,os7,H7,I7.q1E,T.keep _ _ _ st5 λ b hb o e=>(I7.pin (b,o) (List.mem_append_right _ (List.mem_append_right _ (q1a hb e)))).1,λ b hb=>?_,B7,w7,rfl,hlt⟩;obtain⟨o,e,d⟩:=T.obj _ _ st5 b hb;exact (I7.pin (b,o) (List.mem_append_right _ (List.mem_append_right _ (q1a hb e)))).2.1
   cases fl<;>cases f<;>first|exact r7.elim|skip
   ·exact again w3'
   ·exact⟨ρ7,.nx,σ7,os7,H7,w3'.symm,B7.back x02,I7.q1E,trivial⟩
   ·exact again w3'
   ·exact⟨ρ7,_,σ7,os7,H7,w3'.symm,B7.back x02,I7.q1E,r7⟩
 ·have ei:i=ds.length:=by lia
  subst ei;refine wpAny_passesOwn hp (wpAny_mono (T.done X rfl rfl rfl hc ds.length pins s3 σ3 H3 E I3 (stat fr3) st3 (hlen▸wk.stop H3 xw)) (λ r4 s4 ⟨hr4,I4⟩=>?_) (λ _ _ z=>z));subst hr4;rw[List.drop_length] at w3;exact wpAny_execs_nil ⟨ρ3,.nx,σ3,os3,H3,w3.symm,B3.back x02,I4,trivial⟩
end
end Snd
namespace Snd
open PySem PySem.Spec PyProof.Rows L2 Ev
variable {pos:Pos}
noncomputable def cxC (X:Cx) (s2:Shared) (H2:Hp) (sc:Scope) (cl:List (Str×Addr)) (C:Addr) (N':List Str) (fp:List Addr):Cx :=
 {X with N:=N',s₀:=s2,H₀:=H2,env:=compEnvC sc cl C X.env,outer:=X.stack,ex:=fp,fn:=λ _=>false,pn:=[],xe:=λ _ _=>False}
theorem q6F (scope:Scope) (env:PySem.Env):∀(l:List (Str×NameKind)) (cs:List (Str×Addr)),(∀x∈l,x.2 = .free->∃c,env.cells.lookup x.1=some c)->
  ∃cl,(forIn l cs λ x r=>do
   if (x.2==NameKind.free)=true then do
    let a <-cellOf env x.1
    pure (ForInStep.yield ((x.1,a)::r))
   else pure (ForInStep.yield r):Sem (List (Str×Addr)))=pure cl/\(∀y c,cl.lookup y=some c->cs.lookup y=some c\/env.cells.lookup y=some c)/\(∀x∈l,x.2 = .free->∃c,cl.lookup x.1=some c)/\∀y c,cs.lookup y=some c->∃c',cl.lookup y=some c':=by
 intro l
 induction l with
 |nil=>intro cs _;exact⟨cs,rfl,λ y c h=> .inl h,λ x hx=>absurd hx (by simp),λ y c h=>⟨c,h⟩⟩
 |cons x l ih =>
  intro cs h;obtain⟨n,k⟩:=x
  by_cases hk:k = .free
  ·subst hk;obtain⟨c,hc⟩:=h (n,.free) List.mem_cons_self rfl;have hco:cellOf env n=pure c:=(by unfold cellOf;rw[hc]);obtain⟨cl,e,h1,h2,h3⟩:=ih ((n,c)::cs) (λ x hx=>h x (List.mem_cons_of_mem _ hx));refine⟨cl,?_,λ y c' hy=>?_,λ x hx hf=>?_,λ y c' hy=>?_⟩
   ·rw[List.forIn_cons];simp only[beq_self_eq_true,if_true,hco];exact e
   ·rcases h1 y c' hy with z|z
    ·rw[List.lookup_cons] at z;cases hyn:y==n with
     |true=>rw[hyn] at z;cases z;rw[beq_iff_eq.mp hyn];exact .inr hc
     |false=>rw[hyn] at z;exact .inl z
    ·exact .inr z
   ·rcases List.mem_cons.mp hx with rfl|hx
    ·exact h3 n c (by simp[List.lookup_cons])
    ·exact h2 x hx hf
   ·cases hyn:y==n with
    |true=>exact h3 y c (by rw[List.lookup_cons,hyn])
    |false=>exact h3 y c' (by rw[List.lookup_cons,hyn];exact hy)
  ·have hb:(k==NameKind.free)=false:=(by simpa using hk);obtain⟨cl,e,h1,h2,h3⟩:=ih cs (λ x hx=>h x (List.mem_cons_of_mem _ hx));refine⟨cl,?_,h1,λ x hx hf=>?_,h3⟩
   ·rw[List.forIn_cons];simp only[hb,Bool.false_eq_true,if_false];exact e
   ·rcases List.mem_cons.mp hx with rfl|hx
    ·exact absurd hf hk
    ·exact h2 x hx hf
theorem q3n {scope:Scope}{env:PySem.Env}(h:∀x∈scope.names,x.2 = .free->∃c,env.cells.lookup x.1=some c) :
  ∃cl,closureFor scope env=pure cl/\(∀y c,cl.lookup y=some c->env.cells.lookup y=some c)/\∀x∈scope.names,x.2 = .free->∃c,cl.lookup x.1=some c:=by
 obtain⟨cl,e,h1,h2,_⟩:=q6F scope env scope.names [] h;refine⟨cl,?_,λ y c hy=>(h1 y c hy).elim (λ z=>by simp at z) id,h2⟩;unfold closureFor;dsimp only;rw[e];rfl
theorem q0M (sc:Scope) (env:PySem.Env) (x:Str):(relabel sc env).names.lookup x=(sc.names.lookup x).map λ k=>if (k==NameKind.free&&env.scope.kind == .function&&env.kindOf x==some .cell)=true then NameKind.cell else k:=by
 unfold relabel;dsimp only
 induction sc.names with
 |nil=>rfl
 |cons q r ih =>
  obtain⟨n,k⟩:=q;rw[List.map_cons];cases hx:x==n with
  |true =>
   have e:=beq_iff_eq.mp hx;subst e;dsimp only;split
   ·rename_i h;rw[List.lookup_cons,List.lookup_cons,hx];dsimp only;rw[Option.map_some,if_pos h]
   ·rename_i h;rw[List.lookup_cons,List.lookup_cons,hx];dsimp only;rw[Option.map_some,if_neg h]
  |false =>
   dsimp only;split
   ·rw[List.lookup_cons,List.lookup_cons,hx];exact ih
   ·rw[List.lookup_cons,List.lookup_cons,hx];exact ih
structure ScOk (X:Cx) (sc:Scope) (ts:List Str):Prop where
 kind:sc.kind = .function
 cell:∀y∈sc.names,y.2 ≠ .cell
 free:∀y∈sc.names,y.2 = .free->X.env.kindOf y.1=some .cell\/X.env.kindOf y.1=some .free
 names:∀y∈sc.names,y.2 = .local->sc.names.lookup y.1=some .local
 bang:∀y∈X.N,y∈ts->sc.names.lookup (qB4 y)=none
 out:∀y∈X.N,y∉ts->sc.names.lookup y≠some .local
def inN (ts N:List Str):List Str:=ts++N.map λ x=>if x∈ts then qB4 x else x
theorem q7F {X:Cx}{pins:List (Addr×Obj)}{σ:L2.St}{H2:Hp}{s2:Shared}{sc:Scope}{ts:List Str}{cl:List (Str×Addr)}{fp:List Addr}(I2:Inv X pins σ H2 s2) (S:ScOk X sc ts) (hcl1:∀y c,cl.lookup y=some c->X.env.cells.lookup y=some c)
  (hcl2:∀x∈sc.names,x.2 = .free->∃c,cl.lookup x.1=some c) (f2:∀b∈fp,FpOk X pins H2 b) (ho:∀b∈fp,∃o,s2.heap.get? b=some o) {h':Heap}{tk:Nat}(hns:∃m,h'.Ns (s2.heap.objs.size+1) m)
  (kp:∀b o,s2.heap.get? b=some o->h'.get? b=some o) (hD:h'.get? s2.heap.objs.size=some {cls:= .type "list",data:= .seq ([]:List Value).toArray}) :
  Inv (cxC X s2 H2 sc cl (s2.heap.objs.size+1) (inN ts X.N) fp) [] (List.replicate ts.length none++σ) (upd H2 s2.heap.objs.size (.lst [])) {s2 with heap:=h',toks:=tk}:=by
 have freeSc:∀x,((relabel sc X.env).names.lookup x=some .cell\/(relabel sc X.env).names.lookup x=some .free)->sc.names.lookup x=some .free:=λ x hx=>by
  rw[q0M] at hx;cases e:sc.names.lookup x with
  |none=>rw[e] at hx;rcases hx with hx|hx<;>cases hx
  |some k =>
   cases k with
   |free=>rfl
   |cell=>exact absurd rfl (S.cell _ (PySem.mem_of_lookup e))
   |_=>rw[e] at hx;rcases hx with hx|hx<;>simp at hx
 have fr:H2 s2.heap.objs.size=none:=I2.hok.fresh (Nat.le_refl _);have frC:H2 (s2.heap.objs.size+1)=none:=I2.hok.fresh (Nat.le_succ _);refine⟨⟨I2.ok.mod,S.kind,I2.ok.glob,I2.ok.blt,Nat.le_succ _,λ x y c h1 h2=>I2.ok.inj x y c (hcl1 _ _ h1) (hcl1 _ _ h2),λ x hx=>hcl2 (x,.free) (PySem.mem_of_lookup (freeSc x hx)) rfl,λ x c h=>(Bool.noConfusion h:_),I2.ok.hd,I2.ok.frames,.inl rfl,λ b hb=>⟨?_,λ x c h=>(f2 b hb).2.2.2.2.1 x c (hcl1 _ _ h)⟩,
  I2.bs,Nat.le_trans I2.ok.bsz I2.sz,λ b o e hb=>?_,λ b hb hm=>?_,I2.stack,I2.q89⟩,rfl,I2.bare,Un.laid kp (Nat.le_refl _) fr,?_,λ x c h=>?_,?_,λ x c h=>?_,λ p hp=>absurd (show p∈([]:List (Addr×Obj)) from hp) (by simp),?_,?_⟩
 ·obtain⟨o,e⟩:=ho b hb;exact Nat.ne_of_lt (Nat.lt_succ_of_lt (Heap.lt_size e))
 ·rcases (f2 b hb).2.2.2.1 with z|z
  ·exact I2.ok.noex b o e z
  ·exact absurd (Nat.lt_of_lt_of_le (Heap.lt_size e) (Nat.le_trans I2.ok.bsz z)) (Nat.lt_irrefl _)
 ·rcases List.mem_cons.mp (I2.q39 b hm) with z|z
  ·exact (f2 b hb).2.1 z
  ·exact (f2 b hb).2.2.1 z
 ·obtain⟨m,hm⟩:=hns;obtain⟨m2,hn2,hl2⟩:=I2.loc;refine⟨m,hm,λ i x v e1 e2 e3=>?_⟩;have e3:Vis (relabel sc X.env) x:=e3;have e1:(inN ts X.N)[i]? = some x:=e1;unfold inN at e1;have hi:¬i<ts.length:=λ z=>by rw[List.getElem?_append_left (by simpa using z),List.getElem?_replicate,if_pos z] at e2;cases e2
  rw[List.getElem?_append_right (by lia)] at e1;rw[List.getElem?_append_right (by rw[List.length_replicate];lia),List.length_replicate] at e2;rw[List.getElem?_map] at e1;cases ey:X.N[i-ts.length]? with
  |none=>rw[ey] at e1;cases e1
  |some y =>
   rw[ey] at e1;have e1:(if y∈ts then qB4 y else y)=x:=(by simpa using e1);have yN:y∈X.N:=List.mem_of_getElem? ey
   by_cases hy:y∈ts
   ·rw[if_pos hy] at e1;have hb:=S.bang y yN hy;rw[e1] at hb;unfold Vis at e3;rw[q0M,hb] at e3;rcases e3 with z|z|z<;>cases z
   ·rw[if_neg hy] at e1;subst e1;have hf:sc.names.lookup y=some .free:=by
     rcases e3 with z|z
     ·exfalso;rw[q0M] at z;cases e:sc.names.lookup y with
      |none=>rw[e] at z;cases z
      |some k =>
       rw[e] at z;cases k with
       |«local»=>exact S.out y yN hy e
       |_=>simp at z<;>(split at z<;>cases z)
     ·exact freeSc y z
    have hk:=S.free _ (PySem.mem_of_lookup hf) rfl;obtain⟨u,r,l⟩:=hl2 _ y v ey e2 (.inr hk);refine⟨u,r,.inr ⟨?_,?_⟩⟩
    ·rcases e3 with z|z
     ·exfalso;rw[q0M,hf,Option.map_some] at z;have z:=Option.some.inj z;split at z<;>cases z
     ·exact z
    ·obtain⟨c,hc⟩:=hcl2 (y,.free) (PySem.mem_of_lookup hf) rfl;rcases l with ⟨l1,_⟩|⟨_,c',hc',hcell⟩
     ·rcases hk with z|z<;>(rw[l1] at z;cases z)
     ·have:=hcl1 _ _ hc;rw[hc'] at this;cases this;obtain⟨o,ho',hd⟩:=hcell;exact⟨c,hc,o,kp _ _ ho',hd⟩
 ·obtain⟨v,o,ho',hd⟩:=I2.cell x c (hcl1 _ _ h);exact⟨v,o,kp _ _ ho',hd⟩
 ·show upd H2 s2.heap.objs.size _ (s2.heap.objs.size+1)=none;rw[q06 (Nat.succ_ne_self _)];exact frC
 ·obtain⟨v,o,ho',hd⟩:=I2.cell x c (hcl1 _ _ h);rw[q06 (Nat.ne_of_lt (Heap.lt_size ho'))];exact I2.freeC x c (hcl1 _ _ h)
 ·exact I2.hok.laid kp (Nat.le_refl _) ⟨Nat.zero_le _,[],0,.nil,hD⟩
 ·show _=(inN ts X.N).length;unfold inN;rw[List.length_append,List.length_append,List.length_replicate,List.length_map,I2.len]
theorem q5M {elt:Ev.Env->R D}{cond:Ev.Env->R Bool}{k:Nat}{ρ:Ev.Env}{d:D}{ds es:List D}(h:q0c elt cond k ρ (d::ds) = .ok es) :
  ∃xs b,unp k d = .ok xs/\cond (vals xs++ρ) = .ok b/\(b=true->∃e es',elt (vals xs++ρ) = .ok e/\q0c elt cond k ρ ds = .ok es'/\es=e::es')/\(b=false->q0c elt cond k ρ ds = .ok es):=by
 unfold q0c at h;cases h1:unp k d with
 |ok xs =>
  rw[h1,q00] at h;cases h2:cond (vals xs++ρ) with
  |ok b =>
   rw[h2,q00] at h;refine⟨xs,b,rfl,h2,λ hb=>?_,λ hb=>?_⟩
   ·subst hb;rw[if_pos rfl] at h;cases h3:elt (vals xs++ρ) with
    |ok e =>
     rw[h3,q00] at h;cases h4:q0c elt cond k ρ ds with
     |ok es'=>rw[h4,q00] at h;cases h;exact⟨e,es',rfl,rfl,rfl⟩
     |err c=>rw[h4] at h;cases h
     |stuck=>rw[h4] at h;cases h
    |err c=>rw[h3] at h;cases h
    |stuck=>rw[h3] at h;cases h
   ·subst hb;rw[if_neg (by simp)] at h;exact h
  |err c=>rw[h2] at h;cases h
  |stuck=>rw[h2] at h;cases h
 |err c=>rw[h1] at h;cases h
 |stuck=>rw[h1] at h;cases h
theorem q3o {p:Pm}{H Hf:Hp}{more:List (List Addr)}:∀{ρ:Ev.Env}{σ:L2.St}{os:List (List Addr)},q1K p H Hf ρ σ os->q1K p H Hf ρ σ (os++more)
 |[],_,_,_=>trivial
 |_::ρ,_,_,h=>by obtain⟨y,σ',as,os',rfl,rfl,h1,h2⟩:=h;exact⟨y,σ',as,os'++more,rfl,rfl,h1,q3o h2⟩
theorem q4p {p:Pm}{H Hf:Hp}{ρ:Ev.Env}{σ:L2.St}{os:List (List Addr)}(h:q1K p H Hf ρ σ os):∀{xs:List D}{vs:List V},RepL p Hf xs vs->q1K p H Hf (vals xs++ρ) (vs.map some++σ) (List.replicate xs.length []++os)
 |[],vs,r=>by cases (show vs=[] from r);exact h
 |d::xs,vs,r=>by obtain⟨v,r',rfl,h1,h2⟩:=r;exact⟨some v,r'.map some++σ,[],List.replicate xs.length []++os,rfl,by simp[List.replicate_succ],⟨rfl,v,rfl,h1⟩,q4p h h2⟩
theorem q4R (n:Nat) (os:List (List Addr)) (D:Addr):(List.replicate n []++os++[[D]]).flatten=os.flatten++[D]:=by simp
section
variable {prog:Program}{w:World}{A:Around}{R:Result->Shared->Prop}{s:Shared}
theorem q4H {elt target iter:PySem.Expr}{ifs:List PySem.Expr}{scope:Scope}{it acc:Value}{env:PySem.Env}(I:Nat->Shared->Prop)
  (turn:∀n s,I n s->wpAny (model prog w) A (pyNext it) (λ r s₁=>match r with
   |none=>R (.ok .next) s₁
   |some v=>wpAny (model prog w) A (letOwnedTupleGo target it v) (λ _ s₁'=>wpAny (model prog w) A (assign target env v) (λ _ s₂ =>
     wpAny (model prog w) A (forIn ifs true λ c r=>if r=true then do let ok <-isTrue c env (eval c env);pure (ForInStep.yield ok) else pure (ForInStep.yield r)) (λ ok s₃ =>
      if ok=true then wpAny (model prog w) A (eval elt env) (λ x s₄ =>
       wpAny (model prog w) A (call (.builtin "list.append") [acc,x]) (λ _ s₅=>∃m,m<n/\I m s₅) (λ _ _=>False) s₄) (λ _ _=>False) s₃
      else ∃m,m<n/\I m s₃) (λ _ _=>False) s₂) (λ _ _=>False) s₁') (λ _ _=>False) s₁) (λ _ _=>False) s)
  (n:Nat) (h:I n s):codeAny (model prog w) A (.compLoop (.ListComp elt [⟨target,iter,ifs,0⟩] scope pos) 0 it acc env) R s:=by
 refine codeAny_loop rfl I (λ n s hI=>?_) n h;show wpAny _ A ((compTurn (.ListComp elt [⟨target,iter,ifs,0⟩] scope pos) 0 it acc env).onRaise (λ x=>do noteFrame x env;theTreesLotGoes x)) _ _ s;refine wpAny_noted ?_;rw[compTurn_list];refine wpAny_bind (wpAny_standAt (wpAny_bind (wpAny_mono (turn n s hI) (λ r s₁ h₁=>?_) λ _ _ h'=>h'.elim)));cases r with
 |none=>exact wpAny_pure h₁
 |some v =>
  refine wpAny_bind (wpAny_mono h₁ (λ _ s₁' h₁'=>?_) λ _ _ h'=>h'.elim);refine wpAny_bind (wpAny_mono h₁' (λ _ s₂ h₂=>wpAny_bind (wpAny_mono h₂ (λ ok s₃ h₃=>?_) λ _ _ h'=>h'.elim)) λ _ _ h'=>h'.elim);cases ok with
  |false=>exact wpAny_pure ⟨rfl,h₃⟩
  |true =>
   exact wpAny_bind (wpAny_bind (wpAny_mono h₃ (λ x s₄ h₄=>wpAny_bind (wpAny_mono h₄ (λ _ s₅ h₅=>wpAny_pure (wpAny_pure ⟨rfl,h₅⟩)) λ _ _ h'=>h'.elim)) λ _ _ h'=>h'.elim))
end
def SGc (X:Cx) (p:Pm) (tg:PySem.Expr) (k m:Nat):Prop :=
 ∀(E:Value->Shared->Prop) (pins:List (Addr×Obj)) (s:Shared) (σt σ:L2.St) (H Hf:Hp) (d:D) (xs:List D) (v:V) (u:Value),Inv X pins (σt++σ) H s->σt.length=m->RelV v u->Ext Hf H->Rep p Hf d v->unp k d = .ok xs->
  wpAny (model X.prog X.w) X.A (assign tg X.env u) (λ _ s'=>∃vs,RepL p Hf xs vs/\vs.length=m/\Inv X pins (vs.map some++σ) H s') E s
section
variable {X:Cx}{p:Pm}{G:Nat->List D->R D}{sub:Nat->Nat->Bool}
theorem q9O {x:Str}(hN:X.N.Nodup) (hi:X.N[0]? = some x) (hl:X.env.scope.names.lookup x=some .local):SGc X p (.Name x pos) 0 1:=by
 intro E pins s σt σ H Hf d xs v u I hm rv xt q e;cases e;obtain⟨o,rfl⟩:∃o,σt=[o]:=by
  match σt,hm with
  |[o],_=>exact⟨o,rfl⟩
 exact wpAny_assign_Name (q13 I hN hi (.inl hl) rv (λ s2 I2=>⟨[v],⟨v,[],rfl,q,rfl⟩,rfl,I2⟩) (.inr hl))
theorem qGK {x y:Str}{px py:Pos}{k1:Nat}(hK:p.K=X.K) (hc:X.calm=true) (hN:X.N.Nodup) (hi:X.N[0]? = some x) (hl:X.env.scope.names.lookup x=some .local) (hj:X.N[1]? = some y) (hl2:X.env.scope.names.lookup y=some .local):SGc X p (.Tuple [.Name x px,.Name y py] k1 pos) 2 2:=by
 intro E pins s σt σ H Hf d xs v u I hm rv xt q e;obtain⟨o1,o2,rfl⟩:∃o1 o2,σt=[o1,o2]:=by
  match σt,hm with
  |[o1,o2],_=>exact⟨o1,o2,rfl⟩
 cases d<;>first
  |(exfalso;unfold unp at e;rw[if_neg (by decide)] at e;cases e;done)
  |skip
 rename_i ds;unfold unp at e;rw[if_neg (by decide)] at e;dsimp only at e;split at e
 ·rename_i hl';cases e;obtain⟨a,vs,rfl,s1,z,r1⟩:=q;obtain⟨d1,d2,rfl⟩:∃d1 d2,xs=[d1,d2]:=by
   match xs,hl' with
   |[d1,d2],_=>exact⟨d1,d2,rfl⟩
  obtain⟨v1,r,rfl,q1,h2⟩:=r1;obtain⟨v2,r2,rfl,q2,h4⟩:=h2;cases (show r2=[] from h4);refine wpAny_mono (qHq (X:=X.wish E) (n:=2) hc (q8z (qAp (X:=X.wish E) hN hi (.inl hl) (.inr hl)) (q8z (qAp (X:=X.wish E) hN hj (.inl hl2) (.inr hl2)) qFT rfl) rfl) rfl rfl pins s _ H (.ref a) u (λ σ' H'=>H'=H/\σ'=some v1::some v2::σ) (I.wish E) rv
   ⟨a,[v1,v2],rfl,hK▸xt.sqT s1,rfl,v1,[v2],rfl,v2,[],rfl,rfl,rfl,rfl⟩) (λ _ s' h=>?_) (λ _ _ z=>z)
  obtain⟨σ',H',I',rfl,rfl⟩:=h;exact⟨[v1,v2],⟨v1,_,rfl,q1,v2,_,rfl,q2,rfl⟩,rfl,I'.q2k⟩
 ·cases e
def STs (X:Cx) (p:Pm) (G:Nat->List D->R D) (sub:Nat->Nat->Bool) (ifs:List PySem.Expr) (lc:List T):Prop:=(ifs=[]/\lc=[])\/∃c l,ifs=[c]/\lc=[l]/\ST X p G sub c l
theorem q9P {elt tg iter:PySem.Expr}{ifs:List PySem.Expr}{sc:Scope}{k:Nat}{ts:List Str}{le:L}{lc:List T}{it:Addr}{fp:List Addr}{tn:Nat->Heap->Prop}{J:It}{pins:List (Addr×Obj)}{s2:Shared}{σ:L2.St}{H2:Hp}{ρ:Ev.Env}{os:List (List Addr)}
  {ds es:List D}{vs:List V}{cl:List (Str×Addr)}{E:Value->Shared->Prop}{RR:Value->Addr->Result->Shared->Prop}(hc:X.calm=true) (S:ScOk X sc ts) (hcl1:∀y c,cl.lookup y=some c->X.env.cells.lookup y=some c)
  (hcl2:∀x∈sc.names,x.2 = .free->∃c,cl.lookup x.1=some c) (hE:∀s2 H2 cl C fp,SE (cxC X s2 H2 sc cl C (inN ts X.N) fp) p G sub elt le) (hT:∀s2 H2 cl C fp,STs (cxC X s2 H2 sc cl C (inN ts X.N) fp) p G sub ifs lc)
  (hG:∀s2 H2 cl C fp,SGc (cxC X s2 H2 sc cl C (inN ts X.N) fp) p tg k ts.length)
  (I2:Inv X pins σ H2 s2) (R2:Rel p ρ σ os H2) (T:Turn X.prog X.w X.K tg J fp it tn) (st2:tn 0 s2.heap) (f2:∀b∈fp,FpOk X pins H2 b) (rep:RepL p (fz os.flatten H2) ds vs) (wk:Wk J H2 vs)
  (hgo:q0c (ev G sub le) (tsts G sub lc) k ρ ds = .ok es) (hbig:es.length<=big)
  (hRR:∀D C s' H',Inv X pins σ H' s'->Ext H2 H'->Rep p (fz os.flatten H') (.lst es) (.ref D)->(∃m,s'.heap.Ns C m)->FpOk X pins H' C->H2 D=none->RR (.ref D) C (.ok .next) s') :
  wpAny (model X.prog X.w) X.A (newList []) (λ acc s3=>wpAny (model X.prog X.w) X.A (newFunctionEnv sc X.env.globals cl [] X.env.qual none .none (some X.env)) (λ cenv s4 =>
   codeAny (model X.prog X.w) X.A (.compStart (.ListComp elt [⟨tg,iter,ifs,0⟩] sc pos) 0 (.ref it) acc {cenv with scope:=relabel sc X.env}) (RR acc cenv.locals) s4) E s3) E s2:=by
 refine wpAny_newObj_type (wpAny_newFunctionEnv S.cell (by intro y hy;simp at hy) (λ h1 hns1 hsb1=>?_) S.kind);dsimp only at hns1 hsb1 |-;generalize hH2:s2.heap.push {cls:= .type "list",dict:=none,data:= .seq ([]:List Value).toArray}=HH at hns1 hsb1 |-;have hC:HH.objs.size=s2.heap.objs.size+1:=by rw[<-hH2,Heap.size_push]
 rw[hC] at hns1 hsb1 |-;have kp:∀b o,s2.heap.get? b=some o->h1.get? b=some o:=λ b o e=>hsb1.extBut b o (Nat.ne_of_lt (Nat.lt_succ_of_lt (Heap.lt_size e))) (Heap.get?_push_of_some _ (hH2▸Heap.get?_push_of_some _ e));have hD:h1.get? s2.heap.objs.size=some {cls:= .type "list",data:= .seq ([]:List Value).toArray}:=hsb1.extBut _ _ (Nat.ne_of_lt (Nat.lt_succ_self _)) (Heap.get?_push_of_some _ (hH2▸Heap.get?_push_size _ rfl));generalize hs4:({s2 with heap:=h1,toks:=s2.toks+([]:List (Str×Value)).length}:Shared)=s4;have ho:∀b∈fp,∃o,s2.heap.get? b=some o:=λ b hb=>let ⟨o,e,_⟩:=T.obj 0 _ st2 b hb;⟨o,e⟩;have I4:Inv (cxC X s2 H2 sc cl (s2.heap.objs.size+1) (inN ts X.N) fp) [] (List.replicate ts.length none++σ) (upd H2 s2.heap.objs.size (.lst [])) s4:=by rw[<-hs4];exact q7F I2 S hcl1 hcl2 f2 ho ⟨_,hns1⟩ kp hD
 have st4:tn 0 s4.heap:=T.keep _ _ _ st2 λ b hb o e=>by rw[<-hs4];exact kp b o e
 have fr:H2 s2.heap.objs.size=none:=I2.hok.fresh (Nat.le_refl _);have frC:H2 (s2.heap.objs.size+1)=none:=I2.hok.fresh (Nat.le_succ _);have stat:∀{H':Hp},(∀b∈fp,H' b=none)->∀b∈fp,FpOk (cxC X s2 H2 sc cl (s2.heap.objs.size+1) (inN ts X.N) fp) [] H' b:=λ {H'} hn b hb=>by
  refine⟨hn b hb,?_,λ hm=>?_,.inl hb,λ x c h=>(f2 b hb).2.2.2.2.1 x c (hcl1 _ _ h),λ p hp=>absurd (show p∈([]:List (Addr×Obj)) from hp) (by simp)⟩
  ·obtain⟨o,e⟩:=ho b hb;exact Nat.ne_of_lt (Nat.lt_succ_of_lt (Heap.lt_size e))
  ·rcases List.mem_cons.mp (I2.q39 b hm) with z|z
   ·exact (f2 b hb).2.1 z
   ·exact (f2 b hb).2.2.1 z
 have hlen:ds.length=vs.length:=rep.length;have loop:codeAny (model X.prog X.w) X.A (.compLoop (.ListComp elt [⟨tg,iter,ifs,0⟩] sc pos) 0 (.ref it) (.ref s2.heap.objs.size) (compEnvC sc cl (s2.heap.objs.size+1) X.env)) (RR (.ref s2.heap.objs.size) (s2.heap.objs.size+1)) s4:=by
  refine q4H (λ n s'=>∃i σt H' ys es0 es1,Inv (cxC X s2 H2 sc cl (s2.heap.objs.size+1) (inN ts X.N) fp) [] (σt++σ) H' s'/\σt.length=ts.length/\tn i s'.heap/\(∀b∈fp,H' b=none)/\Ext H2 H'/\H' s2.heap.objs.size=some (.lst ys)/\
   RepL p (fz (os.flatten++[s2.heap.objs.size]) H') es0 ys/\q0c (ev G sub le) (tsts G sub lc) k ρ (ds.drop i) = .ok es1/\es0++es1=es/\n=ds.length-i/\i<=ds.length) ?_ ds.length
   ⟨0,List.replicate ts.length none,upd H2 s2.heap.objs.size (.lst []),[],[],es,I4,by simp,st4,λ b hb=>?_,Ext.upd fr,q0E,rfl,by simpa using hgo,rfl,by simp,Nat.zero_le _⟩
  ·rintro n s5 ⟨i,σt,H5,ys,es0,es1,I5,hσ,st5,fr5,x5,hDs,rp5,go5,he5,rfl,hi5⟩
   by_cases hlt:i<ds.length
   ·have hd:ds.drop i=ds[i]::ds.drop (i+1):=List.drop_eq_getElem_cons hlt;rw[hd] at go5;obtain⟨xs,b,hu,hcnd,hpos,hneg⟩:=q5M go5;refine wpAny_mono (T.item (cxC X s2 H2 sc cl (s2.heap.objs.size+1) (inN ts X.N) fp) rfl rfl rfl hc i [] s5 _ H5 (λ _ _=>False) I5 (stat fr5) st5 (wk.go i H5 x5 (hlen▸hlt))) (λ r s6 ⟨u,hr,h6⟩=>?_) (λ _ _ z=>z);subst hr;refine wpAny_mono h6 (λ _ s7 ⟨x,H7,I7,r7,y7,st7,fr7⟩=>?_) (λ _ _ z=>z);obtain⟨rfl,hx⟩:=wk.yld i H5 x H7 x5 (hlen▸hlt) y7;obtain⟨v',hv',rv'⟩:=rep.get (i:=i) (d:=ds[i]) (by simp[hlt]);rw[hx] at hv';cases hv';have I7':=I7.pinned (stat fr7) (T.obj _ _ st7);have xf:Ext (fz os.flatten H2) (fz (os.flatten++[s2.heap.objs.size]) H7):=λ a o e=>by
     unfold fz at e;split at e
     ·cases e
     ·rename_i n;refine q1z (x5 a o e) λ m=>?_;rcases List.mem_append.mp m with m|m
      ·exact n m
      ·rw[List.mem_singleton.mp m,fr] at e;cases e
    refine wpAny_mono (hG s2 H2 cl (s2.heap.objs.size+1) fp (λ _ _=>False) _ s7 σt σ H7 (fz (os.flatten++[s2.heap.objs.size]) H7) ds[i] xs x u I7' hσ r7 q0b (rv'.mono xf) hu) (λ _ s8 ⟨vs8,rp8,hl8,I8⟩=>?_) (λ _ _ z=>z);have RL:Rel p (vals xs++ρ) (vs8.map some++σ) (List.replicate xs.length []++os++[[s2.heap.objs.size]]) H7:=by
     refine⟨?_,λ a ha=>?_,?_⟩
     ·rw[q4R];refine List.nodup_append.mpr ⟨R2.nd,by simp,λ a ha b hb e=>?_⟩;rw[List.mem_singleton.mp hb] at e;obtain⟨o,q⟩:=R2.there a ha;rw[e,fr] at q;cases q
     ·rw[q4R] at ha;rcases List.mem_append.mp ha with m|m
      ·obtain⟨o,q⟩:=R2.there a m;exact⟨o,x5 _ _ q⟩
      ·rw[List.mem_singleton.mp m];exact⟨_,hDs⟩
     ·rw[q4R];exact q3o (q4p (q1h x5 xf R2.slots) rp8)
    have test:wpAny (model X.prog X.w) X.A (forIn ifs true λ c r=>if r=true then do let ok <-isTrue c (compEnvC sc cl (s2.heap.objs.size+1) X.env) (eval c (compEnvC sc cl (s2.heap.objs.size+1) X.env));pure (ForInStep.yield ok) else pure (ForInStep.yield r))
      (λ ok s9=>ok=b/\∃H9,Inv (cxC X s2 H2 sc cl (s2.heap.objs.size+1) (inN ts X.N) fp) ([]++q6r fp s7.heap) (vs8.map some++σ) H9 s9/\Ext H7 H9) (λ _ _=>False) s8:=by
     rcases hT s2 H2 cl (s2.heap.objs.size+1) fp with ⟨rfl,rfl⟩|⟨c,l,rfl,rfl,hst⟩
     ·have:b=true:=(by rw[q2Y] at hcnd;cases hcnd;rfl);exact wpAny_tests_nil ⟨this.symm,H7,I8,Ext.refl _⟩
     ·have e1:tst G sub l (vals xs++ρ) = .ok b:=by
       rw[q1x] at hcnd;cases h:tst G sub l (vals xs++ρ) with
       |ok t =>
        rw[h,q00] at hcnd;cases t
        ·simpa using hcnd
        ·simpa using hcnd
       |err c=>rw[h] at hcnd;cases hcnd
       |stuck=>rw[h] at hcnd;cases hcnd
      refine wpAny_tests_one (wpAny_mono (hst _ _ s8 _ H7 (vals xs++ρ) _ (.inl rfl) I8 RL (by rw[e1];simp)) (λ t s9 ⟨H9,e9,I9,x9⟩=>?_) (λ e s' ⟨c,z,_⟩=>by rw[e1] at z;cases z));rw[e1] at e9;cases e9;exact⟨rfl,H9,I9,x9⟩
    refine wpAny_mono test (λ ok s9 ⟨hok,H9,I9,x9⟩=>?_) (λ _ _ z=>z);subst hok;have keepT:∀{s':Shared}{σ':L2.St}{H':Hp},Inv (cxC X s2 H2 sc cl (s2.heap.objs.size+1) (inN ts X.N) fp) ([]++q6r fp s7.heap) σ' H' s'->tn (i+1) s'.heap/\∀b∈fp,H' b=none:=λ {s' σ' H'} I' =>
     ⟨T.keep _ _ _ st7 λ b hb o e=>(I'.pin (b,o) (List.mem_append_right _ (List.mem_append_right _ (q1a hb e)))).1,λ b hb=>by obtain⟨o,e,d⟩:=T.obj _ _ st7 b hb;exact (I'.pin (b,o) (List.mem_append_right _ (List.mem_append_right _ (q1a hb e)))).2.1⟩
    cases ok with
    |false =>
     rw[if_neg (by simp)];obtain⟨k1,k2⟩:=keepT I9;exact⟨ds.length-(i+1),by lia,i+1,vs8.map some,H9,ys,es0,es1,I9.q1E,by simpa using hl8,k1,k2,x5.trans x9,x9 _ _ hDs,rp5.mono (q1J x9),hneg rfl,he5,rfl,hlt⟩
    |true =>
     rw[if_pos rfl];obtain⟨e',es',hev,hgo',rfl⟩:=hpos rfl;refine wpAny_mono (hE s2 H2 cl (s2.heap.objs.size+1) fp _ s9 _ H9 (vals xs++ρ) _ I9 (RL.ext x9) (by rw[hev];simp)) (λ y s10 h10=>?_) (λ e s' ⟨c,z,_⟩=>by rw[hev] at z;cases z);obtain⟨d10,v10,H10,e10,I10,r10,x10,q10⟩:=h10;rw[hev] at e10;cases e10;rw[q4R] at q10;have hz:es0.length=ys.length:=rp5.length;have hzb:ys.length<sizeLine:=by have h1:es0.length+(es'.length+1)=es.length:=(by rw[<-he5];simp);have:=q0p;lia
     refine wpAny_mono (q3C (X:=cxC X s2 H2 sc cl (s2.heap.objs.size+1) (inN ts X.N) fp) _ s10 _ H10 (.ref s2.heap.objs.size) [v10] (.ref s2.heap.objs.size) [y] (λ z H'=>H'=upd H10 s2.heap.objs.size (.lst (ys++[v10]))) I10 rfl (.cons r10 .nil)
      ⟨_,ys,v10,rfl,rfl,x10 _ _ (x9 _ _ hDs),hzb,rfl⟩) (λ _ s11 h11=>?_) (λ _ _ z=>z)
     obtain⟨_,H11,I11,_,rfl⟩:=h11;obtain⟨k1,k2⟩:=keepT I11;refine⟨ds.length-(i+1),by lia,i+1,vs8.map some,_,ys++[v10],es0++[e'],es',I11.q1E,by simpa using hl8,k1,k2,λ a o e=>?_,q0E,?_,hgo',by simpa using he5,rfl,hlt⟩
     ·rw[q06 (q08 e fr)];exact x10 _ _ (x9 _ _ (x5 _ _ e))
     ·rw[q3m (by simp)];exact (rp5.mono (q1J (x9.trans x10))).snoc q10
   ·have ei:i=ds.length:=(by lia);subst ei;refine wpAny_mono (T.done (cxC X s2 H2 sc cl (s2.heap.objs.size+1) (inN ts X.N) fp) rfl rfl rfl hc ds.length [] s5 _ H5 (λ _ _=>False) I5 (stat fr5) st5 (hlen▸wk.stop H5 x5)) (λ r s6 ⟨hr,I6⟩=>?_) (λ _ _ z=>z);subst hr;rw[List.drop_length] at go5;have e1:es1=[]:=(by cases go5;rfl);subst e1;rw[List.append_nil] at he5;subst he5;obtain⟨m,hm,_⟩:=I6.loc;have fC:FpOk X pins H5 (s2.heap.objs.size+1):=I2.fpOk (Nat.le_succ _) I6.free;refine hRR _ _ s6 H5 ?_ x5 ⟨_,ys,rfl,SqL.of (q1z hDs λ m=>?_),rp5.mono (q4n λ a ha=>List.mem_append_left _ ha)⟩ ⟨m,hm⟩ fC fr
    ·exact I2.qFS (ch:=fp) I6.os I6.base I6.hok I6.bare λ b hb=>⟨(f2 b hb).2.2.2.1,(f2 b hb).2.1,(f2 b hb).2.2.2.2.1,(f2 b hb).2.2.2.2.2⟩
    ·obtain⟨o,q⟩:=R2.there _ m;rw[fr] at q;cases q
  ·obtain⟨o,e⟩:=ho b hb;rw[q06 (Nat.ne_of_lt (Heap.lt_size e))];exact (f2 b hb).1
 exact codeAny_compStart_list loop (T.self _ 0 _ _ _ st4 loop)
end
end Snd
namespace Snd
open PySem PySem.Spec PyProof.Rows L2 Ev
variable {fr:Bool}{sc:Scope}{ts:List Str}
section
variable {X:Cx}{p:Pm}{G:Nat->List D->R D}{sub:Nat->Nat->Bool}
theorem q9Q {α β:Type}{r:R α}{f:α->R β}(h:r.q5z.bind f ≠ .stuck):∃a,r = .ok a:=by
 cases r with
 |ok a=>exact⟨a,rfl⟩
 |err c=>exact absurd rfl h
 |stuck=>exact absurd rfl h
theorem qBf {J:It}{H:Hp}{os:List (List Addr)}{vs:List V}(w:Wk J (if fr then fz os.flatten H else H) vs):Wk J H vs:=by
 cases fr
 ·exact w
 ·exact w.mono q0b
theorem q3p (ok:X.Ok) (S:ScOk X sc ts):∀x∈sc.names,x.2 = .free->∃c,X.env.cells.lookup x.1=some c:=λ x hx hf=>ok.has x.1 (S.free x hx hf)
theorem qGL {elt tg iter:PySem.Expr}{ifs:List PySem.Expr}{pos:Pos}{k:Nat}{li:I}{le:L}{lc:List T}(hc:X.calm=true) (S:ScOk X sc ts) (hi:SI X p G sub fr tg iter li)
  (hE:∀s2 H2 cl C fp,SE (cxC X s2 H2 sc cl C (inN ts X.N) fp) p G sub elt le) (hT:∀s2 H2 cl C fp,STs (cxC X s2 H2 sc cl C (inN ts X.N) fp) p G sub ifs lc)
  (hG:∀s2 H2 cl C fp,SGc (cxC X s2 H2 sc cl C (inN ts X.N) fp) p tg k ts.length) (hfs:∀x,foldedSetIterable iter X.env x=pure x) :
  SE X p G sub (.ListComp elt [⟨tg,iter,ifs,0⟩] sc pos) (.comp k le li lc):=by
 intro pins s σ H ρ os I R hs;rw[q1U] at hs |-;obtain⟨cl,hcl,hcl1,hcl2⟩:=q3n (q3p I.ok S);rw[eval_ListComp];refine wpAny_comprehension_free (use:=none) rfl hfs hcl S.kind S.names (wpAny_mono (hi pins s σ H ρ os I R (q0D hs)) (λ v s1 h1=>wpAny_mono h1 (λ itv s2 h2=>?_) (λ e s' z=>z.bind)) (λ e s' z=>z.bind));obtain⟨ds,e1,it,fp,tn,J,H2,rfl,I2,T,st2,f2,x2,vs,rep,wk⟩:=h2;rw[e1,q00] at hs |-;obtain⟨es,hes⟩:=q9Q hs;rw[hes,q14,q00] at hs |-;have z:es.length<=big:=by
  by_cases z:es.length<=big
  ·exact z
  ·rw[if_neg z] at hs;exact absurd rfl hs
 rw[if_pos z];refine q9P (RR:=λ acc C=>compPost (model X.prog X.w) X.A _ none _ acc C) hc S hcl1 hcl2 hE hT hG I2 (R.ext x2) T st2 f2 rep (qBf wk) hes z λ D C s' H' I' x' q' hns fC _=>?_;obtain⟨m,hm⟩:=hns;refine⟨m,hm,λ h' hs'=>⟨.lst es,.ref D,H',rfl,?_,rfl,x2.trans x',q'⟩⟩;obtain⟨f0,f1,f2,f3,f4,f5⟩:=fC;exact I'.turned (t':=s'.toks) (λ b o hb e=>hs'.extBut b o hb e) f0 f1 f3 f4 f5
theorem qGM {i:Nat}{x:Str}{elt tg iter:PySem.Expr}{ifs:List PySem.Expr}{pos pos' spos:Pos}{k:Nat}{li:I}{le:L}{lc:List T}(hc:X.calm=true) (S:ScOk X sc ts) (hi:SI X p G sub fr tg iter li)
  (hE:∀s2 H2 cl C fp,SE (cxC X s2 H2 sc cl C (inN ts X.N) fp) p G sub elt le) (hT:∀s2 H2 cl C fp,STs (cxC X s2 H2 sc cl C (inN ts X.N) fp) p G sub ifs lc)
  (hG:∀s2 H2 cl C fp,SGc (cxC X s2 H2 sc cl C (inN ts X.N) fp) p tg k ts.length) (hfs:∀x,foldedSetIterable iter X.env x=pure x)
  (hN:X.N.Nodup) (hiN:X.N[i]? = some x) (hx:Loc X.env.scope x) (hf:X.fn x=true\/X.env.scope.names.lookup x=some .local)
  (hsw:swapsWith (.ListComp elt [⟨tg,iter,ifs,0⟩] sc pos) (some (.Name x pos')) spos.line X.env=pure true) :
  SS X p G sub (.Assign [.Name x pos'] (.ListComp elt [⟨tg,iter,ifs,0⟩] sc pos) spos) (.set i (.comp k le li lc)):=by
 intro H0 O0 E hp pins s σ H ρ os I B hs hE';have e0:ex G sub (.set i (.comp k le li lc)) ρ=(ev G sub (.comp k le li lc) ρ).go ρ λ d=> .ok (ρ.set i (some (.val d))) .nx:=rfl;rw[e0] at hs hE' |-;rw[q1U] at hs hE' |-;obtain⟨cl,hcl,hcl1,hcl2⟩:=q3n (q3p I.ok S);have lt:i < ρ.length:=by rw[<-B.slen,I.len];exact (List.getElem?_eq_some_iff.mp hiN).1
 rw[exec_Assign_Name_used _ _ _ _ hsw];refine wpAny_bind (wpAny_standAt (wpAny_bind ?_));show wpAny _ X.A (do let _ <-comprehension (.ListComp elt [⟨tg,iter,ifs,0⟩] sc pos) sc X.env _ (newList []) false (eval iter X.env) (some (assign (.Name x pos') X.env))) _ _ s;refine wpAny_bind (wpAny_mono (wpAny_comprehension_free (use:=some (assign (.Name x pos') X.env)) (Q:=λ _ s'=>Gs X p H0 O0 pins (((evi G sub li ρ).bind λ ds=>(q0c (ev G sub le) (tsts G sub lc) k ρ ds).q5z.bind λ es=>if es.length<=big then .ok (.lst es) else .stuck).go ρ λ d=> .ok (ρ.set i (some (.val d))) .nx) .next s') rfl hfs hcl S.kind S.names
  (wpAny_mono (hi pins s σ H ρ _ I B.rel (q0D (q2j hs))) (λ v s1 h1=>wpAny_mono h1 (λ itv s2 h2=>?_) (λ e s' z=>hE' e s' (q3O B z.bind))) (λ e s' z=>hE' e s' (q3O B z.bind)))) (λ _ s' hq=>wpAny_pure (wpAny_pure hq)) λ _ _ e=>e)
 obtain⟨ds,e1,it,fp,tn,J,H2,rfl,I2,T,st2,f2,x2,vs,rep,wk⟩:=h2;rw[e1,q00] at hs |-;obtain⟨es,hes⟩:=q9Q (q2j hs);rw[hes,q14,q00] at hs |-;have z:es.length<=big:=by
  by_cases z:es.length<=big
  ·exact z
  ·rw[if_neg z] at hs;exact absurd rfl hs
 rw[if_pos z,q05];refine q9P (RR:=λ acc C=>compPost (model X.prog X.w) X.A _ (some (assign (.Name x pos') X.env)) _ acc C) hc S hcl1 hcl2 hE hT hG I2 (B.rel.ext x2) T st2 f2 rep (qBf wk) hes z λ D C s' H' I' x' q' hns fC _=>?_;obtain⟨m,hm⟩:=hns;obtain⟨f0,f1,f2',f3,f4,f5⟩:=fC;obtain⟨oC,esC,epC,hoC,hdC,hrC⟩:=id hm;have IP:Inv X (pins++[(C,oC)]) σ H' s':=I'.q5v λ q hq=>(List.mem_append.mp hq).elim (λ z=>I'.pin q (List.mem_append_right _ z)) λ z=>by cases List.mem_singleton.mp z;exact⟨hoC,f0,f1,f2',λ v z=>by rw[hdC] at z;cases z⟩
 refine wpAny_assign_Name (q13 IP hN hiN hx (v:= .ref D) rfl (λ s3 I3=>?_) hf);have hC3:=(I3.pin (C,oC) (List.mem_append_right _ (List.mem_append_right _ (List.mem_singleton.mpr rfl)))).1;refine⟨m,⟨oC,esC,epC,hC3,hdC,hrC⟩,λ h' hs'=>⟨_,.nx,_,_,H',rfl,(B.mono (x2.trans x')).setV lt q',?_,trivial⟩⟩;exact I3.q1E.turned (t':=s3.toks) (λ b o hb e=>hs'.extBut b o hb e) f0 f1 f3 f4 f5
end
end Snd
namespace Snd
open PySem PySem.Spec PyProof.Rows L2 Ev
variable {a:PySem.Expr}{l:L}{pos:Pos}{pins:List (Addr×Obj)}{σ:L2.St}{H:Hp}{ρ:Ev.Env}{b:Bi}
def Ans (r:R D):Prop:=r = .stuck\/∃d,r = .ok d
theorem q11 (d:D):Ans (.ok d):= .inr ⟨d,rfl⟩
theorem q18:Ans .stuck:= .inl rfl
theorem q5V {c:Prop}[Decidable c] {r:R D}(h:Ans r):Ans (if c then r else .stuck):=by
 by_cases z:c
 ·rw[if_pos z];exact h
 ·rw[if_neg z];exact q18
theorem q0n {f:D->R D}(h:∀d,Ans (f d)):∀ds,Ans (oneD f ds)
 |[]=>q18
 |[d]=>h d
 |_::_::_=>q18
theorem q6G {f:D->D->R D}(h:∀d e,Ans (f d e)):∀ds,Ans (twoD f ds)
 |[]=>q18
 |[_]=>q18
 |[d,e]=>h d e
 |_::_::_::_=>q18
theorem q4q {f:List D->R D}(h:∀xs,Ans (f xs)) (d:D):Ans (lstD f d):=by cases d<;>first|exact q18|exact h _
theorem qBg {f:List D->R D}(h:∀xs,Ans (f xs)) (d:D):Ans (seqD f d):=by cases d<;>first|exact q18|exact h _
theorem q2w {f:Int->R D}(h:∀i,Ans (f i)) (d:D):Ans (intD f d):=by cases d<;>first|exact q18|exact h _
theorem qBh {f:Nat->R D}(h:∀i,Ans (f i)) (d:D):Ans (excD f d):=by cases d<;>first|exact q18|exact h _
theorem qBi (x:D):∀(l:List D) (n:Nat),Ans (idxOf x l n)
 |[],_=>q18
 |y::l,n=>by
  rw[idxOf]
  by_cases z:eqb y x=true
  ·rw[if_pos z];exact q11 _
  ·rw[if_neg z];exact qBi x l (n+1)
theorem q6H (sub:Nat->Nat->Bool) (b:Bi) (ds:List D):biD sub b ds = .stuck\/∃r,biD sub b ds = .ok r:=by
 have it:∀d,q0L d = .stuck\/∃r,q0L d = .ok r:=λ d=>by
  cases d<;>first
   |exact .inr ⟨_,rfl⟩
   |exact .inl rfl
   |skip
  rename_i ks vs;cases z:(ints? ks).isSome with
  |true=>exact .inr ⟨ks,by rw[q0L,z];rfl⟩
  |false=>exact .inl (by rw[q0L,z];rfl)
 have it2:∀d,q1r d = .stuck\/∃r,q1r d = .ok r:=λ d=>by cases d<;>first|exact .inr ⟨_,rfl⟩|exact .inl rfl
 show Ans (biD sub b ds);cases b with
 |len=>exact q0n (λ d=>by cases d<;>first|exact q18|exact q11 _) ds
 |sorted=>exact q0n (λ d=>by rcases it d with z|⟨r,z⟩<;>rw[z];exact q18;exact q5V (q11 _)) ds
 |sortedRev=>exact q0n (λ d=>by rcases it d with z|⟨r,z⟩<;>rw[z];exact q18;exact q5V (q11 _)) ds
 |sortedSet=>exact q0n (λ d=>by rcases it2 d with z|⟨r,z⟩<;>rw[z];exact q18;exact q5V (q11 _)) ds
 |tuple=>exact q0n (qBg λ _=>q11 _) ds
 |list=>exact q0n (qBg λ _=>q11 _) ds
 |sum=>exact q0n (q4q λ xs=>by unfold sumD;cases ints? xs<;>first|exact q18|exact q11 _) ds
 |all=>exact q0n (q4q λ xs=>by unfold allD;cases bools? xs<;>first|exact q18|exact q11 _) ds
 |bits=>exact q0n (q2w λ _=>q5V (q11 _)) ds
 |count=>exact q6G (λ _ _=>q4q (λ _=>q5V (q11 _)) _) ds
 |index=>exact q6G (λ _ _=>q4q (λ _=>q5V (qBi _ _ _)) _) ds
 |min2=>exact q6G (λ x y=>q2w (λ _=>q2w (λ _=>q11 _) y) x) ds
 |max2=>exact q6G (λ x y=>q2w (λ _=>q2w (λ _=>q11 _) y) x) ds
 |toInt=>exact q0n (λ d=>by cases d<;>first|exact q18|exact q11 _) ds
 |abs=>exact q0n (q2w λ _=>q11 _) ds
 |isTup=>exact q0n (λ d=>by cases d<;>first|exact q18|exact q11 _) ds
 |isLst=>exact q0n (q4q λ _=>q11 _) ds
 |isInt=>exact q0n (q2w λ _=>q11 _) ds
 |isBool=>exact q0n (λ d=>by cases d<;>first|exact q18|exact q11 _) ds
 |isVal=>exact q0n (qBh λ _=>q11 _) ds
 |isExc c=>exact q0n (qBh λ _=>q11 _) ds
def BS (X:Cx) (p:Pm) (sub:Nat->Nat->Bool) (b:Bi) (fv:Value):Prop :=
 ∀(E:Value->Shared->Prop) (pins:List (Addr×Obj)) (s:Shared) (σ:L2.St) (H:Hp) (os:List (List Addr)) (d r:D) (v:V) (u:Value),Inv X pins σ H s->Th os.flatten H->RelV v u->RepB p H (fz os.flatten H) d v->biD sub b [d] = .ok r->
  wpAny (model X.prog X.w) X.A (call fv [u]) (EP (X.wish E) pins σ (Fin p os.flatten H r)) E s
section
variable {X:Cx}{p:Pm}{G:Nat->List D->R D}{sub:Nat->Nat->Bool}
theorem q6I (ha:SB X p G sub a l) (hst:starEach [a] X.env=[(false,eval a X.env)]) {s:Shared}{os:List (List Addr)}{E:Value->Shared->Prop}{Q:List Value->Shared->Prop}(I:Inv X pins σ H s) (R:Rel p ρ σ os H) (hs:ev G sub l ρ ≠ .stuck)
  (hq:∀u s1,Gb X p pins σ os H (ev G sub l ρ) u s1->Q [u] s1) (he:∀e s',Er X p pins σ H (ev G sub l ρ) e s'->E e s'):wpAny (model X.prog X.w) X.A (spliced (backTo pos (starEach [a] X.env))) Q E s:=by
 rw[hst];show wpAny _ _ (spliced ((false,eval a X.env)::backTo pos [])) _ _ s;exact Calls.spliced_cons (wpAny_mono (ha pins s σ H ρ os I R hs) (λ u s1 h=>Calls.spliced_nil (hq u s1 h)) he)
theorem q24 {α:Type}{f:D->R α}(l:L) (ρ:Ev.Env) (g:List D->R α) (h:∀d,g [d]=f d):(evs G sub [l] ρ).bind g=(ev G sub l ρ).bind f:=by rw[q0J,q0Z];cases ev G sub l ρ<;>first|exact h _|rfl
theorem qBj {s1:Shared}{os:List (List Addr)}{fv u:Value}(hB:BS X p sub b fv) (R:Rel p ρ σ os H) (hs:ev G sub (.bi b [l]) ρ ≠ .stuck) (h:Gb X p pins σ os H (ev G sub l ρ) u s1) :
  wpAny (model X.prog X.w) X.A (call fv [u]) (Gd X p pins σ os H (ev G sub (.bi b [l]) ρ)) (Er X p pins σ H (ev G sub (.bi b [l]) ρ)) s1:=by
 obtain⟨d,v,H1,e1,I1,r1,x1,q1⟩:=h;have e0:ev G sub (.bi b [l]) ρ=biD sub b [d]:=by rw[q16,q24 (f:=λ d=>biD sub b [d]) l ρ _ (λ _=>rfl),e1];rfl
 rw[e0] at hs |-;rcases q6H sub b [d] with z|⟨r,z⟩
 ·exact absurd z hs
 ·rw[z];exact wpAny_mono (hB (Er X p pins σ H (.ok r)) pins s1 σ H1 os d r v u I1 (R.ext x1).th r1 q1 z) (λ w s2 h2=>q8T x1 rfl h2) λ _ _ z=>z
theorem q5W {e:Value}{s':Shared}(h:Er X p pins σ H (ev G sub l ρ) e s'):Er X p pins σ H (ev G sub (.bi b [l]) ρ) e s':=by rw[q16,q24 (f:=λ d=>biD sub b [d]) l ρ _ (λ _=>rfl)];exact h.bind
theorem q5X (hs:ev G sub (.bi b [l]) ρ ≠ .stuck):ev G sub l ρ ≠ .stuck:=λ e=>hs (by rw[q16,q24 (f:=λ d=>biD sub b [d]) l ρ _ (λ _=>rfl),e];rfl)
theorem q9R {x:Str}{id:String}{q:Pos}(hB:BS X p sub b (.builtin id)) (hg:Gl X x) (hm:X.mg x=none) (hv:bootBuiltins x=some (.builtin id)) (ha:SB X p G sub a l)
  (hn:x ≠ "__name__") (hdb:(x==("__debug__":Str))=false) (hst:starEach [a] X.env=[(false,eval a X.env)]):SE X p G sub (.Call (.Name x q) [a] [] pos) (.bi b [l]):=by
 intro pins s σ H ρ os I R hs;refine wpAny_Call_Name_kw (q1p I hg hm hv ?_ hn hdb);exact PyProof.Rows.callWith_builtin1 (q6I ha hst I R (q5X hs) (λ u s1 h=>qBj hB R hs h) (λ _ _=>q5W)) hst rfl
theorem q8V {x:Str}{T:String}{q:Pos}(hB:BS X p sub b (.type T)) (hg:Gl X x) (hm:X.mg x=none) (hv:bootBuiltins x=some (.type T)) (ha:SB X p G sub a l)
  (hn:x ≠ "__name__") (hdb:(x==("__debug__":Str))=false) (hst:starEach [a] X.env=[(false,eval a X.env)]):SE X p G sub (.Call (.Name x q) [a] [] pos) (.bi b [l]):=by
 intro pins s σ H ρ os I R hs;refine wpAny_Call_Name_kw (q1p I hg hm hv ?_ hn hdb);exact PyProof.Rows.callWith_type1 (q6I ha hst I R (q5X hs) (λ u s1 h=>qBj hB R hs h) (λ _ _=>q5W)) hst rfl
theorem qIy (hK:p.K=X.K):BS X p sub .len (.builtin "len"):=by
 intro E pins s σ H os d r v u I t rv q h;cases d<;>first
  |(cases h;done)
  |skip
 ·cases h;obtain⟨rfl,z⟩:=q;exact q72 (X:=X.wish E) pins s σ H _ _ _ (I.wish E) (.cons rv .nil) ⟨_,rfl,Nat.le_trans z q0p,q0H rfl⟩
 ·cases h;obtain⟨a,vs,rfl,s1,z,r1⟩:=q;refine q4C (X:=X.wish E) pins s σ H _ _ _ (I.wish E) (.cons rv .nil) ⟨a,vs,rfl,.inr (hK▸q0b.sqT s1),?_⟩;rw[<-r1.length];exact q0H rfl
 ·cases h;obtain⟨a,vs,rfl,s1,r1⟩:=q;refine q4C (X:=X.wish E) pins s σ H _ _ _ (I.wish E) (.cons rv .nil) ⟨a,vs,rfl,.inl (hK▸s1),?_⟩;rw[<-r1.length];exact q0H rfl
 ·cases h;obtain⟨a,kvs,rfl,s1,rfl,r1⟩:=q;cases rv;refine qKb I s1 λ t s' I'=>⟨.int _,H,I'.wish E,⟨t,rfl⟩,?_⟩
  rw[List.length_map];exact q0H rfl
theorem qDi (hK:p.K=X.K):BS X p sub .tuple (.type "tuple"):=by
 intro E pins s σ H os d r v u I t rv q h;cases d<;>first
  |(cases h;done)
  |skip
 ·cases h;obtain⟨a,vs,rfl,s1,z,r1⟩:=q;exact q3B (X:=X.wish E) pins s σ H _ _ _ (I.wish E) (.cons rv .nil) ⟨a,vs,rfl,.inr ⟨hK▸q0b.sqT s1,q0H ⟨a,vs,rfl,s1,z,r1⟩⟩⟩
 ·cases h;obtain⟨a,vs,rfl,s1,r1⟩:=q;have s1':SqL X.K H a vs:=hK▸s1;obtain⟨_,_,_,hz⟩:=I.list s1';exact q3B (X:=X.wish E) pins s σ H _ _ _ (I.wish E) (.cons rv .nil) ⟨a,vs,rfl,.inl ⟨s1',λ l hl=>q8S t r1 hz hl⟩⟩
theorem qGN (hK:p.K=X.K):BS X p sub .list (.type "list"):=by
 intro E pins s σ H os d r v u I t rv q h;cases d<;>first
  |(cases h;done)
  |skip
 ·cases h;obtain⟨a,vs,rfl,s1,z,r1⟩:=q;exact q4D (X:=X.wish E) pins s σ H _ _ _ (I.wish E) (.cons rv .nil) ⟨a,vs,rfl,.inr (hK▸q0b.sqT s1),λ l hl=>q4m t r1 hl⟩
 ·cases h;obtain⟨a,vs,rfl,s1,r1⟩:=q;exact q4D (X:=X.wish E) pins s σ H _ _ _ (I.wish E) (.cons rv .nil) ⟨a,vs,rfl,.inl (hK▸s1),λ l hl=>q4m t r1 hl⟩
theorem qIz:BS X p sub .toInt (.type "int"):=by
 intro E pins s σ H os d r v u I t rv q h;cases d<;>first
  |(cases h;done)
  |skip
 ·cases h;cases (show v=_ from q);exact q6u (X:=X.wish E) pins s σ H _ _ _ (I.wish E) (.cons rv .nil) (.inr ⟨_,rfl,q0H rfl⟩)
 ·cases h;cases (show v=_ from q);exact q6u (X:=X.wish E) pins s σ H _ _ _ (I.wish E) (.cons rv .nil) (.inl ⟨_,rfl,q0H rfl⟩)
theorem q9S {vs:List V}{us:List Value}(r:Vals vs us) {i:Nat}{u:Value}(h:us[i]? = some u):∃v,vs[i]? = some v/\RelV v u:=by
 cases e:vs[i]? with
 |none=>rw[r.none_of e] at h;cases h
 |some v =>
  obtain⟨u',h1,h2⟩:=r.get e;rw[h] at h1;cases h1;exact⟨v,rfl,h2⟩
theorem q7G {Hf:Hp}:∀{ds:List D}{bs:List Bool}{vs:List V},bools? ds=some bs->RepL p Hf ds vs->vs=bs.map V.bl
 |[],bs,vs,h,r=>by cases h;exact r
 | .bl b::ds,bs,vs,h,r=>by
  obtain⟨v,r',rfl,h1,h2⟩:=r;have h':(bools? ds).map (b::·)=some bs:=h;cases e:bools? ds with
  |none=>rw[e] at h';cases h'
  |some bs' =>
   rw[e] at h';cases h';cases (show v=_ from h1);rw[q7G e h2];rfl
 | .non::_,_,_,h,_=>by cases h
 | .int _::_,_,_,h,_=>by cases h
 | .str _::_,_,_,h,_=>by cases h
 | .tup _::_,_,_,h,_=>by cases h
 | .lst _::_,_,_,h,_=>by cases h
 | .dct _ _::_,_,_,h,_=>by cases h
 | .exc _::_,_,_,h,_=>by cases h
theorem ints_rep {Hf:Hp}:∀{ds:List D}{ns:List Int}{vs:List V},ints? ds=some ns->RepL p Hf ds vs->vs=ns.map V.int
 |[],bs,vs,h,r=>by cases h;exact r
 | .int b::ds,bs,vs,h,r=>by
  obtain⟨v,r',rfl,h1,h2⟩:=r;have h':(ints? ds).map (b::·)=some bs:=h;cases e:ints? ds with
  |none=>rw[e] at h';cases h'
  |some bs' =>
   rw[e] at h';cases h';cases (show v=_ from h1);rw[ints_rep e h2];rfl
 | .non::_,_,_,h,_=>by cases h
 | .bl _::_,_,_,h,_=>by cases h
 | .str _::_,_,_,h,_=>by cases h
 | .tup _::_,_,_,h,_=>by cases h
 | .lst _::_,_,_,h,_=>by cases h
 | .dct _ _::_,_,_,h,_=>by cases h
 | .exc _::_,_,_,h,_=>by cases h
theorem range_all {α:Type}(f:α->Bool) (d:α):∀(l:List α),(List.range l.length).all (λ i=>f (l.getD i d))=l.all f
 |[]=>rfl
 |a::l=>by rw[List.length_cons,all_succ,List.all_cons];congr 1;exact range_all f d l
theorem q4r (f:Nat->Int):∀n,preSum f (n+1)=f 0+preSum (λ i=>f (i+1)) n
 |0=>by simp[preSum]
 |n+1=>by rw[preSum,q4r f n,preSum];lia
theorem q5Y:∀(l:List Int),preSum (λ i=>l.getD i 0) l.length=l.sum
 |[]=>rfl
 |a::l=>by rw[List.length_cons,q4r,List.sum_cons];have:=q5Y l;simpa using this
theorem qJ0 (hK:p.K=X.K) (hc:X.calm=true):BS X p sub .all (.builtin "all"):=by
 intro E pins s σ H os d r v u I t rv q h;cases d<;>first
  |(cases h;done)
  |skip
 rename_i xs;replace h:allD _ = .ok r:=h;unfold allD at h;split at h
 ·rename_i bs hb;cases h;obtain⟨a,vs,rfl,s1,r1⟩:=q;have e0:=q7G hb r1;subst e0;cases rv;obtain⟨its,rv,pt,hz⟩:=I.list (hK▸s1:SqL X.K H a _);have hl:its.length=bs.length:=by rw[<-rv.length];simp
  have hlt:a<s.heap.objs.size:=by obtain⟨_,e,_⟩:=pt.isList;exact Heap.lt_size e
  refine call_all_walk (wpAny_pyIter_list pt.isList ⟨_,_,_,_,_,_,λ i=>bs.getD i false,rfl,Walks.list (A:=X.A.in1) (I.ok.hd hc) s.heap.objs.size a (Nat.ne_of_lt hlt) its.toArray,⟨⟨_,Heap.get?_push_size _ rfl,rfl,rfl⟩,pt.isList.push _⟩,λ i v s Q E hP hQ=>?_,λ h' tk hk=>?_⟩)
  ·have hP':its[i]? = some v:=(by simpa using hP);obtain⟨w,hw,rw'⟩:=q9S rv hP';rw[List.getElem?_map] at hw;cases eb:bs[i]? with
   |none=>rw[eb] at hw;cases hw
   |some b =>
    rw[eb] at hw;cases hw;cases rw';refine wpAny_truthy_bool ?_;have e2:bs.getD i false=b:=(by simp[List.getD,eb]);dsimp only at hQ;rw[e2] at hQ;exact hQ
  ·refine⟨.bl _,H,(I.wish E).kept (t':=tk) (h':=h') λ b o e=>hk b o (by simp;exact Nat.ne_of_lt (Heap.lt_size e)) (Heap.get?_push_of_some _ e),rfl,?_⟩;have:(List.range its.toArray.size).all (λ i=>bs.getD i false)=bs.all id:=by rw[List.size_toArray,hl];exact range_all id false bs
   rw[this];exact q0H rfl
 ·cases h
theorem qJ1 (hK:p.K=X.K) (hc:X.calm=true):BS X p sub .sum (.builtin "sum"):=by
 intro E pins s σ H os d r v u I t rv q h;cases d<;>first
  |(cases h;done)
  |skip
 rename_i xs;replace h:sumD _ = .ok r:=h;unfold sumD at h;split at h
 ·rename_i bs hb;cases h;obtain⟨a,vs,rfl,s1,r1⟩:=q;have e0:=ints_rep hb r1;subst e0;cases rv;obtain⟨its,rv,pt,hz⟩:=I.list (hK▸s1:SqL X.K H a _);have hl:its.length=bs.length:=by rw[<-rv.length];simp
  have hlt:a<s.heap.objs.size:=by obtain⟨_,e,_⟩:=pt.isList;exact Heap.lt_size e
  refine call_sum_walkG (wpAny_pyIter_list pt.isList ⟨_,_,_,_,_,_,λ i=>bs.getD i 0,rfl,Walks.list (A:=X.A.in1) (I.ok.hd hc) s.heap.objs.size a (Nat.ne_of_lt hlt) its.toArray,⟨⟨_,Heap.get?_push_size _ rfl,rfl,rfl⟩,pt.isList.push _⟩,λ b hb=>?_,λ i v hP=>?_,λ h' tk t' hk=>?_⟩)
  ·show b<(s.heap.push _).objs.size;rw[Heap.size_push];rcases List.mem_cons.mp hb with rfl|hb
   ·exact Nat.lt_succ_self _
   ·rw[List.mem_singleton.mp hb];exact Nat.lt_succ_of_lt hlt
  ·have hP':its[i]? = some v:=(by simpa using hP);obtain⟨w,hw,rw'⟩:=q9S rv hP';rw[List.getElem?_map] at hw;cases eb:bs[i]? with
   |none=>rw[eb] at hw;cases hw
   |some b =>
    rw[eb] at hw;cases hw;obtain⟨t,rfl⟩:=rw';have e2:bs.getD i 0=b:=(by simp[List.getD,eb]);exact⟨t,by dsimp only;rw[e2]⟩
  ·refine⟨.int _,H,(I.wish E).kept (t':=tk) (h':=h') λ b o e=>hk b o (by simp;exact Nat.ne_of_lt (Heap.lt_size e)) (Heap.get?_push_of_some _ e),⟨_,rfl⟩,?_⟩;have:preSum (λ i=>bs.getD i 0) its.toArray.size=bs.sum:=by rw[List.size_toArray,hl];exact q5Y bs
   rw[this];exact q0H rfl
 ·cases h
end
end Snd
namespace Srt
open PySem PySem.W PyProof.Rows
variable {p:Array Nat}{m:Nat}
def run {α:Type}(c:Nat->Nat->Bool):KasT α->α
 | .ret a=>a
 | .ask i j k=>run c (k (c i j))
theorem run_bind {α β:Type}(c:Nat->Nat->Bool) (f:α->KasT β):∀t:KasT α,run c (t.bind f)=run c (f (run c t))
 | .ret a=>rfl
 | .ask i j k=>run_bind c f (k (c i j))
def BndR {α:Type}(c:Nat->Nat->Bool) (n:Nat):KasT α->Prop
 | .ret _=>True
 | .ask i j k=>i<n/\j<n/\BndR c n (k (c i j))
theorem q25 {α β:Type}{c:Nat->Nat->Bool}{n:Nat}{f:α->KasT β}:∀{t:KasT α},BndR c n t->BndR c n (f (run c t))->BndR c n (t.bind f)
 | .ret a,_,h=>h
 | .ask i j k,h1,h=>⟨h1.1,h1.2.1,q25 h1.2.2 h⟩
theorem qJ2 {α:Type}{cmp:Nat->Nat->(Bool->Shared->Prop)->Shared->Prop}{c:Nat->Nat->Bool}{n:Nat}{s:Shared}{Q:α->Shared->Prop}(hc:∀i j C,i<n->j<n->C (c i j) s->cmp i j C s):∀(t:KasT α),BndR c n t->Q (run c t) s->t.kasWp cmp Q s
 | .ret a,_,h=>h
 | .ask i j k,b,h=>hc i j _ b.1 b.2.1 (qJ2 hc (k (c i j)) b.2.2 h)
section
variable {c:Nat->Nat->Bool}{n:Nat}
structure Ord (c:Nat->Nat->Bool) (n:Nat):Prop where
 irr:∀i,i<n->c i i=false
 tot:∀i j,i<n->j<n->i≠j->c i j=false->c j i=true
 tr:∀i j k,i<n->j<n->k<n->c i j=true->c j k=true->c i k=true
def at_ (p:Array Nat) (i:Nat):Nat:=p.getD i 0
structure Pm (p:Array Nat) (n:Nat):Prop where
 sz:p.size=n
 lt:∀i,i<n->at_ p i<n
 inj:∀i j,i<n->j<n->at_ p i=at_ p j->i=j
def Up (c:Nat->Nat->Bool) (p:Array Nat) (m:Nat):Prop:=∀i j,i<j->j<m->c (at_ p i) (at_ p j)=true
def Dn (c:Nat->Nat->Bool) (p:Array Nat) (m:Nat):Prop:=∀i j,i<j->j<m->c (at_ p j) (at_ p i)=true
theorem Ord.asym (o:Ord c n) {i j:Nat}(hi:i<n) (hj:j<n) (h:c i j=true):c j i=false:=by
 cases e:c j i with
 |false=>rfl
 |true=>have:=o.tr i j i hi hj hi h e;rw[o.irr i hi] at this;cases this
theorem Up.succ (o:Ord c n) (P:Pm p n) (h1:1<=m) (hm:m<n) (u:Up c p m) (h:c (at_ p (m-1)) (at_ p m)=true):Up c p (m+1):=λ i j hij hj=>by
 by_cases e:j<m
 ·exact u i j hij e
 ·have e:j=m:=by lia
  subst e
  by_cases e2:i=j-1
  ·rw[e2];exact h
  ·exact o.tr _ (at_ p (j-1)) _ (P.lt _ (by lia)) (P.lt _ (by lia)) (P.lt _ hm) (u i (j-1) (by lia) (by lia)) h
theorem Dn.succ (o:Ord c n) (P:Pm p n) (h1:1<=m) (hm:m<n) (u:Dn c p m) (h:c (at_ p m) (at_ p (m-1))=true):Dn c p (m+1):=λ i j hij hj=>by
 by_cases e:j<m
 ·exact u i j hij e
 ·have e:j=m:=by lia
  subst e
  by_cases e2:i=j-1
  ·rw[e2];exact h
  ·exact o.tr _ (at_ p (j-1)) _ (P.lt _ hm) (P.lt _ (by lia)) (P.lt _ (by lia)) h (u i (j-1) (by lia) (by lia))
theorem q2M {α:Type}(i j:Nat) (k:Bool->KasT α):run c (.ask i j k)=run c (k (c i j)):=rfl
theorem q2N {α:Type}{i j:Nat}{k:Bool->KasT α}(h1:i<n) (h2:j<n) (h:BndR c n (k (c i j))):BndR c n (.ask i j k):=⟨h1,h2,h⟩
theorem qBk (o:Ord c n) {p:Array Nat}(P:Pm p n):∀(f m:Nat),1<=m->m+f=n->Up c p m->BndR c n (kas_asc p f m)/\∃r,run c (kas_asc p f m)=r/\m<=r/\r<=n/\Up c p r/\(r=n\/c (at_ p r) (at_ p (r-1))=true)
 |0,m,h1,hn,u=>⟨trivial,m,rfl,Nat.le_refl _,by lia,u,.inl (by lia)⟩
 |f+1,m,h1,hn,u=>by
  have hm:m<n:=by lia
  have e0:kas_asc p (f+1) m = .ask (p.getD m 0) (p.getD (m-1) 0) λ c=>if c=true then .ret m else kas_asc p f (m+1):=rfl
  rw[e0];cases e:c (at_ p m) (at_ p (m-1)) with
  |true =>
   have e':c (p.getD m 0) (p.getD (m-1) 0)=true:=e;refine⟨q2N (P.lt m hm) (P.lt (m-1) (by lia)) ?_,m,?_,Nat.le_refl _,Nat.le_of_lt hm,u,.inr e⟩
   ·rw[e'];trivial
   ·rw[q2M,e'];rfl
  |false =>
   have e':c (p.getD m 0) (p.getD (m-1) 0)=false:=e;have up:=u.succ o P h1 hm (o.tot _ _ (P.lt m hm) (P.lt (m-1) (by lia)) (λ z=>by have:=P.inj m (m-1) hm (by lia) z;lia) e);obtain⟨b1,r,b2,b3,b4,b5,b6⟩:=qBk o P f (m+1) (by lia) (by lia) up;refine⟨q2N (P.lt m hm) (P.lt (m-1) (by lia)) ?_,r,?_,by lia,b4,b5,b6⟩
   ·rw[e'];exact b1
   ·rw[q2M,e'];exact b2
theorem qBl (o:Ord c n) {p:Array Nat}(P:Pm p n):∀(f m:Nat),1<=m->m+f=n->Dn c p m->BndR c n (kas_desc f p m 0)/\∃r,run c (kas_desc f p m 0)=(p,r,0)/\m<=r/\r<=n/\Dn c p r
 |0,m,h1,hn,u=>⟨trivial,m,rfl,Nat.le_refl _,by lia,u⟩
 |f+1,m,h1,hn,u=>by
  have hm:m<n:=by lia
  have e0:kas_desc (f+1) p m 0 = .ask (p.getD m 0) (p.getD (m-1) 0) λ c=>if c=true then kas_desc f p (m+1) 0
   else .ask (p.getD (m-1) 0) (p.getD m 0) λ d=>if d=true then .ret (p,m,0) else kas_desc f p (m+1) (0+1):=rfl
  rw[e0];cases e:c (at_ p m) (at_ p (m-1)) with
  |true =>
   have e':c (p.getD m 0) (p.getD (m-1) 0)=true:=e;obtain⟨b1,r,b2,b3,b4,b5⟩:=qBl o P f (m+1) (by lia) (by lia) (u.succ o P h1 hm e);refine⟨q2N (P.lt m hm) (P.lt (m-1) (by lia)) ?_,r,?_,by lia,b4,b5⟩
   ·rw[e'];exact b1
   ·rw[q2M,e'];exact b2
  |false =>
   have e':c (p.getD m 0) (p.getD (m-1) 0)=false:=e;have e2:c (at_ p (m-1)) (at_ p m)=true:=o.tot _ _ (P.lt m hm) (P.lt (m-1) (by lia)) (λ z=>by have:=P.inj m (m-1) hm (by lia) z;lia) e;have e2':c (p.getD (m-1) 0) (p.getD m 0)=true:=e2;refine⟨q2N (P.lt m hm) (P.lt (m-1) (by lia)) ?_,m,?_,Nat.le_refl _,Nat.le_of_lt hm,u⟩
   ·rw[e'];refine q2N (P.lt (m-1) (by lia)) (P.lt m hm) ?_;rw[e2'];trivial
   ·rw[q2M,e'];show run c (KasT.ask (p.getD (m-1) 0) (p.getD m 0) λ d=>if d=true then .ret (p,m,0) else kas_desc f p (m+1) (0+1))=_;rw[q2M,e2'];rfl
theorem q7H (hm:m<=p.size) (k:Nat):at_ (kas_rev p 0 m) k=if k<m then at_ p (m-1-k) else at_ p k:=by
 have e:=getElem?_mirror_all (xs:=p) (i:=0) (j:=m) hm k;have g:∀(q:Array Nat) (i:Nat),at_ q i=q[i]?.getD 0:=λ q i=>by unfold at_;simp[Array.getD_eq_getD_getElem?]
 rw[g,show kas_rev p 0 m=mirror p 0 m ((m-0) / 2) from rfl,e]
 by_cases h:k<m
 ·rw[if_pos ⟨Nat.zero_le _,h⟩,if_pos h,g];congr 2;lia
 ·rw[if_neg (λ z=>h z.2),if_neg h,g]
theorem Pm.rev (P:Pm p n) (hm:m<=n):Pm (kas_rev p 0 m) n:=by
 have hs:m<=p.size:=by rw[P.sz];exact hm
 refine⟨by rw[show kas_rev p 0 m=mirror p 0 m ((m-0) / 2) from rfl,mirror_size,P.sz],λ i hi=>?_,λ i j hi hj h=>?_⟩
 ·rw[q7H hs];split
  ·exact P.lt _ (by lia)
  ·exact P.lt _ hi
 ·rw[q7H hs,q7H hs] at h;split at h<;>split at h
  ·have:=P.inj _ _ (by lia) (by lia) h;lia
  ·have:=P.inj _ _ (by lia) (by lia) h;lia
  ·have:=P.inj _ _ (by lia) (by lia) h;lia
  ·exact P.inj _ _ hi hj h
theorem Dn.rev (hm:m<=p.size) (d:Dn c p m):Up c (kas_rev p 0 m) m:=λ i j hij hj=>by rw[q7H hm,q7H hm,if_pos (by lia),if_pos hj];exact d _ _ (by lia) (by lia)
theorem qDj (o:Ord c n) (hn:2<=n) (P:Pm p n):BndR c n (kas_count n p)/\∃m q,run c (kas_count n p)=(m,q)/\1<=m/\m<=n/\Pm q n/\Up c q m:=by
 have u1:Up c p 1:=λ i j hij hj=>by lia
 obtain⟨a1,r,hr,a2,a3,a4,a5⟩:=qBk o P (n-1) 1 (Nat.le_refl _) (by lia) u1;have goal:∀t,t=(if (r==n)=true then KasT.ret (r,p) else if r > 1 then .ask (p.getD 0 0) (p.getD (r-1) 0) λ c=>if c=true then .ret (r,p) else kas_descPart r n (kas_rev p 0 r) else kas_descPart r n p)->BndR c n t/\∃m q,run c t=(m,q)/\1<=m/\m<=n/\Pm q n/\Up c q m:=by
  intro t ht
  by_cases e:r=n
  ·rw[if_pos (by simp[e])] at ht;subst ht;exact⟨trivial,r,p,rfl,a2,a3,P,a4⟩
  ·rw[if_neg (by simpa using e)] at ht
   by_cases e2:r > 1
   ·rw[if_pos e2] at ht;have h0:c (p.getD 0 0) (p.getD (r-1) 0)=true:=a4 0 (r-1) (by lia) (by lia);subst ht;refine⟨q2N (P.lt 0 (by lia)) (P.lt (r-1) (by lia)) ?_,r,p,?_,a2,a3,P,a4⟩
    ·rw[h0];trivial
    ·rw[q2M,h0];rfl
   ·rw[if_neg e2] at ht;have er:r=1:=(by lia);subst er;have hlt:c (at_ p 1) (at_ p 0)=true:=by
     rcases a5 with z|z
     ·exact absurd z e
     ·exact z
    have d2:Dn c p 2:=λ i j hij hj=>by have e1:i=0:=(by lia);have e2:j=1:=(by lia);subst e1 e2;exact hlt
    obtain⟨b1,m,b2,b3,b4,b5⟩:=qBl o P (n-2) 2 (by lia) (by lia) d2;have hs:m<=p.size:=(by rw[P.sz];exact b4);obtain⟨k1,k0,k00,k2,k3,k4,k5⟩:=qBk o (P.rev b4) (n-m) m (by lia) (by lia) (b5.rev hs);have t3:BndR c n (kas_tail3 m n p):=q25 k1 trivial;have r3:run c (kas_tail3 m n p)=(k0,kas_rev p 0 m):=by unfold kas_tail3;rw[run_bind,k00];rfl
    have dp:kas_descPart 1 n p=(kas_desc (n-2) p 2 0).bind λ r=>if r.2.2 > 0 then kas_tail3 r.2.1 n (kas_rev r.1 (r.2.1-(r.2.2+1)) r.2.1) else kas_tail3 r.2.1 n r.1:=rfl
    subst ht;rw[dp];refine⟨q25 b1 ?_,_,_,?_,by lia,k3,P.rev b4,k4⟩
    ·rw[b2];dsimp only;rw[if_neg (by simp)];exact t3
    ·rw[run_bind,b2];dsimp only;rw[if_neg (by simp)];exact r3
 obtain⟨g1,g2⟩:=goal _ rfl;refine⟨?_,?_⟩
 ·unfold kas_count;refine q25 a1 ?_;rw[hr];exact g1
 ·unfold kas_count;rw[run_bind,hr];exact g2
theorem q6J (o:Ord c n) {p:Array Nat}(P:Pm p n) {k:Nat}(hk:k<n) (u:Up c p k):∀(f l r:Nat),l<=r->r<=k->r-l<=f->(∀i,i<l->c (at_ p i) (at_ p k)=true)->(∀i,r<=i->i<k->c (at_ p k) (at_ p i)=true)->
  BndR c n (kas_place p k f l r)/\∃m,run c (kas_place p k f l r)=m/\m<=k/\(∀i,i<m->c (at_ p i) (at_ p k)=true)/\∀i,m<=i->i<k->c (at_ p k) (at_ p i)=true
 |0,l,r,hlr,hrk,hf,h1,h2=>⟨trivial,l,rfl,by lia,h1,λ i hi=>h2 i (by lia)⟩
 |f+1,l,r,hlr,hrk,hf,h1,h2=>by
  unfold kas_place
  by_cases e:l≥r
  ·rw[if_pos e];exact⟨trivial,l,rfl,by lia,h1,λ i hi=>h2 i (by lia)⟩
  ·rw[if_neg e];have hmid:(l+r) / 2<r:=(by lia);cases q:c (at_ p k) (at_ p ((l+r) / 2)) with
   |true =>
    have q':c (p.getD k 0) (p.getD ((l+r) / 2) 0)=true:=q;obtain⟨b1,m,b2,b3⟩:=q6J o P hk u f l ((l+r) / 2) (by lia) (by lia) (by lia) h1 (λ i hi hik=>by
     by_cases e3:i=(l+r) / 2
     ·rw[e3];exact q
     ·exact o.tr _ (at_ p ((l+r) / 2)) _ (P.lt _ hk) (P.lt _ (by lia)) (P.lt _ (by lia)) q (u _ _ (by lia) hik))
    refine⟨q2N (P.lt k hk) (P.lt _ (by lia)) ?_,m,?_,b3⟩
    ·rw[q'];exact b1
    ·rw[q2M,q'];exact b2
   |false =>
    have q':c (p.getD k 0) (p.getD ((l+r) / 2) 0)=false:=q;have q2:=o.tot _ _ (P.lt k hk) (P.lt ((l+r) / 2) (by lia)) (λ z=>by have:=P.inj k ((l+r) / 2) hk (by lia) z;lia) q;obtain⟨b1,m,b2,b3⟩:=q6J o P hk u f ((l+r) / 2+1) r (by lia) hrk (by lia) (λ i hi=>by
     by_cases e3:i=(l+r) / 2
     ·rw[e3];exact q2
     ·exact o.tr _ (at_ p ((l+r) / 2)) _ (P.lt _ (by lia)) (P.lt _ (by lia)) (P.lt _ hk) (u _ _ (by lia) (by lia)) q2) h2
    refine⟨q2N (P.lt k hk) (P.lt _ (by lia)) ?_,m,?_,b3⟩
    ·rw[q'];exact b1
    ·rw[q2M,q'];exact b2
theorem q7I {k:Nat}(hk:k<p.size) (hm:m<=k) (i:Nat):at_ (bubble p k (k-m)) i=if i=m then at_ p k else if m<i/\i<=k then at_ p (i-1) else at_ p i:=by
 have e:=getElem?_bubble (xs:=p) hk (k-m) (by lia) i;have g:∀(q:Array Nat) (i:Nat),at_ q i=q[i]?.getD 0:=λ q i=>by unfold at_;simp[Array.getD_eq_getD_getElem?]
 rw[show k-(k-m)=m by lia] at e;rw[g,e];split
 ·rw[g]
 ·split
  ·rw[g]
  ·rw[g]
theorem qF4 (o:Ord c n):∀(f:Nat) (p:Array Nat) (k:Nat),Pm p n->1<=k->k+f=n->Up c p k->BndR c n (kas_bin f p k)/\Pm (run c (kas_bin f p k)) n/\Up c (run c (kas_bin f p k)) n
 |0,p,k,P,h1,hn,u=>⟨trivial,P,show Up c p n from (show k=n by lia)▸u⟩
 |f+1,p,k,P,h1,hn,u=>by
  have hk:k<n:=by lia
  obtain⟨b1,m,hm,b2,b3,b4⟩:=q6J o P hk u k 0 k (Nat.zero_le _) (Nat.le_refl _) (by lia) (λ i hi=>by lia) (λ i hi hk'=>by lia);have hks:k<p.size:=by rw[P.sz];exact hk
  have P':Pm (bubble p k (k-m)) n:=by
   refine⟨by rw[bubble_size,P.sz],λ i hi=>?_,λ i j hi hj h=>?_⟩
   ·rw[q7I hks b2];split
    ·exact P.lt _ hk
    ·split
     ·exact P.lt _ (by lia)
     ·exact P.lt _ hi
   ·rw[q7I hks b2,q7I hks b2] at h;split at h
    ·split at h
     ·lia
     ·split at h
      ·have:=P.inj _ _ hk (by lia) h;lia
      ·have:=P.inj _ _ hk hj h;lia
    ·split at h
     ·split at h
      ·have:=P.inj _ _ (by lia) hk h;lia
      ·split at h
       ·have:=P.inj _ _ (by lia) (by lia) h;lia
       ·have:=P.inj _ _ (by lia) hj h;lia
     ·split at h
      ·have:=P.inj _ _ hi hk h;lia
      ·split at h
       ·have:=P.inj _ _ hi (by lia) h;lia
       ·exact P.inj _ _ hi hj h
  have u':Up c (bubble p k (k-m)) (k+1):=λ i j hij hj=>by
   rw[q7I hks b2,q7I hks b2]
   by_cases ei:i=m
   ·rw[if_pos ei,if_neg (by lia),if_pos (by lia)];exact b4 _ (by lia) (by lia)
   ·rw[if_neg ei]
    by_cases ej:j=m
    ·rw[if_neg (by lia),if_pos ej];exact b3 _ (by lia)
    ·rw[if_neg ej]
     by_cases ei2:m<i/\i<=k
     ·rw[if_pos ei2,if_pos (by lia)];exact u _ _ (by lia) (by lia)
     ·rw[if_neg ei2]
      by_cases ej2:m<j/\j<=k
      ·rw[if_pos ej2];exact u _ _ (by lia) (by lia)
      ·rw[if_neg ej2];exact u _ _ hij (by lia)
  obtain⟨d1,d2,d3⟩:=qF4 o f _ (k+1) P' (by lia) (by lia) u';have e0:kas_bin (f+1) p k=(kas_place p k k 0 k).bind λ l=>kas_bin f (bubble p k (k-l)) (k+1):=rfl;rw[e0];refine⟨q25 b1 (by rw[hm];exact d1),?_,?_⟩
  ·rw[run_bind,hm];exact d2
  ·rw[run_bind,hm];exact d3
theorem q9T:Pm (List.toArray (List.range n)) n:=by
 have e:∀i,i<n->at_ (List.toArray (List.range n)) i=i:=λ i hi=>by simp[at_,Array.getD_eq_getD_getElem?,hi]
 refine⟨by simp,λ i hi=>by rw[e i hi];exact hi,λ i j hi hj h=>?_⟩;rw[e i hi,e j hj] at h;exact h
theorem qGO (o:Ord c n) (hn:2<=n):BndR c n (kas_sort n)/\Pm (run c (kas_sort n)) n/\Up c (run c (kas_sort n)) n:=by
 obtain⟨a1,m,q,a2,a3,a4,a5,a6⟩:=qDj o hn (q9T (n:=n));unfold kas_sort
 by_cases e:m<n
 ·obtain⟨b1,b2,b3⟩:=qF4 o (n-max m 1) q (max m 1) a5 (by lia) (by lia) (by rw[show max m 1=m by lia];exact a6);refine⟨q25 a1 (by rw[a2];dsimp only;rw[if_pos e];exact b1),?_,?_⟩
  ·rw[run_bind,a2];dsimp only;rw[if_pos e];exact b2
  ·rw[run_bind,a2];dsimp only;rw[if_pos e];exact b3
 ·refine⟨q25 a1 (by rw[a2];dsimp only;rw[if_neg e];trivial),?_,?_⟩
  ·rw[run_bind,a2];dsimp only;rw[if_neg e];exact a5
  ·rw[run_bind,a2];dsimp only;rw[if_neg e];have:m=n:=(by lia);subst this;exact a6
theorem len_sub:∀{a b:List Nat},a.Nodup->(∀x∈a,x∈b)->a.length<=b.length
 |[],_,_,_=>Nat.zero_le _
 |x::a,b,nd,h=>by have hx:=h x List.mem_cons_self;have nd':=List.nodup_cons.mp nd;have:=len_sub (a:=a) (b:=b.erase x) nd'.2 λ y hy=>(List.mem_erase_of_ne (λ (z:y=x)=>nd'.1 (z▸hy))).mpr (h y (List.mem_cons_of_mem _ hy));rw[List.length_erase_of_mem hx] at this;have:=List.length_pos_of_mem hx;simp only[List.length_cons];lia
theorem Pm.perm (P:Pm p n):p.toList.Perm (List.range n):=by
 have e:p.toList=(List.range n).map (at_ p):=by
  refine List.ext_getElem? λ i=>?_
  by_cases h:i<n
  ·have hs:i<p.size:=(by rw[P.sz];exact h);rw[List.getElem?_map,List.getElem?_range h,Array.getElem?_toList];simp[at_,Array.getD_eq_getD_getElem?,hs]
  ·rw[List.getElem?_eq_none (by simp[P.sz];lia),List.getElem?_eq_none (by simp;lia)]
 have nd:p.toList.Nodup:=by
  rw[e];refine List.pairwise_map.mpr (List.pairwise_iff_getElem.mpr λ i j hi hj hij h=>?_);have hi':i<n:=by simpa using hi
  have hj':j<n:=by simpa using hj
  have:=P.inj i j hi' hj' (by simpa using h);lia
 refine (List.perm_ext_iff_of_nodup nd List.nodup_range).mpr λ a=>⟨λ h=>?_,λ h=>?_⟩
 ·rw[e] at h;obtain⟨i,hi,rfl⟩:=List.mem_map.mp h;exact List.mem_range.mpr (P.lt i (List.mem_range.mp hi))
 ·refine Decidable.byContradiction λ hna=>?_;have hsub:∀x∈p.toList,x∈(List.range n).erase a:=λ x hx=>by refine (List.Nodup.mem_erase_iff List.nodup_range).mpr ⟨λ z=>hna (z▸hx),?_⟩;rw[e] at hx;obtain⟨i,hi,rfl⟩:=List.mem_map.mp hx;exact List.mem_range.mpr (P.lt i (List.mem_range.mp hi))
  have hle:=len_sub nd hsub;rw[List.length_erase_of_mem h,List.length_range,Array.length_toList,P.sz] at hle;have:=List.mem_range.mp h;lia
end
end Srt
namespace Srt
open PySem PySem.W PyProof.Rows
section
variable {prog:Program}{w:World}{A:Around}{E:Value->Shared->Prop}{s:Shared}
def pick {α:Type}(p:Array Nat) (xs:List α) (d:α):List α:=p.toList.map λ i=>xs.getD i d
theorem q3P {α:Type}{n:Nat}{p:Array Nat}(P:Pm p n) (xs:List α) (d:α):(pick p xs d).length=n:=by unfold pick;rw[List.length_map,Array.length_toList,P.sz]
theorem q5Z {α:Type}(xs:List α) (d:α):pick (List.toArray (List.range xs.length)) xs d=xs:=by
 unfold pick;refine List.ext_getElem? λ i=>?_;simp only[List.toList_toArray,List.getElem?_map]
 by_cases h:i<xs.length
 ·rw[List.getElem?_range h];simp[h]
 ·rw[List.getElem?_eq_none (by simp;lia),List.getElem?_eq_none (by lia)];rfl
theorem qGP {a:Addr}{vs:List Value}{e0:Nat}{c:Nat->Nat->Bool}{P:PySem.Fin->Shared->Prop}(ho:s.heap.get? a=some (seqObj "list" vs.toArray e0)) (h64:vs.length<64) (o:Ord c vs.length)
  (hk:2<=vs.length->∀h',(∀b x,b≠a->s.heap.get? b=some x->h'.get? b=some x)->wpAny (model prog w) A (keyKind' vs.toArray) (λ κ s'=>s'={s with heap:=h'}/\∀i j C,i<vs.length->j<vs.length->C (c i j) s'->kas_ask prog w A κ vs i j C s') (λ _ _=>False) {s with heap:=h'})
  (fin:∀(p:Array Nat) (h':Heap) (e:Nat),Pm p vs.length->Up c p vs.length->(∀b x,b≠a->s.heap.get? b=some x->h'.get? b=some x)->h'.get? a=some (seqObj "list" (pick p vs Value.none).toArray e)->P (.done (.ret .none)) {s with heap:=h'}) :
  wpAny (model prog w) A (Builtin.«list.sort» ⟨[.ref a],[]⟩) P E s:=by
 have lta:a<s.heap.objs.size:=Heap.lt_size ho;obtain⟨e1,g1⟩:∃e1,(s.heap.update a (Obj.mapSeq λ _=>(#[]:Array Value))).get? a=some (seqObj "list" #[] e1):=⟨_,get?_update_seq ho λ _=>#[]⟩
 generalize hh3:((s.heap.update a (Obj.mapSeq λ _=>(#[]:Array Value))).push (seqObj "tuple" vs.toArray 0)).push (seqObj "list" #[] 0)=h3;have kp:∀b x,b≠a->s.heap.get? b=some x->h3.get? b=some x:=λ b x nb q=>by rw[<-hh3];exact Heap.get?_push_of_some _ (Heap.get?_push_of_some _ ((Heap.get?_update_other _ _ (Ne.symm nb)).trans q))
 have g3:h3.get? a=some (seqObj "list" #[] e1):=by rw[<-hh3];exact Heap.get?_push_of_some _ (Heap.get?_push_of_some _ g1)
 have small:vs.length<=sizeLine:=by rw[sizeLine_eq];lia
 rw[list_sort_plain];refine wpAny_bind (listItems_at ho rfl (wpAny_bind (listUpdate_at ho rfl (wpAny_bind (seqEpoch_at g1 rfl (wpAny_bind (wpAny_newTuple ?_ small)))) (by simpa using small) (Nat.zero_le _))));refine wpAny_bind (wpAny_newList ?_ (Nat.zero_le _));refine wpAny_holding ?_;have hs3:({s with heap:=((s.heap.update a (Obj.mapSeq λ _=>(#[]:Array Value))).push {cls:= .type "tuple",data:= .seq vs.toArray.toList.toArray}).push {cls:= .type "list",data:= .seq ([]:List Value).toArray}}:Shared)={s with heap:=h3}:=by rw[<-hh3]
 rw[hs3];dsimp only
 by_cases h2:vs.toArray.size<2
 ·rw[if_pos h2,if_pos h2];refine wpAny_bind (wpAny_pure ?_);rw[StateT.run_pure];refine wpAny_bind (wpAny_pure ?_);dsimp only;have eo:((vs.toArray.zip vs.toArray).map λ x=>x.2)=vs.toArray:=by apply Array.toList_inj.mp;simp[List.map_snd_zip]
  simp only[eo];refine wpAny_bind (seqEpoch_at g3 rfl (wpAny_bind (listUpdate_at g3 rfl ?_ (Nat.zero_le _) (by simpa using Nat.le_succ_of_le small))));simp only[bne_self_eq_false,Bool.false_eq_true,if_false];obtain⟨e2,g4⟩:∃e2,(h3.update a (Obj.mapSeq λ _=>vs.toArray)).get? a=some (seqObj "list" vs.toArray e2):=⟨_,get?_update_seq g3 λ _=>vs.toArray⟩
  have hlen:vs.length<2:=by simpa using h2
  refine wpAny_pure (fin (List.toArray (List.range vs.length)) _ e2 q9T (λ i j hij hj=>by lia) (λ b x nb q=>(Heap.get?_update_other _ _ (Ne.symm nb)).trans (kp b x nb q)) ?_);rw[q5Z];exact g4
 ·have h2':2<=vs.length:=by have:¬vs.length<2:=(by simpa using h2);lia
  rw[if_neg h2,if_neg h2];obtain⟨so1,so2,so3⟩:=qGO o h2';refine wpAny_bind (wpAny_mono (hk h2' h3 kp) (λ κ s4 h4=>?_) λ _ _ x=>x.elim);obtain⟨rfl,ask⟩:=h4;refine wpAny_bind (wpAny_mono (kat_run (Q:=λ st s5=>s5={s with heap:=h3}/\arrOf st=(run c (kas_sort vs.length)).map (kas_item (vs.toArray.zip vs.toArray))/\failedOf st=none) (G:=λ p s5=>p=run c (kas_sort vs.length)/\s5={s with heap:=h3}) rfl h2' h64 (λ p st s5 a1 a2 a3 a4=>⟨a4.2,by rw[a2,a4.1],a3⟩) (qJ2 ask _ so1 ⟨rfl,rfl⟩)) ?_ λ _ _ x=>x);rintro⟨⟨⟩,st⟩ s5 ⟨rfl,har,hf⟩;dsimp only;rw[kat_snds rfl har];have lp:(pick (run c (kas_sort vs.length)) vs Value.none).length=vs.length:=q3P so2 vs _;refine wpAny_bind (seqEpoch_at g3 rfl (wpAny_bind (listUpdate_at g3 rfl ?_ (Nat.zero_le _) (by show (List.toArray (pick (run c (kas_sort vs.length)) vs Value.none)).size<=_;rw[List.size_toArray,lp];exact Nat.le_succ_of_le small))));rw[hf];simp only[bne_self_eq_false,Bool.false_eq_true,if_false];obtain⟨e2,g4⟩:∃e2,(h3.update a (Obj.mapSeq λ _=>List.toArray (pick (run c (kas_sort vs.length)) vs Value.none))).get? a=some (seqObj "list" (List.toArray (pick (run c (kas_sort vs.length)) vs Value.none)) e2):=⟨_,get?_update_seq g3 λ _=>List.toArray (pick (run c (kas_sort vs.length)) vs Value.none)⟩
  exact wpAny_pure (fin _ _ e2 so2 so3 (λ b x nb q=>(Heap.get?_update_other _ _ (Ne.symm nb)).trans (kp b x nb q)) g4)
theorem q7J {x:Value}{n:Nat}{Gv:List Value->Prop}{c:Nat->Nat->Bool}{Q:Value->Shared->Prop}(h64:n<64) (o:Ord c n) (hlen:∀vs,Gv vs->vs.length=n)
  (hcol:∀(R:List Value->Shared->Prop),(∀vs h' tk,Gv vs->(∀b x,s.heap.get? b=some x->h'.get? b=some x)->R vs {s with heap:=h',toks:=tk})->wpAny (model prog w) A.in1 (collect x) R E s)
  (hk:∀vs,Gv vs->2<=vs.length->∀h' tk,(∀b x,s.heap.get? b=some x->h'.get? b=some x)->wpAny (model prog w) A.in1.in1 (keyKind' vs.toArray) (λ κ s'=>s'={s with heap:=h',toks:=tk}/\∀i j C,i<vs.length->j<vs.length->C (c i j) s'->kas_ask prog w A.in1.in1 κ vs i j C s') (λ _ _=>False) {s with heap:=h',toks:=tk})
  (fin:∀(vs:List Value) (p:Array Nat) (D:Addr) (h':Heap) (tk e:Nat),Gv vs->Pm p n->Up c p n->(∀b x,s.heap.get? b=some x->h'.get? b=some x)->s.heap.get? D=none->h'.get? D=some (seqObj "list" (pick p vs Value.none).toArray e)->Q (.ref D) {s with heap:=h',toks:=tk}) :
  wpAny (model prog w) A (call (.builtin "sorted") [x]) Q E s:=by
 refine Calls.call_function_entry kind_sorted plain_sorted entry_sorted (args_sorted1 _) ?_;unfold Builtin.«sorted»;refine wpAny_bind (m:=checkCount "sorted" 1 1 _) (wpAny_pure (wpAny_bind (hcol _ λ vs h1 tk gv k1=>?_)));have hl:=hlen vs gv;have hle:s.heap.get? h1.objs.size=none:=by
  cases q:s.heap.get? h1.objs.size with
  |none=>rfl
  |some x=>exact absurd (Heap.lt_size (k1 _ _ q)) (Nat.lt_irrefl _)
 refine wpAny_bind (wpAny_newList ?_ (by rw[sizeLine_eq];lia));refine wpAny_bind (wpAny_holding (wpAny_call_entry slot_list_sort ⟨_,Heap.get?_push_size _ rfl,rfl⟩ entry_list_sort (qGP (c:=c) (s:={s with heap:=h1.push {cls:= .type "list",data:= .seq vs.toArray},toks:=tk}) (e0:=0) (Heap.get?_push_size _ rfl) (hl▸h64) (hl▸o) (λ h2 h' k=>?_) λ p h' e P U k g=>?_) (args_list_sort _)))
 ·exact hk vs gv h2 h' tk λ b x q=>k b x (Nat.ne_of_lt (Heap.lt_size (k1 b x q))) (Heap.get?_push_of_some _ (k1 b x q))
 ·exact⟨_,rfl,wpAny_pure ⟨_,rfl,fin vs p _ h' tk e gv (hl▸P) (hl▸U) (λ b x q=>k b x (Nat.ne_of_lt (Heap.lt_size (k1 b x q))) (Heap.get?_push_of_some _ (k1 b x q))) hle g⟩⟩
end
end Srt
namespace Snd
open PySem PySem.Spec PyProof.Rows L2 Ev
variable {H:Hp}{h:Heap}{a:Addr}{ds:List D}
theorem q26 {P:Program}{w:World}{o:HO}(x:q1T P w H h a o):∃ob,h.get? a=some ob:=by
 cases o with
 |lst xs=>obtain⟨_,_,_,_,e⟩:=x;exact⟨_,e⟩
 |tup xs=>obtain⟨_,_,_,o,e,_⟩:=x;exact⟨_,e⟩
 |dK kvs=>obtain⟨_,_,_,_,o,_,_,e,_⟩:=x;exact⟨_,e⟩
 |dT kvs=>obtain⟨_,_,_,_,o,_,_,e,_⟩:=x;exact⟨_,e⟩
 |set S n=>obtain⟨o,_,_,_,e,_⟩:=x;exact⟨_,e⟩
 |ins C dx fs=>obtain⟨_,_,_,e,_⟩:=x;exact⟨_,e⟩
 |own y=>obtain⟨_,e⟩:=x;exact⟨_,e⟩
 |xd fs=>obtain⟨_,⟨_,_,_,e,_⟩,_⟩:=x;exact⟨_,e⟩
 |rng lo hi=>obtain⟨_,_,_,e⟩:=x;exact⟨_,e⟩
 |frz ob u=>obtain⟨e,_⟩:=x;exact⟨_,e⟩
 |tbl ps=>exact⟨_,(show h.get? a=some _ from x)⟩
 |met f y=>exact⟨_,(show h.get? a=some _ from x)⟩
 |ext φ=>obtain⟨_,⟨_,e⟩,_⟩:=x;exact⟨_,e⟩
theorem q4S {P:Program}{w:World}(x:HOk P w H h) (n:h.get? a=none):H a=none:=by
 cases q:H a with
 |none=>rfl
 |some o =>
  obtain⟨ob,e⟩:=q26 (x a o q);rw[n] at e;cases e
theorem qBm {X:Cx}{pins:List (Addr×Obj)}{σ:L2.St}{s:Shared}{h':Heap}{o:HO}{t':Nat}(I:Inv X pins σ H s) (k:∀b u,s.heap.get? b=some u->h'.get? b=some u) (hn:s.heap.get? a=none) (new:q1T X.prog X.w (upd H a o) h' a o) :
  Inv X pins σ (upd H a o) {s with heap:=h',toks:=t'}:=by
 have hf:=q4S I.hok hn;have nb:∀b u,s.heap.get? b=some u->b≠a:=λ b u e z=>by rw[z,hn] at e;cases e
 refine I.un ⟨λ b u q _ _ _=>k b u q,λ b u q _ _ _=>⟨u.slots,k b u q⟩,λ b u q n _=>by rw[q06 (nb b u q)];exact n,λ b u q _=>⟨u,k b u q⟩,λ b xs q=>by rw[q06 (q08 q hf)];exact q,λ b u xs q=>by rw[q06 (q08 q hf)];exact q,λ b ps q=>⟨#[],by rw[q06 (q08 q hf),q];simp⟩⟩ λ b u e=>?_
 by_cases hb:b=a
 ·subst hb;rw[q0E] at e;cases e;exact new
 ·rw[q06 hb] at e;exact (I.hok b u e).stay (λ c v _ q=>k c v q) (λ c q=>by rw[q06 (q08 q hf)];exact q) λ c xs q=>by rw[q06 (q08 q hf)];exact q
theorem q4s {h':Heap}(k:∀b o,h.get? b=some o->h'.get? b=some o):(∀d u,Dv h d u->Dv h' d u)/\(∀ds us,DvL h ds us->DvL h' ds us):=by
 refine D.ind (P:=λ d=>∀u,Dv h d u->Dv h' d u) (Q:=λ ds=>∀us,DvL h ds us->DvL h' ds us)
  (λ u r=>r) (λ _ u r=>r) (λ _ u r=>r) (λ _ u r=>r) (λ l ih u r=>?_) (λ l ih u r=>?_) (λ _ _ _ _ u r=>r) (λ _ u r=>r) (λ us r=>r) (λ d ds ih1 ih2 us r=>?_)
 ·obtain⟨a,us,rfl,⟨o,e,c⟩,r1⟩:=r;exact⟨a,us,rfl,⟨o,k _ _ e,c⟩,ih _ r1⟩
 ·obtain⟨a,us,rfl,⟨o,e,c⟩,r1⟩:=r;exact⟨a,us,rfl,⟨o,k _ _ e,c⟩,ih _ r1⟩
 ·obtain⟨u,r',rfl,h1,h2⟩:=r;exact⟨u,r',rfl,ih1 _ h1,ih2 _ h2⟩
theorem q6K:∀l:List D,(dedup l).length<=l.length
 |[]=>Nat.le_refl _
 |x::l=>by
  unfold dedup;split
  ·exact Nat.le_succ_of_le (q6K l)
  ·exact Nat.succ_le_succ (q6K l)
theorem q5a:∀{l:List D},qDE l=true->(∀d∈l,q03 d=true)->l.Pairwise (·≠·)
 |[],_,_=> .nil
 |x::l,h,hh=>by
  have h':(dedup (x::l)).length=(x::l).length:=of_decide_eq_true h;unfold dedup at h';split at h'
  ·have:=q6K l;simp only[List.length_cons] at h';lia
  ·rename_i c;refine List.pairwise_cons.mpr ⟨λ y hy z=>c ?_,q5a (decide_eq_true (by simpa using h')) λ d hd=>hh d (List.mem_cons_of_mem _ hd)⟩;refine List.any_eq_true.mpr ⟨y,hy,(q0Y (hh x List.mem_cons_self) (hh y (List.mem_cons_of_mem _ hy))).mpr z⟩
structure SoOk (ds:List D):Prop where
 len:ds.length<64
 hsh:∀d∈ds,q03 d=true
 pln:∀d∈ds,pl d=true
 cmp:∀a∈ds,∀b∈ds,q0o a b=true
 dif:ds.Pairwise (·≠·)
theorem q8W (h:q1I ds=true):SoOk ds/\((∀d∈ds,q1w d=true)\/∀d∈ds,q2m d=true):=by unfold q1I at h;simp only[Bool.and_eq_true,Bool.or_eq_true,List.all_eq_true] at h;obtain⟨⟨⟨⟨⟨h1,h2⟩,h3⟩,h4⟩,h5⟩,h6⟩:=h;have h2':=q0S.mp h2;refine⟨⟨of_decide_eq_true h1,h2',q1f.mp h3,λ a ha b hb=>?_,q5a h5 h2'⟩,h6⟩;unfold q3D at h4;simp only[List.all_eq_true] at h4;exact h4 a ha b hb
def cOf (ds:List D) (i j:Nat):Bool:=ltb (ds.getD i .non) (ds.getD j .non)
theorem getD_mem {i:Nat}(h:i<ds.length):ds.getD i .non∈ds:=by
 have:ds.getD i .non=ds[i]:=by simp[h]
 rw[this];exact List.getElem_mem h
theorem SoOk.ord (h:SoOk ds):Srt.Ord (cOf ds) ds.length:=by
 refine⟨λ i hi=>q8J (h.hsh _ (getD_mem hi)),λ i j hi hj ne hc=>?_,λ i j k hi hj hk a b=>q4e (h.hsh _ (getD_mem hi)) (h.hsh _ (getD_mem hj)) (h.hsh _ (getD_mem hk)) a b⟩;rcases q8L (h.hsh _ (getD_mem hi)) (h.hsh _ (getD_mem hj)) (h.cmp _ (getD_mem hi) _ (getD_mem hj)) with z|z|z
 ·have hc':ltb (ds.getD i .non) (ds.getD j .non)=false:=hc;rw[z] at hc';cases hc'
 ·exfalso;have ei:ds.getD i .non=ds[i]:=by simp[hi]
  have ej:ds.getD j .non=ds[j]:=by simp[hj]
  rw[ei,ej] at z;rcases Nat.lt_or_gt_of_ne ne with l|l
  ·exact List.pairwise_iff_getElem.mp h.dif i j hi hj l z
  ·exact List.pairwise_iff_getElem.mp h.dif j i hj hi l z.symm
 ·exact z
theorem q7K (h:SoOk ds) {p:Array Nat}(P:Srt.Pm p ds.length) (U:Srt.Up (cOf ds) p ds.length):Srt.pick p ds .non=q1F ds:=by
 have perm:(Srt.pick p ds .non).Perm ds:=by
  have:=P.perm.map λ i=>ds.getD i .non;have e:(List.range ds.length).map (λ i=>ds.getD i .non)=ds:=by have:=Srt.q5Z ds (.non:D);unfold Srt.pick at this;simpa using this
  rw[e] at this;exact this
 have hm:∀d∈Srt.pick p ds .non,d∈ds:=λ d hd=>perm.mem_iff.mp hd;refine q3j (perm.trans (q0d ds).symm) (λ d hd=>h.hsh d (hm d hd)) (λ a ha b hb=>h.cmp a (hm a ha) b (hm b hb)) ?_ (q1R h.hsh);refine List.pairwise_iff_getElem.mpr λ i j hi hj hij=>?_;have li:i<ds.length:=by rw[<-Srt.q3P P ds .non];exact hi
 have lj:j<ds.length:=by rw[<-Srt.q3P P ds .non];exact hj
 have at1:∀k (hk:k<(Srt.pick p ds .non).length),(Srt.pick p ds .non)[k]=ds.getD (Srt.at_ p k) .non:=λ k hk=>by
  have lk:k<p.size:=by rw[P.sz,<-Srt.q3P P ds .non];exact hk
  simp[Srt.pick,Srt.at_,Array.getD_eq_getD_getElem?,lk]
 rw[at1 i hi,at1 j hj];have:=U i j hij lj;exact h.ord.asym (P.lt i li) (P.lt j lj) this
end Snd
namespace Snd
open PySem PySem.Spec PySem.W PyProof.Rows L2 Ev
variable {ds:List D}{us:List Value}
section
variable {prog:Program}{w:World}{A:Around}{E:Value->Shared->Prop}{s:Shared}
theorem qF5 {k:Nat}(hu:A.units+k<cLine) {b fin:Bool}{Q:Bool->Shared->Prop}:∀{ds es:List D}{us vs:List Value}(i:Nat),1<=i->DvL s.heap ds us->DvL s.heap es vs->(∀d∈ds,plN k d=true)->(∀d∈es,plN k d=true)->(∀d∈ds,q03 d=true)->(∀d∈es,q03 d=true)->
  q0t ds es=true->fin=decide (ds.length<es.length)->Q (ltbL ds es) s->KatLex prog w A b fin Q (us.zip vs) i s
 |[],es,us,vs,i,hi,x,y,p1,p2,g1,g2,c,hf,q=>by
  cases (show us=[] from x);rw[List.zip_nil_left];refine kat_nil ?_;rw[hf];cases es with
  |nil=>simpa[ltbL] using q
  |cons e es=>simpa[ltbL] using q
 |d::ds,[],us,vs,i,hi,x,y,p1,p2,g1,g2,c,hf,q=>by cases (show vs=[] from y);rw[List.zip_nil_right];refine kat_nil ?_;rw[hf];simpa[ltbL] using q
 |d::ds,e::es,us,vs,i,hi,x,y,p1,p2,g1,g2,c,hf,q=>by
  obtain⟨u,us',rfl,x1,x2⟩:=x;obtain⟨v,vs',rfl,y1,y2⟩:=y;rw[List.zip_cons_cons];have pd:=p1 d List.mem_cons_self;have pe:=p2 e List.mem_cons_self;have gd:=g1 d List.mem_cons_self;have ge:=g2 e List.mem_cons_self;rw[ltbL] at q;rw[q0t] at c;refine kat_cons (q2p k pd pe x1 y1 hu prog w _ _ ?_);cases z:eqb d e with
  |true =>
   rw[z,if_pos rfl] at q c;refine kat_yes (qF5 hu (i+1) (by lia) x2 y2 (λ d hd=>p1 d (List.mem_cons_of_mem _ hd)) (λ d hd=>p2 d (List.mem_cons_of_mem _ hd)) (λ d hd=>g1 d (List.mem_cons_of_mem _ hd)) (λ d hd=>g2 d (List.mem_cons_of_mem _ hd)) c ?_ q);rw[hf];simp
  |false =>
   rw[z,if_neg (by simp)] at q c;refine kat_no ?_;have hb:(b&&i==0)=false:=by have:(i==0)=false:=(by simp;lia);rw[this,Bool.and_false]
   rw[hb];exact kat_one _ _ ((qBW k pd pe gd ge c x1 y1 hu).1 prog w _ _ q)
theorem qJ3 {k:Nat}(hu:A.units+k<cLine) {Q:Bool->Shared->Prop}{d e:D}{u v:Value}(td:q2m d=true) (te:q2m e=true) (x:Dv s.heap d u) (y:Dv s.heap e v) (p1:plN (k+1) d=true) (p2:plN (k+1) e=true) (g1:q03 d=true) (g2:q03 e=true)
  (c:q0o d e=true) (q:Q (ltb d e) s):wpAny (model prog w) A (keyLt' (tuples' true) u v) Q E s:=by
 unfold q2m at td te;split at td
 ·rename_i i ds;split at te
  ·rename_i j es;obtain⟨a,us,rfl,⟨ox,hx,cx,n1,dx⟩,x1⟩:=x;obtain⟨b,vs,rfl,⟨oy,hy,cy,n2,dy⟩,y1⟩:=y;obtain⟨u1,us',rfl,⟨t1,rfl⟩,x2⟩:=x1;obtain⟨v1,vs',rfl,⟨t2,rfl⟩,y2⟩:=y1;rw[q1e,List.all_eq_true] at p1 p2;have g1':q0A (D.int i::ds)=true:=g1;have g2':q0A (D.int j::es)=true:=g2;have g1'':=q0S.mp g1';have g2'':=q0S.mp g2';have c':q0t (D.int i::ds) (D.int j::es)=true:=c;have q':Q (ltbL (D.int i::ds) (D.int j::es)) s:=q;refine kat_lt hx dx hy dy ?_;show KatLex prog w A true _ Q ((Value.int i t1,Value.int j t2)::us'.zip vs') 0 s;refine kat_cons (SeqAt.EqAt.int_int i t1 j t2 prog w _ _ ?_);rw[ltbL] at q';rw[q0t] at c';have lx:=x2.length;have ly:=y2.length;have eq1:eqb (D.int i) (D.int j)=(i==j):=by have:eqb (D.int i) (D.int j)=decide (i=j):=(by simp[eqb]);rw[this,Bool.eq_iff_iff];simp
   rw[eq1] at q' c';cases z:(i==j) with
   |true =>
    rw[z,if_pos rfl] at q' c';refine kat_yes (qF5 hu 1 (Nat.le_refl _) x2 y2 (λ d hd=>p1 d (List.mem_cons_of_mem _ hd)) (λ d hd=>p2 d (List.mem_cons_of_mem _ hd)) (λ d hd=>g1'' d (List.mem_cons_of_mem _ hd)) (λ d hd=>g2'' d (List.mem_cons_of_mem _ hd)) c' ?_ q');simp[lx,ly]
   |false =>
    rw[z,if_neg (by simp)] at q' c';refine kat_no ?_;have e3:ltb (D.int i) (D.int j)=decide (i<j):=(by simp[ltb]);rw[e3] at q';exact oneLt_int q'
  ·cases te
 ·cases td
theorem q7L {h:Heap}:∀{ds:List D}{us:List Value},DvL h ds us->(∀d∈ds,q2m d=true)->∃fs,KatTups h us fs/\fs.length=ds.length/\∀f∈fs,∃i t,f=Value.int i t
 |[],us,x,_=>by cases (show us=[] from x);exact⟨[],KatTups.nil,rfl,λ f hf=>absurd hf (by simp)⟩
 |d::ds,us,x,t=>by
  obtain⟨u,r,rfl,x1,x2⟩:=x;obtain⟨fs,k1,k2,k3⟩:=q7L x2 λ d hd=>t d (List.mem_cons_of_mem _ hd);have td:=t d List.mem_cons_self;unfold q2m at td;split at td
  ·rename_i i0 tl0;obtain⟨a,us,rfl,⟨ox,hx,cx,n1,dx⟩,y1⟩:=x1;obtain⟨u1,us',rfl,⟨t1,rfl⟩,y2⟩:=y1;refine⟨Value.int i0 t1::fs,KatTups.cons hx cx dx (by simp) k1,by simp[k2],λ f hf=>?_⟩;rcases List.mem_cons.mp hf with rfl|hf
   ·exact⟨_,_,rfl⟩
   ·exact k3 f hf
  ·cases td
theorem q6L {h:Heap}(x:DvL h ds us) {i:Nat}(hi:i<ds.length):Dv h (ds.getD i .non) (us.getD i Value.none):=by
 obtain⟨u,e1,e2⟩:=x.get (i:=i) (d:=ds[i]) (by simp[hi]);have e3:ds.getD i .non=ds[i]:=by simp[hi]
 have e4:us.getD i Value.none=u:=by simp[List.getD,e1]
 rw[e3,e4];exact e2
theorem qBn (hu:A.units+8<cLine) (so:SoOk ds) (hk:(∀d∈ds,q1w d=true)\/∀d∈ds,q2m d=true) (x:DvL s.heap ds us) (h2:2<=us.length) :
  wpAny (model prog w) A (keyKind' us.toArray) (λ κ s'=>s'=s/\∀i j C,i<us.length->j<us.length->C (cOf ds i j) s'->kas_ask prog w A κ us i j C s') (λ _ _=>False) s:=by
 have hl:=x.length;rcases hk with hk|hk
 ·have allI:∀u∈us,∃i t,u=Value.int i t:=λ u hu=>by
   obtain⟨d,hd,dv⟩:=x.mem hu;have:=hk d hd;unfold q1w at this;split at this
   ·obtain⟨t,e⟩:=dv;exact⟨_,t,e⟩
   ·cases this
  refine kas_kind (T:= .type "int") h2 (λ v hv=>?_) (by decide) (by decide) ⟨rfl,λ i j C hi hj hC=>?_⟩
  ·obtain⟨i,t,rfl⟩:=allI v hv;exact Looks.of_pure rfl
  ·have di:=q6L x (i:=i) (by lia);have dj:=q6L x (i:=j) (by lia);have ki:=hk _ (getD_mem (ds:=ds) (i:=i) (by lia));have kj:=hk _ (getD_mem (ds:=ds) (i:=j) (by lia));unfold cOf at hC;unfold kas_ask;unfold q1w at ki kj;split at ki
   ·rename_i m e1;split at kj
    ·rename_i n e2;rw[e1] at di hC;rw[e2] at dj hC;obtain⟨t1,f1⟩:=di;obtain⟨t2,f2⟩:=dj;rw[f1,f2];refine kat_lt_int ?_;have e3:ltb (D.int m) (D.int n)=decide (m<n):=(by simp[ltb]);rw[e3] at hC;exact hC
    ·cases kj
   ·cases ki
 ·obtain⟨fs,k1,k2,k3⟩:=q7L x hk;refine kat_kind (T:= .type "int") k1 (by lia) (λ v hv=>?_) (by decide) ⟨rfl,λ i j C hi hj hC=>?_⟩
  ·obtain⟨i,t,rfl⟩:=k3 v hv;exact Looks.of_pure rfl
  ·have mi:=getD_mem (ds:=ds) (i:=i) (by lia);have mj:=getD_mem (ds:=ds) (i:=j) (by lia);exact qJ3 (k:=7) (by lia) (hk _ mi) (hk _ mj) (q6L x (by lia)) (q6L x (by lia)) (so.pln _ mi) (so.pln _ mj) (so.hsh _ mi) (so.hsh _ mj) (so.cmp _ mi _ mj) hC
end
section
variable {X:Cx}{p:Pm}{G:Nat->List D->R D}{sub:Nat->Nat->Bool}
theorem q9U {Hf:Hp}{ds:List D}{vs:List V}(r:RepL p Hf ds vs):∀{l:List Nat},(∀i∈l,i<ds.length)->RepL p Hf (l.map λ i=>ds.getD i .non) (l.map λ i=>vs.getD i .non)
 |[],_=>rfl
 |i::l,h=>by
  have hi:=h i List.mem_cons_self;obtain⟨v,e1,e2⟩:=r.get (i:=i) (d:=ds[i]) (by simp[hi]);refine⟨vs.getD i .non,_,rfl,?_,q9U r λ i hi=>h i (List.mem_cons_of_mem _ hi)⟩;have e3:ds.getD i .non=ds[i]:=by simp[hi]
  have e4:vs.getD i .non=v:=by simp[List.getD,e1]
  dsimp only;rw[e3,e4];exact e2
theorem q7M {vs:List V}{us:List Value}(r:Vals vs us):∀{l:List Nat},(∀i∈l,i<vs.length)->Vals (l.map λ i=>vs.getD i .non) (l.map λ i=>us.getD i Value.none)
 |[],_=> .nil
 |i::l,h=>by
  have hi:=h i List.mem_cons_self;obtain⟨u,e1,e2⟩:=r.get (i:=i) (x:=vs[i]) (by simp[hi]);have e3:vs.getD i .non=vs[i]:=by simp[hi]
  have e4:us.getD i Value.none=u:=by simp[List.getD,e1]
  refine .cons ?_ (q7M r λ i hi=>h i (List.mem_cons_of_mem _ hi));dsimp only;rw[e3,e4];exact e2
theorem q4t {E:Value->Shared->Prop}{pins:List (Addr×Obj)}{s:Shared}{σ:L2.St}{H:Hp}{O:List Addr}{vs:List V}{q:Array Nat}{Dd:Addr}{h':Heap}{tk e n:Nat}(I:Inv X pins σ H s) (t:Th O H) (r1:RepL p (fz O H) ds vs) (rv:Vals vs us) (hz:vs.length<=sizeLine)
  (P:Srt.Pm q n) (hn:n=ds.length) (k:∀b x,s.heap.get? b=some x->h'.get? b=some x) (nD:s.heap.get? Dd=none) (g:h'.get? Dd=some (seqObj "list" (Srt.pick q us Value.none).toArray e)) :
  EP (X.wish E) pins σ (Fin p O H (.lst (Srt.pick q ds .non))) (.ref Dd) {s with heap:=h',toks:=tk}:=by
 have hl:=r1.length;have lt:∀i∈q.toList,i<ds.length:=λ i hi=>by have:=P.perm.mem_iff.mp hi;rw[<-hn];exact List.mem_range.mp this
 have lt2:∀i∈q.toList,i<vs.length:=λ i hi=>hl▸lt i hi;have hf:=q4S I.hok nD;refine⟨.ref Dd,upd H Dd (.lst (Srt.pick q vs .non)),(qBm (o:= .lst (Srt.pick q vs .non)) I k nD ⟨?_,_,_,q7M rv lt2,g⟩).wish E,rfl,Ext.upd hf,Dd,_,rfl,SqL.of (q9L t hf),(q9U r1 lt).mono (q1J (Ext.upd hf))⟩;rw[Srt.q3P P,hn,hl];exact hz
def Yld (X:Cx) (p:Pm) (A:Around) (E:Value->Shared->Prop) (s:Shared) (Hf:Hp) (ds:List D) (x:Value):Prop :=
 ∃vs:List V,RepL p Hf ds vs/\vs.length<=sizeLine/\∀(R:List Value->Shared->Prop),(∀us h' tk,Vals vs us->(∀b x,s.heap.get? b=some x->h'.get? b=some x)->R us {s with heap:=h',toks:=tk})->wpAny (model X.prog X.w) A (collect x) R E s
theorem qF6 (hK:p.K=X.K) (hc:X.calm=true) {A:Around}(hA:A.handled=none) {E:Value->Shared->Prop}{pins:List (Addr×Obj)}{s:Shared}{σ:L2.St}{H:Hp}{O:List Addr}{d:D}{v:V}{u:Value}(I:Inv X pins σ H s) (rv:RelV v u) (q:RepB p H (fz O H) d v) (hi:q0L d = .ok ds) :
  Yld X p A E s (fz O H) ds u:=by
 cases d<;>first
  |(exfalso;simpa[q0L] using hi)
  |skip
 ·cases hi;obtain⟨a,vs,rfl,s1,z,r1⟩:=q;cases rv;obtain⟨its,rv,⟨o,ho,hcl,n,hd⟩,hz⟩:=I.tuple (hK▸q0b.sqT s1:SqT X.K H a vs);exact⟨vs,r1,hz,λ R hR=>wpAny_collect_seq a (.inr rfl) ho hcl hd (λ h' k=>by simpa using hR its h' s.toks rv k) (by simpa[<-rv.length] using hz)⟩
 ·cases hi;obtain⟨a,vs,rfl,s1,r1⟩:=q;cases rv;obtain⟨its,rv,pt,hz⟩:=I.list (hK▸s1:SqL X.K H a vs);obtain⟨o,ho,hcl,n,hd⟩:=pt.isList;exact⟨vs,r1,hz,λ R hR=>wpAny_collect_seq a (.inl rfl) ho hcl hd (λ h' k=>by simpa using hR its h' s.toks rv k) (by simpa[<-rv.length] using hz)⟩
 ·rename_i ks ws;obtain⟨a,kvs,rfl,s1,rfl,r1⟩:=q;cases rv;have hki:(ints? (kvs.map λ q=>keyD q.1)).isSome=true:=by
   cases h:(ints? (kvs.map λ q=>keyD q.1)).isSome with
   |true=>rfl
   |false=>simp[q0L,h] at hi
  have e0:q0L (.dct (kvs.map λ q=>keyD q.1) ws) = .ok (kvs.map λ q=>keyD q.1):=by simp[q0L,hki]
  rw[e0] at hi;cases hi;obtain⟨z,hd,xs,rel,o,es,ep,h1,h2,h3,h4,h5,h6⟩:=q8A I.hok s1;have hl:=KV.length rel;refine⟨_,q6D hki,by simpa using z,λ R hR=>PySem.W.kdu_collect (A:=A) (PySem.W.kdl_dict (kvs:=xs) (ep:=ep) hd) hA ⟨o,es,h1,h2,h3,h4,h5,h6⟩ (hl▸z) λ h' tk acc hk hacc=>hR _ h' tk ?_ hk⟩;obtain⟨a1,a2⟩:=hacc;have hlen:acc.toList.length=kvs.length:=by rw[Array.length_toList,a1,hl]
  have all:∀(ks:List (Key×V)) (us:List Value),us.length=ks.length->(∀(i:Nat) (q:Key×V) (u:Value),ks[i]? = some q->us[i]? = some u->RelV (kV q.1) u)->Vals (ks.map λ q=>kV q.1) us:=by
   intro ks
   induction ks with
   |nil=>intro us hl _;cases us with
    |nil=>exact .nil
    |cons _ _=>simp at hl
   |cons q ks ih=>intro us hl h;cases us with
    |nil=>simp at hl
    |cons u us=>exact .cons (h 0 q u rfl rfl) (ih us (by simpa using hl) λ i q u e1 e2=>h (i+1) q u (by simpa using e1) (by simpa using e2))
  refine all kvs acc.toList hlen λ i q u e1 e2=>?_;have hi:i<acc.size:=by have:=(List.getElem?_eq_some_iff.mp e2).1;simpa using this
  obtain⟨k',x',b1,b2⟩:=a2 i u (by simpa using e2);obtain⟨u',hu'⟩:=KV.key rel e1;rw[b1] at hu';cases hu';exact qIw b2
theorem qBo (hK:p.K=X.K) (hc:X.calm=true) (hu:X.A.units+64<cLine):BS X p sub .sorted (.builtin "sorted"):=by
 intro E pins s σ H os d r v u I t rv q h;cases hi:q0L d with
 |stuck=>exact absurd (show (q0L d).bind _ = .ok r from h) (by rw[hi];intro z;cases z)
 |err c=>exact absurd (show (q0L d).bind _ = .ok r from h) (by rw[hi];intro z;cases z)
 |ok ds =>
  have h':(if q1I ds then R.ok (D.lst (q1F ds)) else .stuck) = .ok r:=by rw[<-h];show _=(q0L d).bind _;rw[hi];rfl
  split at h'
  ·rename_i so;cases h';obtain⟨sk,kd⟩:=q8W so;obtain⟨vs,r1,hz,hcol⟩:=qF6 (E:=E) hK hc (A:=X.A.in1) (I.ok.hd hc) I rv q hi;refine Srt.q7J (Gv:=λ us=>Vals vs us) sk.len sk.ord (λ us rvs=>by rw[<-rvs.length,<-r1.length]) hcol (λ us rvs h2 h' tk k=>?_) λ us q D h' tk e rvs P U k nD g=>?_
   ·exact qBn (s:={s with heap:=h',toks:=tk}) (by show X.A.units+1+1+8<cLine;lia) sk kd ((q4s k).2 _ _ ((q2L hK I).2 ds vs us (r1.mono q0b) rvs)) h2
   ·rw[<-q7K sk P U];exact q4t I t r1 rvs hz P rfl k nD g
  ·cases h'
end
end Snd
namespace Snd
open PySem PySem.Spec PyProof.Rows L2 Ev
variable {h:Heap}{pins:List (Addr×Obj)}{σ:L2.St}{H:Hp}{b:Addr}{c:Nat}
def TrW (B:Heap) (l:List PySem.Env) (e:Addr) (cls a0 fl:Value) (h:Heap):Prop:=B.StaysIn h/\B.get? e=none/\h.FunFrames B l/\h.TracedAtW B e cls a0 fl
section
variable {M:Model}{A:Around}{E:Value->Shared->Prop}{s:Shared}{B:Heap}{l outer:List PySem.Env}{env:PySem.Env}{e L:Addr}{cls a0 fl:Value}{Q:Unit->Shared->Prop}
theorem qDk {o:Option Addr}(h:TrW B l e cls a0 fl s.heap) (hQ:∀h',TrW B l e cls a0 (o.elim Value.none λ f=>rawInt f) h'->s.heap.UpToSlots h'->Q () {s with heap:=h'}):wpAny M A (setFlight (.ref e) o) Q E s:=by
 obtain⟨k1,k2,k3,oe,vs,T,oT,ts,g1,g2,g3,g4,g5,g6,g7,g8,g9⟩:=h;have sz:3<ts.size:=(Array.getElem?_eq_some_iff.mp g9).1;generalize hv:(o.elim Value.none λ f=>rawInt f)=fv at hQ;have oth:∀b,b≠T->(s.heap.update T (Obj.mapFields λ x=>x.setIfInBounds 3 fv)).get? b=s.heap.get? b:=λ b nb=>Heap.get?_update_other _ _ (Ne.symm nb);have nrec:∀b x,s.heap.get? b=some x->(∀vs,x.data ≠ .fields vs)->b≠T:=λ b x q nf z=>by rw[z,g7] at q;cases q;exact nf ts g8
 unfold setFlight;refine wpAny_bind (wpAny_field g1 g3 g4 ?_);have ht:(Value.ref T != Value.none)=true:=by simp
 rw[if_pos ht,hv];refine wpAny_setField g7 g8 sz (hQ _ ⟨λ b x q=>(oth b λ z=>by rw[z,g5] at q;cases q).trans (k1 b x q),k2,k3.of_keeps λ b x q nf=>⟨x,(oth b (nrec b x q nf)).trans q,rfl⟩,?_⟩ λ b x q nf=>⟨x.slots,(oth b (nrec b x q nf)).trans q⟩);exact⟨oe,vs,T,_,_,(oth e (Ne.symm g6)).trans g1,g2,g3,g4,g5,g6,Heap.get?_update_self _ g7 (Obj.isFreed_of_fields (Obj.data_mapFields g8 _)),Obj.data_mapFields g8 _,by simp[sz]⟩
theorem qF7 (hfr:A.frames=some (env::outer)) (hf:env.frame=some L) (h:TrW B (env::outer) e cls a0 fl s.heap) (hfl:fl = .none\/fl=rawInt L) (hQ:∀h',TrW B (env::outer) e cls a0 (rawInt L) h'->s.heap.UpToSlots h'->Q () {s with heap:=h'}) :
  wpAny M A (noteFrame (.ref e) env) Q E s:=by
 rcases hfl with rfl|rfl
 ·exact wpAny_looks_onW hfr hf h hQ
 ·exact wpAny_noteFrame_againW hf h.2.2.2 (hQ s.heap h (Heap.UpToSlots.refl _))
theorem qDl {args:List Value}(hfr:A.frames=some (env::outer)) (hf:env.frame=some L) (hkb:B.StaysIn h) (hl:h.FunFrames B (env::outer)) (hx:Heap.MadeExcOf h s.heap e cls args)
  (hQ:∀h' t,TrW B (env::outer) e cls (.ref t) (rawInt L) h'->s.heap.UpToSlots h'->Q () {s with heap:=h'}):wpAny M A (noteFrame (.ref e) env) Q E s:=by
 obtain⟨t,g1,g2,g3⟩:=hx.there;have ne:B.get? e=none:=by
  cases q:B.get? e with
  |none=>rfl
  |some o=>have:=hkb e o q;rw[hx.new] at this;cases this
 have kb:B.StaysIn s.heap:=λ b o q=>hx.keeps b o (hkb b o q);unfold noteFrame;simp only[hf];refine wpAny_bind (wpAny_field g1 rfl (x:= .none) rfl ?_);have hn:¬((Value.none != Value.none)=true):=by decide
 rw[if_neg hn];refine wpAny_entryW (a0:= .ref t) hfr (hl.of_keeps λ b o q _=>⟨o,hx.keeps b o q,rfl⟩) hf g1 kb ne rfl (by simp) rfl λ h' hN=>?_;obtain⟨n1,n2,n3,n4⟩:=hN;exact hQ h' t ⟨n1,ne,n2,n3⟩ n4
end
section
variable {X:Cx}{p:Pm}
theorem q9V (ok:X.Ok):∀b∈X.fs,b∈frs X.stack:=λ b hb=>by
 rcases ok.stk with e|⟨e,hf⟩
 ·rw[e];exact hb
 ·rw[e];unfold frs;rw[List.filterMap_cons,hf];exact List.mem_cons_of_mem _ hb
theorem q1i {s:Shared}{B h':Heap}(I:Inv X pins σ H s) (b:BOk X pins H B) (st:B.StaysIn h') (up:s.heap.UpToSlots h'):Inv X pins σ H {s with heap:=h'}:=by
 have nst:∀c o,X.s₀.heap.get? c=some o->c∉X.fs->c∉frs X.stack:=λ c o e hc hm=>by
  rcases List.mem_cons.mp (I.q39 c hm) with z|z
  ·exact absurd (Nat.lt_of_lt_of_le (Heap.lt_size e) I.ok.above) (by rw[z];exact Nat.lt_irrefl _)
  ·exact hc z
 have hok:HOk X.prog X.w H h':=b.hok.kept st;have slot:∀c o,X.s₀.heap.get? c=some o->X.H₀ c=none->c∈X.fs->c∉X.ex->∃sl,h'.get? c=some {o with slots:=sl}:=λ c o e n hc hx=>by obtain⟨sl,e1⟩:=I.base.slot c o e n hc hx;obtain⟨_,o',ho',hd'⟩:=I.ok.funs.mem hc;rw[e] at ho';cases ho';obtain⟨sl',e2⟩:=up c _ e1 hd';exact⟨sl',e2⟩
 have cellK:∀c v,s.heap.IsCell c v->h'.IsCell c v:=λ c v ⟨o,e,d⟩=>by
  obtain⟨sl,e2⟩:=up c o e λ vs z=>by rw[d] at z;cases z
  exact⟨_,e2,d⟩
 refine⟨I.ok,I.os,I.bare,⟨λ c o e n hc hx=>?_,slot,I.base.free,λ c o e hx=>?_,I.base.tups,I.base.frzs,I.base.tbls⟩,?_,λ x c e=>?_,I.free,I.freeC,λ q hq=>?_,hok,I.len⟩
 ·exact st _ _ (b.keep c o e n (nst c o e hc) hx)
 ·by_cases hc:c∈X.fs
  ·obtain⟨sl,e2⟩:=slot c o e (I.ok.frf c hc) hc hx;exact⟨_,e2⟩
  ·obtain⟨o',e2⟩:=b.there c o e (nst c o e hc) hx;exact⟨_,st _ _ e2⟩
 ·obtain⟨m,hn,hl⟩:=I.loc;refine⟨m,up.ns hn,λ i x v e1 e2 e3=>?_⟩;obtain⟨u,r,l⟩:=hl i x v e1 e2 e3;refine⟨u,r,?_⟩;rcases l with l|⟨k,c,e,z⟩
  ·exact .inl l
  ·exact .inr ⟨k,c,e,cellK c _ z⟩
 ·obtain⟨v,z⟩:=I.cell x c e;exact⟨v,cellK c v z⟩
 ·obtain⟨_,n,ne,nf,d⟩:=I.pin q hq;exact⟨st _ _ (b.pin q hq),n,ne,nf,d⟩
def hidF (X:Cx) (h:Heap):Heap:=PySem.W.hideAll h (frs X.stack)
theorem q4T {o:Obj}(e:h.get? b=some o) (n:b∉frs X.stack):(hidF X h).get? b=some o:=PySem.W.hideAll_get _ e n
theorem qGQ {o:Obj}(e:(hidF X h).get? b=some o):h.get? b=some o:=PySem.W.of_hideAll _ e
theorem qBp (hb:b∈frs X.stack):(hidF X h).get? b=none:=PySem.W.hideAll_none _ hb
theorem q9W {s:Shared}(I:Inv X pins σ H s):BOk X pins H (hidF X s.heap):=by
 have nfr:∀b o,H b=some o->b∉frs X.stack:=λ b o e hm=>by rw[I.q89 b hm] at e;cases e
 refine⟨λ a o e=>?_,λ b o e n hb hx=>?_,λ b o e hb hx=>?_,λ q hq=>?_⟩
 ·refine (I.hok a o e).stay (λ c v hc q=>q4T q ?_) (λ _ q=>q) λ _ _ q=>q;rcases hc with rfl|hc
  ·exact nfr _ _ e
  ·exact nfr _ _ hc
 ·exact q4T (I.base.keep b o e n (λ z=>hb (q9V I.ok b z)) hx) hb
 ·obtain⟨o',e'⟩:=I.base.there b o e hx;exact⟨o',q4T e' hb⟩
 ·obtain⟨e,n,ne,nf,d⟩:=I.pin q hq;refine q4T e λ z=>?_;rcases List.mem_cons.mp (I.q39 _ z) with z|z
  ·exact ne z
  ·exact nf z
theorem q8X {s:Shared}(I:Inv X pins σ H s):s.heap.FunFrames (hidF X s.heap) X.stack:=by
 have all:∀l:List PySem.Env,(∀b∈frs l,b∈frs X.stack)->s.heap.FunFrames X.base l->s.heap.FunFrames (hidF X s.heap) l:=by
  intro l
  induction l with
  |nil=>intro _ _;trivial
  |cons env r ih =>
   intro hs hl;obtain⟨hk,⟨L,o,hf,hn,ho,hd⟩,hr⟩:=hl;have hL:L∈frs X.stack:=hs L (by unfold frs;rw[List.filterMap_cons,hf];exact List.mem_cons_self);exact⟨hk,⟨L,o,hf,qBp hL,ho,hd⟩,ih (λ b hb=>hs b (by unfold frs;rw[List.filterMap_cons,hf];exact List.mem_cons_of_mem _ hb)) hr⟩
 exact all X.stack (λ _ hb=>hb) I.stack
structure Top (X:Cx):Prop where
 stk:X.stack=X.env::X.outer
 frame:X.env.frame=some X.env.locals
theorem Top.frames (T:Top X) (ok:X.Ok):X.A.frames=some (X.env::X.outer):=by rw[ok.frames,T.stk]
theorem q6M {E:Value->Shared->Prop}{Q:Unit->Shared->Prop}{e:Value}{s:Shared}(T:Top X) (m:Mid X p pins σ H c e s)
  (hQ:∀H' a C B t h',e = .ref a->p.cls[c]? = some C->Ext H H'->Inv X pins σ H' {s with heap:=h'}->BOk X pins H' B->TrW B X.stack a (.ref C) (.ref t) (rawInt X.env.locals) h'->Q () {s with heap:=h'}):wpAny (model X.prog X.w) X.A (noteFrame e X.env) Q E s:=by
 obtain⟨H',a,C,rfl,h2,h3,h4⟩:=m;rcases h4 with ⟨s1,vs,I,mk,es⟩|⟨B,t,I,b,f⟩|⟨B,t,L,hL,I,b,f⟩
 ·have kb:(hidF X s1.heap).StaysIn s1.heap:=λ b o e=>qGQ e;refine qDl (B:=hidF X s1.heap) (T.frames I.ok) T.frame kb (T.stk▸q8X I) mk λ h' t tr up=>?_;have hs:({s with heap:=h'}:Shared)={s1 with heap:=h'}:=by rw[es]
  refine hQ H' a C _ t h' rfl h2 h3 ?_ (q9W I) (T.stk▸tr);rw[hs];exact q1i I (q9W I) tr.1 ((Heap.UpToSlots.of_keeps mk.keeps).trans up)
 ·refine qF7 (fl:= .none) (T.frames I.ok) T.frame (T.stk▸f) (.inl rfl) λ h' tr up=>?_;exact hQ H' a C B t h' rfl h2 h3 (q1i I b tr.1 up) b (T.stk▸tr)
 ·rw[T.frame] at hL;cases hL;refine qF7 (fl:=rawInt X.env.locals) (T.frames I.ok) T.frame (T.stk▸f) (.inr rfl) λ h' tr up=>?_;exact hQ H' a C B t h' rfl h2 h3 (q1i I b tr.1 up) b (T.stk▸tr)
theorem qAN {e:Value}{s:Shared}{P:Value->Shared->Prop}(T:Top X) (m:Mid X p pins σ H c e s) (hP:∀s',Mid X p pins σ H c e s'->P e s'):notedBy (model X.prog X.w) X.A X.env (cameBackBy (model X.prog X.w) X.A X.env P) e s:=by
 refine q6M T m λ H' a C B t h' e1 e2 e3 I b tr=>?_;subst e1;obtain⟨_,_,_,oe,vs,T',oT,ts,g1,g2,g3,g4,_⟩:=id tr;unfold cameBackBy;refine wpAny_bind (wpAny_field g1 g3 g4 ?_);have hn:¬((Value.ref T'==Value.none)=true):=by simp
 rw[if_neg hn,T.frame];refine qDk tr λ h2 tr2 up2=>?_;exact hP _ ⟨H',a,C,rfl,e2,e3,.inr (.inr ⟨B,t,_,T.frame,q1i (s:={s with heap:=h'}) I b tr2.1 up2,b,tr2⟩)⟩
theorem q7N {H0:Hp}{O0:List Addr}{r:RS}(T:Top X):PassesOwn (model X.prog X.w) X.A X.env (Es X p H0 O0 pins r):=λ e s h=>by obtain⟨c,ρ',σ',os',H',h1,h2,m⟩:=h;exact qAN T m λ s' m'=>⟨c,ρ',σ',os',H',h1,h2,m'⟩
noncomputable def CXs (P:Program) (w:World):CXT:=λ outer H s E e s'=>∃H' a C B t,e = .ref a/\E e (some C) H'/\Ext H H'/\s'.os=s.os/\AllBare s'.gens/\HOk P w H' B/\(∀b o,s.heap.get? b=some o->H b=none->b∉frs outer->B.get? b=some o)/\
 (∀b o,s.heap.get? b=some o->H b=none->H' b=none)/\(∀b o,s.heap.get? b=some o->H b=none->b∈frs outer->∃sl,s'.heap.get? b=some {o with slots:=sl})/\Heap.FlyingW B outer a (.ref C) (.ref t) s'.heap
theorem qAO {e:Value}{s:Shared}{Ex:XK}{Q:Unit->Shared->Prop}{E:Value->Shared->Prop}(T:Top X) (hex:X.ex=[]) (m:Mid X p pins σ H c e s) (x0:Ext X.H₀ H)
  (hE:∀C H',p.cls[c]? = some C->Ext X.H₀ H'->Ex e (some C) H') (hQ:∀s',CXs X.prog X.w X.outer X.H₀ X.s₀ Ex e s'->Q () s'):wpAny (model X.prog X.w) X.A (leaving X.env e) Q E s:=by
 unfold leaving;refine wpAny_bind (q6M T m λ H' a C B t h' e1 e2 e3 I b tr=>?_);subst e1;refine qDk tr λ h2 tr2 up2=>hQ _ ?_;have I2:=q1i (s:={s with heap:=h'}) I b tr2.1 up2;have nx:∀b,b∉X.ex:=λ b=>by rw[hex];simp
 have tr3:TrW B (X.env::X.outer) a (.ref C) (.ref t) .none h2:=T.stk▸tr2;obtain⟨k1,k2,⟨_,_,k3⟩,k4⟩:=tr3;refine⟨H',a,C,B,t,rfl,hE C H' e2 (x0.trans e3),x0.trans e3,I2.os,I2.bare,b.hok,λ c o q n hc=>?_,λ c o q n=>I2.base.free c o q n (nx c),λ c o q n hc=>I2.base.slot c o q n hc (nx c),k1,k2,k3,k4⟩;refine b.keep c o q n (λ hm=>?_) (nx c);rcases List.mem_cons.mp (I2.q39 c hm) with z|z
 ·exact absurd (Nat.lt_of_lt_of_le (Heap.lt_size q) I2.ok.above) (by rw[z];exact Nat.lt_irrefl _)
 ·exact hc z
theorem qBq {e:Value}{s s':Shared}{Ex:XK}(I:Inv X pins σ H s) (h:CXs X.prog X.w X.stack H s Ex e s') (hE:∀C H',Ex e (some C) H'->p.cls[c]? = some C):Mid X p pins σ H c e s':=by
 obtain⟨H',a,C,B,t,rfl,h1,h2,h3,h4,h5,h6,h7,h8,h9⟩:=h;have hok:HOk X.prog X.w H' s'.heap:=h5.kept h9.1;have un:Un (frs X.stack) [] H H' s.heap s'.heap:=by
  refine⟨λ b o q n hb _=>h9.1 _ _ (h6 b o q n hb),λ b o q n hb _=>h8 b o q n hb,λ b o q n _=>h7 b o q n,λ b o q _=>?_,λ b xs q=>h2 _ _ q,λ b o u q=>h2 _ _ q,λ b ps q=>⟨#[],by rw[h2 _ _ q];simp⟩⟩;cases n:H b with
  |some u=>exact q26 (hok b u (h2 _ _ n))
  |none =>
   by_cases hb:b∈frs X.stack
   ·obtain⟨sl,e⟩:=h8 b o q n hb;exact⟨_,e⟩
   ·exact⟨_,h9.1 _ _ (h6 b o q n hb)⟩
 have I':Inv X pins σ H' s':=I.qFS (ch:=[]) h3 un hok h4 (λ b z=>absurd z (by simp));refine⟨H',a,C,rfl,hE C H' h1,h2,.inr (.inl ⟨B,t,I',⟨h5,λ b o q n hb hx=>?_,λ b o q hb hx=>?_,λ q hq=>?_⟩,h9⟩)⟩
 ·exact h6 b o (I.base.keep b o q n (λ z=>hb (q9V I.ok b z)) hx) (I.base.free b o q n hx) hb
 ·obtain⟨o',q'⟩:=I.base.there b o q hx;cases n:H b with
  |some u=>exact q26 (h5 b u (h2 _ _ n))
  |none=>exact⟨_,h6 b o' q' n hb⟩
 ·obtain⟨q1,n,ne,nf,d⟩:=I.pin q hq;refine h6 _ _ q1 n λ z=>?_;rcases List.mem_cons.mp (I.q39 _ z) with z|z
  ·exact ne z
  ·exact nf z
end
end Snd
namespace Snd
open PySem PySem.Spec PyProof.Rows L2 Ev
noncomputable def spG (p:Pm) (G:Nat->List D->R D) (f n:Nat):Sp:=λ vs H Q E=>∃ds O,vs.length=n/\O.Nodup/\Th O H/\RepL p (fz O H) ds vs/\G f ds ≠ .stuck/\
 (∀r v H',G f ds = .ok r->Ext H H'->Rep p (fz O H') r v->Q v H')/\(∀c C H' e,G f ds = .err c->p.cls[c]? = some C->Ext H H'->E e (some C) H')
section
variable {X:Cx}{p:Pm}{G:Nat->List D->R D}{sub:Nat->Nat->Bool}
theorem qDm {k j:Nat}{f:Addr}{fd:FuncData}{ps:List Str}{pins:List (Addr×Obj)}{σ:L2.St}{H:Hp}{s:Shared}{O:List Addr}{ds:List D}{vs:List V}{us:List Value}(F:FnOk X.prog X.w X.K X.mg X.base (CXs X.prog X.w) k f fd ps (spG p G j ps.length))
  (hr:Room k X.A) (hb:Binds X.K fd ps []) (I:Inv X pins σ H s) (r:Vals vs us) (nd:O.Nodup) (t:Th O H) (q:RepL p (fz O H) ds vs) (hl:ds.length=ps.length) (hs:G j ds ≠ .stuck) :
  wpAny (model X.prog X.w) X.A (call (.ref f) us) (λ u s'=>∃d v H',G j ds = .ok d/\Inv X pins σ H' s'/\RelV v u/\Ext H H'/\Rep p (fz O H') d v) (Er X p pins σ H (G j ds)) s:=by
 have hlv:vs.length=ps.length:=by rw[<-q.length];exact hl
 have hlu:(us++[]).length=ps.length:=by rw[List.append_nil,<-r.length];exact hlv
 have sp0:spG p G j ps.length vs H (λ v H'=>∃d,G j ds = .ok d/\Ext H H'/\Rep p (fz O H') d v) (λ e C H'=>∃c C',G j ds = .err c/\C=some C'/\p.cls[c]? = some C') :=
  ⟨ds,O,hlv,nd,t,q,hs,λ r v H' e x w=>⟨r,e,x,w⟩,λ c C H' e h1 h2 _=>⟨c,C,h1,rfl,h2⟩⟩
 have hb':=hb s us I.kIn hlu;rw[List.append_nil] at hb';refine wpAny_call (codeAny_mono (F.run X.A X.stack s H ⟨us,[]⟩ us vs _ _ hr I.env0 hb' r sp0) λ rr s' hq=>?_);cases rr with
 |error e =>
  have hq:CXs X.prog X.w X.stack H s (λ e C H'=>∃c C',G j ds = .err c/\C=some C'/\p.cls[c]? = some C') e s':=hq;obtain⟨H',a,C,B,tt,h0,⟨c,C',h1,h2,h3⟩,hrest⟩:=id hq;exact⟨c,h1,qBq I hq λ C2 H2 ⟨c2,C3,g1,g2,g3⟩=>by rw[h1] at g1;cases g1;cases g2;exact g3⟩
 |ok fl =>
  cases fl with
  |ret u =>
   obtain⟨v,H',I',rv,d,e,x,w⟩:=I.after hq;exact⟨d,v,H',e,I',rv,x,w⟩
  |next=>exact False.elim hq
  |brk=>exact False.elim hq
  |cont=>exact False.elim hq
theorem q5b {H Hf:Hp}:∀(n:Nat),q1K p H Hf (List.replicate n none) (List.replicate n none) (List.replicate n [])
 |0=>trivial
 |n+1=>⟨none,List.replicate n none,[],List.replicate n [],rfl,rfl,rfl,q5b n⟩
theorem qDn (n:Nat) (O:List Addr):(List.replicate n []++[O]).flatten=O:=by simp
theorem qDo {N:List Str}{H:Hp}{O:List Addr}{ds:List D}{vs:List V}(nd:O.Nodup) (t:Th O H) (q:RepL p (fz O H) ds vs) (hl:vs.length<=N.length) :
  Bd p H O (vals ds++List.replicate (N.length-ds.length) none) (L2.start N vs) (List.replicate N.length []) H:=by
 have e:=q.length;have f:(List.replicate N.length []++[O]).flatten=O:=qDn _ _;refine⟨⟨by rw[f];exact nd,by rw[f];exact t,?_⟩,?_,?_,Ext.refl _,λ a ha=>absurd ha (by simp)⟩
 ·rw[f];have h:=q3o (more:=[O]) (q4p (p:=p) (H:=H) (Hf:=fz O H) (q5b (N.length-ds.length)) q);have e2:List.replicate ds.length ([]:List Addr)++List.replicate (N.length-ds.length) []=List.replicate N.length []:=by rw[List.replicate_append_replicate];congr 1;lia
  rw[e2] at h;unfold L2.start;rw[<-e];exact h
 ·simp[vals];lia
 ·simp[vals,L2.start];lia
theorem qJ4 {P:Program}{w:World}{K:PySem.W.Frag}{mg:Str->Option Value}{base:Heap}{k j:Nat}{f:Addr}{name qual:Str}{params:Arguments}{body:List Stmt}{scope:Scope}{dV kV doc pm cdv ct oc:Value}{an od:Option Addr}
  {osl:Array (Option Value)}{N ps:List Str}{G':Nat->List D->R D}{l:List S}(lk:K.lookup f=some ⟨oc,od,.func (PySem.W.fnOf name qual params body scope dV kV doc pm an cdv ct),osl⟩) (hcd:PySem.W.codeIn K cdv qual=true) (S:FnScope N ps scope)
  (hG:∀ds,G j ds ≠ .stuck->ds.length=ps.length->G j ds=Ev.run G' sub N.length l ds)
  (hbody:∀(A:Around) (outer:List PySem.Env) (s:Shared) (H:Hp) (E:XK),Room k (A.deeper (envOfC qual scope s.heap.objs.size f cdv))->Env0 P w K mg base A outer s H->SSs (cxOf (CXs P w) P w K mg base N qual scope f cdv A outer s H E) p G' sub body l) :
  FnOk P w K mg base (CXs P w) (k+1) f (PySem.W.fnOf name qual params body scope dV kV doc pm an cdv ct) ps (spG p G j ps.length):=by
 refine⟨λ vs H Q E h=>h.choose_spec.choose_spec.1,λ A outer s H args us vs Q E hr e0 hb r hsp=>?_⟩;obtain⟨ds,O,hl,nd,t,q,ns,q1,q2⟩:=hsp;have KX:K.In s.heap:=e0.mod.kin.keeps λ b o e=>(e0.bs b o e).1;have lim:s.heap.NoLimit:=e0.mod.nolimit.keeps λ b o e=>(e0.bs b o e).1;have hkind:∀y∈ps.zip us,scope.names.lookup y.1=some .local\/(scope.names.lookup y.1=some .cell/\((cellsFrom (s.heap.objs.size+1) scope.names []).lookup y.1).isSome=true):=λ⟨n,v⟩ hy=>by
  rcases S.par n (List.of_mem_zip hy).1 with q|q
  ·exact .inl q
  ·exact .inr ⟨q,PySem.W.cellsFrom_some _ _ _ (.inl q)⟩
 refine codeAny_call_function hr.depth (KX _ _ lk) rfl S.co S.gen rfl (PySem.W.codeRec_of KX hcd) (hb _ _ _ _ ?_);refine wpAny_newFunctionEnv_cells S.kind hkind λ env he s1 x=>?_;subst he;refine⟨lim.keeps x.toInCall.keep,codeAny_func ?_⟩;have I:Inv (cxOf (CXs P w) P w K mg base N qual scope f cdv A outer s H E) [] (L2.start N vs) H s1:=qAu S hr.hd e0 hl r x;have hpl:ps.length<=N.length:=by have:=congrArg List.length S.pre;rw[List.length_take] at this;lia
 have B:=qDo (N:=N) nd t q (by lia);have hrun:=hG ds ns (by rw[q.length];exact hl);rw[hrun] at ns q1 q2;unfold Ev.run at ns q1 q2;have T:Top (cxOf (CXs P w) P w K mg base N qual scope f cdv A outer s H E):=⟨rfl,rfl⟩
 generalize hr0:exs G' sub l (vals ds++List.replicate (N.length-ds.length) none)=r0 at ns q1 q2;have ns':r0 ≠ .stuck:=λ e=>ns (by rw[e]);refine wpAny_mono (hbody A outer s H E (hr.deeper _) e0 H O _ (q7N (p:=p) (H0:=H) (O0:=O) (pins:=[]) (r:=r0) T) [] s1 _ H _ _ I B (by rw[hr0];exact ns') (λ e s' z=>by rw[hr0] at z;exact z)) (λ fl s' hs=>?_) λ e s' hs=>?_
 ·rw[hr0] at hs;obtain⟨ρ',fl',σ',os',H',e1,B',I',r'⟩:=hs;subst e1;cases fl'<;>cases fl<;>first|exact r'.elim|skip
  ·exact⟨.non,H',I'.os,I'.bare,I'.base,I'.hok,rfl,q1 .non .non H' rfl B'.ext rfl⟩
  ·exact absurd rfl ns
  ·exact absurd rfl ns
  ·obtain⟨v,rv,w'⟩:=r';exact⟨v,H',I'.os,I'.bare,I'.base,I'.hok,rv,q1 _ v H' rfl B'.ext w'⟩
 ·obtain⟨c,ρ',σ',os',H',e1,B',m⟩:=hs;subst e1;exact qAO T rfl m B'.ext (λ C H2 h1 h2=>q2 c C H2 e rfl h1 h2) λ s2 h2=>h2
end
end Snd
namespace Snd
open PySem PySem.Spec PyProof.Rows L2 Ev
variable {x y:Str}{pos:Pos}{a:PySem.Expr}
section
variable {X:Cx}{p:Pm}{G:Nat->List D->R D}{sub:Nat->Nat->Bool}
def JP (X:Cx) (e:PySem.Expr) (y:Str):Prop:=∀(E:Value->Shared->Prop) (pins:List (Addr×Obj)) (σ:L2.St) (H:Hp) (s:Shared),Inv X pins σ H s->
 wpAny (model X.prog X.w) X.A (eval e X.env) (λ u s'=>(∃t,u = .str y t)/\Inv X pins σ H s') E s
def SM (X:Cx) (e:PySem.Expr):Prop:=∀(E:Value->Shared->Prop) (pins:List (Addr×Obj)) (σ:L2.St) (H:Hp) (s:Shared),Inv X pins σ H s->
 wpAny (model X.prog X.w) X.A (eval e X.env) (λ u s'=>Inv X pins σ H s') E s
theorem qJ5 {j:Nat}:JP X (.Constant (.str x) j pos) x:=λ E pins σ H s I =>
 Calls.Constant_str ⟨⟨_,rfl⟩,I.tok _⟩
theorem qJ6 {a:Int}{t:Tok}{q:Pos}(hg:Gl X x) (hm:X.mg x=some (.int a t)) (hd:(x==("__debug__":Str))=false) (hl:a.natAbs.log2<1920):JP X (.FormattedValue (.Name x q) (-1) none pos) (toString a):=λ E pins σ H s I =>
 PyProof.Rows.FormattedValue_plain (q3f I hg hm (PyProof.Rows.formatField_int_small hl ⟨⟨_,rfl⟩,I.tok _⟩) hd)
theorem q4u {rest:List (Sem Value)}{out:Str}{e:PySem.Expr}{E:Value->Shared->Prop}{pins:List (Addr×Obj)}{σ:L2.St}{H:Hp}{s:Shared}{Q:Value->Shared->Prop}(he:JP X e y) (I:Inv X pins σ H s) (hz:(out++y).length<=sizeLine)
  (h:∀s',Inv X pins σ H s'->wpAny (model X.prog X.w) X.A (joinParts (out++y) rest) Q E s'):wpAny (model X.prog X.w) X.A (joinParts out (eval e X.env::rest)) Q E s :=
 PyProof.Rows.joinParts_cons (wpAny_mono (he E pins σ H s I) (λ u s' ⟨⟨t,e⟩,I'⟩=>by subst e;exact⟨hz,h s' I'⟩) λ _ _ z=>z)
theorem qJ7 {b:PySem.Expr}(ha:JP X a x) (hb:JP X b y) (h1:(Str.empty++x).length<=sizeLine) (h2:(Str.empty++x++y).length<=sizeLine):SM X (.JoinedStr [a,b] pos):=λ E pins σ H s I =>
 PyProof.Rows.JoinedStr_many (q4u ha I h1 λ s1 I1=>q4u hb I1 h2 λ s2 I2=>PyProof.Rows.joinParts_nil (I2.tok _) h2)
theorem qDp {b c:PySem.Expr}{z:Str}(ha:JP X a x) (hb:JP X b y) (hc:JP X c z) (h1:(Str.empty++x).length<=sizeLine) (h2:(Str.empty++x++y).length<=sizeLine) (h3:(Str.empty++x++y++z).length<=sizeLine):SM X (.JoinedStr [a,b,c] pos):=λ E pins σ H s I =>
 PyProof.Rows.JoinedStr_many (q4u ha I h1 λ s1 I1=>q4u hb I1 h2 λ s2 I2=>q4u hc I2 h3 λ s3 I3=>PyProof.Rows.joinParts_nil (I3.tok _) h3)
theorem qDq {c:Nat}{C:Addr}{bm:List Value}{newId initId B:String}{np cpos:Pos}(hc:X.calm=true) (hg:Gl X x) (O:OwnCls x C bm newId X.mg X.base) (FB:ExcBaseFacts B newId initId bm) (hcl:p.cls[c]? = some C) (ha:SM X a)
  (hd:(x==("__debug__":Str))=false) (hst:starEach [a] X.env=[(false,eval a X.env)]):SS X p G sub (.Raise (some (.Call (.Name x np) [a] [] cpos)) none pos) (.raise c):=by
 intro H0 O0 E hp pins s σ H ρ os I B hs hE;have e0:ex G sub (.raise c) ρ = .err c ρ:=rfl;rw[e0] at hE |-;obtain⟨tl,N,nm,q,bs,hdct,sn,sb,ab,col,dd,k0,k1,k2,k3,k5,mN,hC,hN,hni,T⟩:=O.obj;refine wpAny_Raise_call_subT (C:=C) (nm:=nm) (q:=q) (N:=N) (bs:=bs) (bm:=tl) (hdct:=hdct) (sn:=sn) (sub:=sb) (ab:=ab) (col:=col) (dd:=dd) (k0:=k0) (k1:=k1) (k2:=k2) (k3:=k3) (k5:=k5)
  FB (mN:=mN) (T.hasType FB.hasBase) (I.ok.hd hc) (by rw[hst];rfl) hni (q3f I hg O.bound ⟨rfl,?_⟩ hd)
 rw[hst];refine Calls.evalArgs_plain ?_;show wpAny _ _ (spliced ((false,eval a X.env)::backTo cpos [])) _ _ s;refine Calls.spliced_cons (wpAny_mono (ha E pins σ H s I) (λ u s1 I1=>?_) λ _ _ z=>z);refine Calls.spliced_nil ⟨rfl,show 1<=sizeLine by rw[sizeLine_eq];decide,I1.bk _ _ hC,hN.keeps I1.bk,T.keeps I1.bk,λ h' e mk=>?_⟩;exact hE _ _ ⟨c,ρ,σ,os,H,rfl,B,H,e,C,rfl,hcl,Ext.refl _,.inl ⟨s1,_,I1,mk,rfl⟩⟩
end
end Snd
namespace Snd
open PySem PySem.Spec PyProof.Rows L2 Ev
variable {pins:List (Addr×Obj)}{σ:L2.St}{H:Hp}{s:Shared}
section
variable {X:Cx}{p:Pm}{G:Nat->List D->R D}{sub:Nat->Nat->Bool}
def mk (X:Cx) (e:Addr):Cx:={X with A:=X.A.mark (some (.ref e)),calm:=false}
theorem qF8 {e:Addr}(I:Inv X pins σ H s):Inv (mk X e) pins σ H s :=
 ⟨⟨I.ok.mod,I.ok.kind,I.ok.glob,I.ok.blt,I.ok.above,I.ok.inj,I.ok.has,I.ok.cab,λ z=>(nomatch z),I.ok.frames,I.ok.stk,I.ok.exf,I.ok.bs,I.ok.bsz,I.ok.noex,I.ok.exfs,I.ok.funs,I.ok.frf⟩,I.os,I.bare,I.base,I.loc,I.cell,I.free,I.freeC,I.pin,I.hok,I.len⟩
theorem qBr {B:Heap}{a C:Addr}{a0 fl:Value}(I:Inv X pins σ H s) (b:BOk X pins H B) (tr:TrW B X.stack a (.ref C) a0 fl s.heap) :
  H a=none/\Inv X pins σ (upd H a (.ext (q3I a C))) s:=by
 obtain⟨k1,k2,k3,oe,vs,T,oT,ts,g1,g2,g3,_⟩:=tr;have hn:H a=none:=q4S b.hok k2;have nst:a∉frs X.stack:=λ hm=>by obtain⟨_,o,ho,hd⟩:=k3.mem hm;rw[g1] at ho;cases ho;exact hd _ g3
 have n0:∀o,X.s₀.heap.get? a=some o->a∉X.ex->False:=λ o e hx=>by obtain⟨o',e'⟩:=b.there a o e nst hx;rw[k2] at e';cases e'
 have hok:HOk X.prog X.w (upd H a (.ext (q3I a C))) s.heap:=λ c u e=>by
  by_cases hc:c=a
  ·subst hc;rw[q0E] at e;cases e;exact⟨⟨oe,g1,g2.1⟩,⟨oe,g1⟩,λ h1 h2 ⟨o,e1,e2⟩ k=>⟨o,k o e1,e2⟩⟩
  ·rw[q06 hc] at e;exact (I.hok c u e).stay (λ _ _ _ q=>q) (λ d q=>by rw[q06 (q08 q hn)];exact q) λ d xs q=>by rw[q06 (q08 q hn)];exact q
 refine⟨hn,I.ok,I.os,I.bare,⟨I.base.keep,I.base.slot,λ c o e n hx=>?_,I.base.there,λ c xs e=>?_,λ c o u e=>?_,λ c ps e=>?_⟩,I.loc,I.cell,?_,λ x c e=>?_,λ q hq=>?_,hok,I.len⟩
 ·rw[q06 λ z=>by rw[z] at e hx;exact n0 o e hx];exact I.base.free c o e n hx
 ·have:=I.base.tups c xs e;rw[q06 (q08 this hn)];exact this
 ·have:=I.base.frzs c o u e;rw[q06 (q08 this hn)];exact this
 ·obtain⟨more,this⟩:=I.base.tbls c ps e;exact⟨more,by rw[q06 (q08 this hn)];exact this⟩
 ·rw[q06 λ z=>?_]
  ·exact I.free
  ·obtain⟨m,⟨o,es,ep,ho,hd,_⟩,_⟩:=I.loc;rw[z,g1] at ho;cases ho;rw[g3] at hd;cases hd
 ·rw[q06 λ z=>?_]
  ·exact I.freeC x c e
  ·obtain⟨v,o,ho,hd⟩:=I.cell x c e;rw[z,g1] at ho;cases ho;rw[g3] at hd;cases hd
 ·obtain⟨e,n,ne,nf,d⟩:=I.pin q hq;refine⟨e,?_,ne,nf,d⟩;rw[q06 λ z=>?_]
  ·exact n
  ·have:=b.pin q hq;rw[z,k2] at this;cases this
theorem name_goes {E:Value->Shared->Prop}{Q:Unit->Shared->Prop}{i:Nat}{x:Str}{pos:Pos}(I:Inv X pins σ H s) (hN:X.N.Nodup) (hi:X.N[i]? = some x) (hl:X.env.scope.names.lookup x=some .local)
  (h:∀s',Inv X pins (σ.set i none) H s'->Q () s'):wpAny (model X.prog X.w) X.A (do bindName X.env x .none;unbindBehindTheSuite X.env x pos) Q E s:=by
 obtain⟨m,hn,hlo⟩:=id I.loc;have hcls:(X.env.scope.kind == .class || (X.env.scope.kind == .module&&X.env.locals != X.env.globals))=false:=by rw[I.ok.kind];rfl
 have hiσ:i < σ.length:=by rw[I.len];exact (List.getElem?_eq_some_iff.mp hi).1
 have cne:=I.cne;refine wpAny_nameGoes_keeps hl hn hcls λ h' v hn' hs=>?_;obtain⟨oL,_,_,hoL,_⟩:=id hn;have hok:HOk X.prog X.w H h':=λ b ob e=>by
  refine (I.hok b ob e).stay (λ c w' hc q=>(hs.2 c ?_).trans q) (λ _ q=>q) λ _ _ q=>q;rintro rfl;rcases hc with rfl|hc
  ·rw[I.free] at e;cases e
  ·rw[I.free] at hc;cases hc
 have low:∀b o,X.s₀.heap.get? b=some o->b≠X.env.locals:=λ b o e=>Nat.ne_of_lt (Nat.lt_of_lt_of_le (Heap.lt_size e) I.ok.above);refine h _ ⟨I.ok,I.os,I.bare,⟨λ b o e n hb hx=>?_,λ b o e n hb hx=>?_,I.base.free,λ b o e hx=>?_,I.base.tups,I.base.frzs,I.base.tbls⟩,⟨_,hn',λ j y v' e1 e2 e3=>?_⟩,λ y c e=>?_,I.free,I.freeC,λ q hq=>?_,hok,by simpa using I.len⟩
 ·exact (hs.2 b (low b o e)).trans (I.base.keep b o e n hb hx)
 ·obtain⟨sl,e1⟩:=I.base.slot b o e n hb hx;exact⟨sl,(hs.2 b (low b o e)).trans e1⟩
 ·obtain⟨o',e1⟩:=I.base.there b o e hx;exact⟨o',(hs.2 b (low b o e)).trans e1⟩
 ·by_cases hj:j=i
  ·subst hj;rw[List.getElem?_set_self hiσ] at e2;cases e2
  ·rw[List.getElem?_set_ne (Ne.symm hj)] at e2;obtain⟨u',r',q⟩:=hlo j y v' e1 e2 e3;refine⟨u',r',?_⟩;rcases q with ⟨k,e⟩|⟨k,c,e,z⟩
   ·refine .inl ⟨k,?_⟩;have:y≠x:=λ e=>hj (q5w hN e1 (e▸hi));simp[this,e]
   ·exact .inr ⟨k,c,e,z.sameBut hs (cne y c e)⟩
 ·obtain⟨w',z⟩:=I.cell y c e;exact⟨w',z.sameBut hs (cne y c e)⟩
 ·obtain⟨e,n,ne,nf,d⟩:=I.pin q hq;exact⟨(hs.2 q.1 ne).trans e,n,ne,nf,d⟩
theorem qDr {α:Type}(l:List α) (i j:Nat) (a b c:α) (h:i≠j):((l.set i a).set j b).set i c=(l.set j b).set i c:=by rw[List.set_comm _ _ h,List.set_set]
theorem qJ8 {c i j:Nat}{body:List Stmt}{lb:List S}{x y cn:Str}{Cc:Addr}{q q2 q3 q4 pos' pos:Pos}(T:Top X) (hN:X.N.Nodup) (hi:X.N[i]? = some x) (hl:X.env.scope.names.lookup x=some .local) (hj:X.N[j]? = some y) (hy:Loc X.env.scope y) (hfy:X.fn y=true\/X.env.scope.names.lookup y=some .local)
  (hxy:x≠y) (hg:Gl X cn) (hm:X.mg cn=some (.ref Cc)) (hsub:∀e Ce,p.cls[e]? = some Ce->PySem.W.exmOne X.K (.ref Ce) (.ref Cc)=some (sub e c)) (hdc:(cn==("__debug__":Str))=false) (hd:(x==("__debug__":Str))=false) (hcd:(x==("__classdict__":Str))=false)
  (hb:SSs X p G sub body lb):SS X p G sub (.Try body [.ExceptHandler (some (.Name cn q)) (some x) [.Assign [.Name y q2] (.Name x q3) q4] pos'] [] [] pos) (.tryE lb c i j):=by
 intro H0 O0 E hp pins s σ H ρ os I B hs hE;have e0:ex G sub (.tryE lb c i j) ρ=match exs G sub lb ρ with
   | .err e ρ'=>if sub e c then .ok ((ρ'.set j (some (.val (.exc e)))).set i none) .nx else .stuck
   |r=>r:=rfl
 rw[e0] at hs hE |-;generalize hr:exs G sub lb ρ=r0 at hs hE |-;have ns:r0 ≠ .stuck:=λ e=>hs (by rw[e]);have hij:i≠j:=λ e=>hxy (by rw[e,hj] at hi;exact (Option.some.inj hi).symm);refine wpAny_Try_except (wpAny_mono (hb H0 O0 _ (q7N (p:=p) (H0:=H0) (O0:=O0) (pins:=pins) (r:=r0) T) pins s σ H ρ os I B (by rw[hr];exact ns) (λ e s' z=>by rw[hr] at z;exact z)) (λ f s1 qq=>?_) (λ e s1 qq=>?_))
 ·rw[hr] at qq;obtain⟨ρ1,fl,σ1,os1,H1,e1,B1,I1,r1⟩:=qq;subst e1;cases fl<;>cases f<;>first|exact r1.elim|skip
  ·exact wpAny_execs_nil ⟨ρ1,.nx,σ1,os1,H1,rfl,B1,I1,trivial⟩
  ·exact⟨ρ1,.brk,σ1,os1,H1,rfl,B1,I1,trivial⟩
  ·exact⟨ρ1,.cont,σ1,os1,H1,rfl,B1,I1,trivial⟩
  ·exact⟨ρ1,_,σ1,os1,H1,rfl,B1,I1,r1⟩
 ·obtain⟨c',ρ',σ',os',H',e1,B',m⟩:=qq;subst e1;have hsb:sub c' c=true:=by
   cases h:sub c' c with
   |true=>rfl
   |false=>exact absurd (by simp[h]) hs
  refine q6M T m λ H2 a C Bh t h2 ea ecl x2 I2 bo tr=>?_;subst ea;refine qDk (s:={s1 with heap:=h2}) (o:=none) tr λ h3 tr3 up3=>?_;have I3:=q1i (s:={s1 with heap:=h2}) I2 bo tr3.1 up3;refine wpAny_handleBy_cons (codeAny_handlers_test ?_) (by intro q;cases q);refine q3f (X:=mk X a) (qF8 I3) hg hm ?_ hdc;have LT:PySem.W.Looks (model X.prog X.w) h3 (typeOf (.ref a)) (.ref C):=by obtain⟨ob,g1,g2⟩:=tr3.2.2.2.there;exact g2▸(PySem.W.Looks.ld g1).andThen .now
  refine PySem.W.Looks.here (s:={s1 with heap:=h3}) (PySem.W.exm_one I3.kIn LT (hsub c' C ecl)) ?_;rw[hsb,if_pos rfl];refine codeAny_handlers_suite_as ?_;refine qDk (s:={s1 with heap:=h3}) (o:=none) tr3 λ h4 tr4 up4=>?_;have I4:=q1i (s:={s1 with heap:=h3}) I3 bo tr4.1 up4;obtain⟨hn,I5⟩:=qBr I4 bo tr4;have B5:Bd p H0 O0 ρ' σ' os' (upd H2 a (.ext (q3I a C))):=B'.mono (x2.trans (Ext.upd hn));have lt:i < ρ'.length:=by rw[<-B'.slen,I2.len];exact (List.getElem?_eq_some_iff.mp hi).1
  have lt2:j < ρ'.length:=by rw[<-B'.slen,I2.len];exact (List.getElem?_eq_some_iff.mp hj).1
  have notin:a∉(os'++[O0]).flatten:=λ z=>by obtain⟨o,e⟩:=B'.rel.there a z;rw[x2 _ _ e] at hn;cases hn
  have rep:Rep p (fz (os'++[O0]).flatten (upd H2 a (.ext (q3I a C)))) (.exc c') (.ref a):=⟨a,C,rfl,ecl,q1z q0E notin⟩
  have B6:=B5.setV lt rep;have sub6:∀b∈(os'.set i []++[O0]).flatten,b∈(os'++[O0]).flatten:=λ b hb=>by rw[<-q0q (by rw[B'.len];exact lt)] at hb;exact (q0K hb).elim id λ z=>absurd z (by simp)
  have B7:=B6.setV (i:=j) (by simpa using lt2) (rep.mono (q4n sub6));have B8:=B7.setN (i:=i) (y:=none) (by simpa using lt);refine q13 (v:= .ref a) I5 hN hi (.inl hl) rfl (λ s6 I6=>?_) (.inr hl);refine wpAny_execs_cons (wpAny_Assign_Name (q3M (X:=mk X a) (v:= .ref a) (qF8 I6) hi (.inl hl) ?_ hd hcd λ u r=>?_) rfl)
  ·rw[List.getElem?_set_self (by rw[B'.slen];exact lt)]
  refine q13 (v:= .ref a) I6 hN hj hy r (λ s7 I7=>?_) hfy;refine wpAny_execs_nil ?_;refine name_goes I7 hN hi hl λ s8 I8=>?_;refine⟨_,.nx,_,_,_,?_,B8,I8,trivial⟩;show (if sub c' c=true then _ else _)=_;rw[if_pos hsb,qDr _ _ _ _ _ _ hij]
end
end Snd
namespace Snd
open PySem PySem.Spec PyProof.Rows L2 Ev PySem.W PySem.Builtin PySem.Builtin.ObjectAttr
variable {x C:Addr}
structure ExOk (K:PySem.W.Frag) (C:Addr):Prop where
 ga:findIn K (.ref C) "__getattribute__" = some (some (.builtin "BaseException.__getattribute__"))
 gh:findIn K (.ref C) "__getattr__" = some none
 bex:mroIn K C (.type "BaseException")=some true
 own:findIn K (.ref C) "__class__" = some (some (.builtin "object.__class__"))
 spc:specialIn K (.builtin "object.__class__") "__get__" = some (some (.builtin "getset_descriptor.__get__"))
 tk:takesIn K (.builtin "object.__class__")=some true
 mro:mroIn K C (.type "object")=some true
 cls:isClsIn K C=true
section
variable {M:Model}{K:PySem.W.Frag}{h:Heap}
theorem q4U (q:q3I x C h):PySem.W.Looks M h (typeOf (.ref x)) (.ref C):=by obtain⟨o,e1,e2⟩:=q;exact e2▸(PySem.W.Looks.ld e1).andThen .now
theorem qDs (Z:K.In h) (o:ExOk K C):PySem.W.Looks M h (find (.ref x) (.ref C) "__class__") (.bind (.builtin "getset_descriptor.__get__") (.builtin "object.__class__")):=by have z1:=looks_findIn (M:=M) Z o.own;have z2:PySem.W.Looks M h (getOf (some (Value.builtin "object.__class__"))) (some (.builtin "getset_descriptor.__get__")):=looks_specialIn Z o.spc;have z3:=looks_takesIn (M:=M) Z o.tk;refine z1.andThen (z2.andThen ((show PySem.W.Looks M h (dataDescriptor? (some (.builtin "object.__class__")) (some (.builtin "getset_descriptor.__get__"))) (some (.builtin "getset_descriptor.__get__",.builtin "object.__class__")) from z3.andThen .now).andThen ?_));exact PySem.W.Looks.tag .now
end
section
variable {prog:Program}{w:World}{A:Around}{E:Value->Shared->Prop}{s:Shared}{K:PySem.W.Frag}
theorem qGR {tp:Value}{R:Result->Shared->Prop}(Z:K.In s.heap) (o:ExOk K C) (q:q3I x C s.heap) (hR:R (.ok (.ret (.ref C))) s):codeAny (model prog w) A (.call (.builtin "getset_descriptor.__get__") ⟨[.builtin "object.__class__",.ref x,tp],[]⟩) R s:=by
 obtain⟨hp,ge,dr,tk,os⟩:=s;have z0:=q4U (M:=model prog w) (show q3I x C hp from q);have z4:=looks_mroIn (M:=model prog w) (show K.In hp from Z) o.mro;refine codeAny_call_builtin KF.slot_gs.plain KF.entry_gs (KF.slot_gs.check _ _ _ _ _ _ _ _ KF.type_class (KF.args_gs _ _ _) (show wpAny _ _ (Builtin.Getset_descriptor.descrGet _) _ _ _ from ?_));unfold Builtin.Getset_descriptor.descrGet;rw[dga_obj];refine wpAny_bind (wpAny_pure ?_);unfold Builtin.Getset_descriptor.descrGetter Builtin.Getset_descriptor.descrCheckInstance Builtin.Getset_descriptor.descrNameAndClass isInstance;simp only[KF.owner_class]
 repeat lk
 refine⟨Code.quiet_builtin _ (by decide +kernel),codeAny_builtin KF.entry_class ?_⟩;unfold Builtin.«object.__class__»;unfold shownTypeOf
 repeat lk
 exact hR
theorem qBs {nv:Value}{Q:Unit->Shared->Prop}(Z:K.In s.heap) (o:ExOk K C) (q:q3I x C s.heap) (hq:Q () s):wpAny (model prog w) A (checkBuiltinCall "BaseException.__getattribute__" ⟨[.ref x,nv],[]⟩) Q E s:=by
 obtain⟨hp,ge,dr,tk,os⟩:=s;have z0:=q4U (M:=model prog w) (show q3I x C hp from q);have z4:=looks_mroIn (M:=model prog w) (show K.In hp from Z) o.bex;have k1:builtinKind "BaseException.__getattribute__" = some .slot:=by decide +kernel
 have k2:splitId "BaseException.__getattribute__" = some ("BaseException", "__getattribute__"):=by decide +kernel
 have k3:=PySem.F.args_bexc_ga (.ref x) nv;unfold argsOk at k3;unfold checkBuiltinCall;simp only[k1,k2];refine wpAny_bind ?_;unfold isInstance
 repeat lk
 exact hq
theorem qBt {Q:Option Value->Shared->Prop}(Z:K.In s.heap) (o:ExOk K C) (q:q3I x C s.heap) (hq:Q (some (.ref C)) {s with toks:=s.toks+1}):wpAny (model prog w) A (getAttr? (.ref x) "__class__") Q E s:=by
 obtain⟨hp,ge,dr,tk,os⟩:=s;have z0:=q4U (M:=model prog w) (show q3I x C hp from q);have z1:=looks_findIn (M:=model prog w) (show K.In hp from Z) o.ga;have z2:=qDs (M:=model prog w) (x:=x) (show K.In hp from Z) o;have z3:=looks_findIn (M:=model prog w) (show K.In hp from Z) o.gh;have nb:(onTheHeap (Value.ref C)&&Value.builtin "BaseException.__getattribute__"==Value.builtin "object.__getattribute__")=false:=by
  have:(Value.builtin "BaseException.__getattribute__"==Value.builtin "object.__getattribute__")=false:=by decide +kernel
  rw[this,Bool.and_false]
 unfold getAttr? getAttrBy? getAttrBy;refine wpAny_bind (wpAny_mkText (wpAny_bind (wpAny_attempt (wpAny_holding (wpAny_bind (z0.at (wpAny_bind (z1.at ?_))))))));dsimp only;rw[nb,if_neg (by decide)];unfold getAttrByItsOwn hookBefore;rw[if_pos (show onTheHeap (Value.ref C)=true from rfl)];refine wpAny_bind (z3.at (wpAny_bind (wpAny_attempt (wpAny_holding ?_))));show wpAny _ _ (boundAndCalled _ _ _) _ _ _;unfold boundAndCalled;refine wpAny_bind (wpAny_of_eq (PySem.F.attr_ValueError.ga.bind (.ref x)) ?_);refine wpAny_call (codeAny_call_builtin PySem.F.attr_ValueError.ga.plain PySem.F.entry_bexc_ga (qBs (s:={heap:=hp,gens:=ge,drawn:=dr,toks:=tk+1,os:=os}) Z o q ?_));unfold Builtin.«object.__getattribute__»;refine wpAny_bind (wpAny_pure (wpAny_bind (wpAny_pure (wpAny_bind (z0.at (wpAny_bind (z2.at ?_)))))));dsimp only;show wpAny _ _ (Builtin.ObjectAttr.bindTo _ _ _ _) _ _ _;show wpAny _ _ (holding [_] (call _ [_,Value.ref x,Value.ref C]) >>= ret) _ _ _;exact wpAny_bind (wpAny_holding (wpAny_call (qGR (s:={heap:=hp,gens:=ge,drawn:=dr,toks:=tk+1,os:=os}) Z o q (wpAny_pure (handed_on rfl (wpAny_pure hq))))))
end
theorem q9X {K:PySem.W.Frag}(o:ExOk K C):KitX K (.ref x) (.ref C) (q3I x C) where
 ty:=λ _ _ _ q=>q4U q
 it:=λ _ _ Z _=>by
  obtain⟨cd,hc⟩:=Option.isSome_iff_exists.mp o.cls;unfold clsIn at hc;split at hc
  ·rename_i ho;intro A' Q' E' s' k q;unfold isType;unfold loadHead;exact wpAny_bind (wpAny_loadPart (k _ _ (Z _ _ ho)) (wpAny_pure q))
  ·cases hc
 ne:=λ h tp dd its n sl Z htp=>by
  obtain⟨cd,hc⟩:=Option.isSome_iff_exists.mp o.cls;refine Bool.eq_false_iff.mpr λ q=>?_;cases Value.ref.inj (beq_iff_eq.mp q);unfold clsIn at hc;split at hc
  ·rename_i ho;cases (Z _ _ ho).symm.trans htp
  ·cases hc
 ca:=λ Z q k=>qBt Z o q k
section
variable {X:Cx}{p:Pm}{G:Nat->List D->R D}{sub:Nat->Nat->Bool}
def BI (X:Cx) (p:Pm) (sub:Nat->Nat->Bool) (b:Bi) (cv:Value):Prop :=
 ∀(E:Value->Shared->Prop) (pins:List (Addr×Obj)) (s:Shared) (σ:L2.St) (H:Hp) (os:List (List Addr)) (d r:D) (v:V) (u:Value),Inv X pins σ H s->RelV v u->RepB p H (fz os.flatten H) d v->biD sub b [d] = .ok r->
  wpAny (model X.prog X.w) X.A (call (.builtin "isinstance") [u,cv]) (EP (X.wish E) pins σ (Fin p os.flatten H r)) E s
theorem q4V {K:PySem.W.Frag}{t:Value}:kitOne K t t=some true:=by unfold kitOne;rw[if_pos (beq_self_eq_true t)]
theorem q2l {E:Value->Shared->Prop}{pins:List (Addr×Obj)}{s:Shared}{σ:L2.St}{H:Hp}{O:List Addr}(I:Inv X pins σ H s) (b:Bool) (tk:Nat):EP (X.wish E) pins σ (Fin p O H (.bl b)) (.bool b) {s with toks:=tk} :=
 ⟨.bl b,H,(I.wish E).tok tk,rfl,q0H rfl⟩
theorem qJ9 (hK:p.K=X.K):BI X p sub .isTup (.type "tuple"):=by
 intro E pins s σ H os d r v u I rv q h;cases d<;>first
  |(cases h;done)
  |skip
 cases h;obtain⟨a,vs,rfl,s1,z,r1⟩:=q;cases rv;obtain⟨its,rv,⟨o,e,c,_⟩,_⟩:=I.tuple (hK▸q0b.sqT s1);exact kia_one kitx_tuple I.kIn ⟨o,e,c⟩ q4V (λ z=>nomatch z) λ tk=>q2l I _ tk
theorem qJA (hK:p.K=X.K):BI X p sub .isLst (.type "list"):=by
 intro E pins s σ H os d r v u I rv q h;cases d<;>first
  |(cases h;done)
  |skip
 cases h;obtain⟨a,vs,rfl,s1,r1⟩:=q;cases rv;obtain⟨its,rv,⟨o,n,e,c,_⟩,_⟩:=I.list (hK▸s1);exact kia_one kitx_list I.kIn ⟨o,e,c⟩ q4V (λ z=>nomatch z) λ tk=>q2l I _ tk
theorem qJB:BI X p sub .isInt (.type "int"):=by
 intro E pins s σ H os d r v u I rv q h;cases d<;>first
  |(cases h;done)
  |skip
 cases h;cases (show v=_ from q);obtain⟨t,rfl⟩:=rv;exact kia_one kitx_int I.kIn trivial q4V (λ z=>nomatch z) λ tk=>q2l I _ tk
theorem q7O {K:PySem.W.Frag}:kitOne K (.type "int") (.type "bool")=some false:=by
 have h1:(Value.type "int"==Value.type "bool")=false:=by decide +kernel
 have h2:kitMeta "bool" = true:=by decide +kernel
 have h3:(fastBuiltinMro "int").map (·.contains (Value.type "bool"))=some false:=by decide +kernel
 unfold kitOne kitCls subIn;rw[if_neg (by rw[h1];decide)];dsimp only;rw[if_pos h2,h3]
theorem qGS:BI X p sub .isBool (.type "bool"):=by
 intro E pins s σ H os d r v u I rv q h;cases d<;>first
  |(cases h;done)
  |skip
 ·cases h;cases (show v=_ from q);cases rv;exact kia_one kitx_bool I.kIn trivial q4V (λ z=>nomatch z) λ tk=>q2l I _ tk
 ·cases h;cases (show v=_ from q);obtain⟨t,rfl⟩:=rv;exact kia_one kitx_int I.kIn trivial q7O (λ z=>nomatch z) λ tk=>q2l I _ tk
theorem qF9 {pins:List (Addr×Obj)}{s:Shared}{σ:L2.St}{H:Hp}{O:List Addr}{c:Nat}{v:V}(I:Inv X pins σ H s) (q:Rep p (fz O H) (.exc c) v):∃a C,v = .ref a/\p.cls[c]? = some C/\q3I a C s.heap:=by obtain⟨a,C,e,h1,h2⟩:=q;exact⟨a,C,e,h1,(I.hok a _ (q0b _ _ h2)).1⟩
theorem qJC (hX:∀(c:Nat) (C:Addr),p.cls[c]? = some C->ExOk X.K C/\kitOne X.K (.ref C) (.type "ValueError")=some true):BI X p sub .isVal (.type "ValueError"):=by
 intro E pins s σ H os d r v u I rv q h;cases d<;>first
  |(cases h;done)
  |skip
 cases h;obtain⟨a,C,rfl,h1,h2⟩:=qF9 I q;cases rv;obtain⟨k1,k2⟩:=hX _ C h1;exact kia_one (q9X k1) I.kIn h2 k2 (λ z=>nomatch z) λ tk=>q2l I _ tk
theorem qJD {k:Nat}{Cc:Addr}(hX:∀(c:Nat) (C:Addr),p.cls[c]? = some C->ExOk X.K C/\kitOne X.K (.ref C) (.ref Cc)=some (sub c k)):BI X p sub (.isExc k) (.ref Cc):=by
 intro E pins s σ H os d r v u I rv q h;cases d<;>first
  |(cases h;done)
  |skip
 cases h;obtain⟨a,C,rfl,h1,h2⟩:=qF9 I q;cases rv;obtain⟨k1,k2⟩:=hX _ C h1;exact kia_one (q9X k1) I.kIn h2 k2 (λ z=>nomatch z) λ tk=>q2l I _ tk
theorem q3q {a:PySem.Expr}{cn:Str}{l:L}{b:Bi}{cv:Value}{q q2 pos:Pos}(hB:BI X p sub b cv) (hg:Gl X "isinstance") (hm:X.mg "isinstance" = none) (ha:SB X p G sub a l)
  (hc:∀(E:Value->Shared->Prop) (Q:Value->Shared->Prop) (pins:List (Addr×Obj)) (s:Shared) (σ:L2.St) (H:Hp),Inv X pins σ H s->Q cv s->wpAny (model X.prog X.w) X.A (eval (.Name cn q2) X.env) Q E s)
  (hst:starEach [a,.Name cn q2] X.env=[(false,eval a X.env),(false,eval (.Name cn q2) X.env)]):SE X p G sub (.Call (.Name "isinstance" q) [a,.Name cn q2] [] pos) (.bi b [l]):=by
 intro pins s σ H ρ os I R hs;refine wpAny_Call_Name_kw (q1p I hg hm boot_isinstance ?_ (by decide) (by decide));refine PyProof.Rows.callWith_builtin1 ?_ (by rw[hst];rfl) rfl;rw[hst];show wpAny _ _ (spliced ((false,eval a X.env)::backTo pos [(false,eval (.Name cn q2) X.env)])) _ _ s;refine Calls.spliced_cons (wpAny_mono (ha pins s σ H ρ os I R (q5X hs)) (λ u s1 h=>?_) (λ _ _=>q5W));obtain⟨d,v,H1,e1,I1,r1,x1,q1⟩:=h;have e0:ev G sub (.bi b [l]) ρ=biD sub b [d]:=by rw[q16,q24 (f:=λ d=>biD sub b [d]) l ρ _ (λ _=>rfl),e1];rfl
 rw[e0] at hs |-;show wpAny _ _ (spliced ((false,eval (.Name cn q2) X.env)::[])) _ _ s1;refine Calls.spliced_cons (hc _ _ pins s1 σ H1 I1 (Calls.spliced_nil ?_));rcases q6H sub b [d] with z|⟨r,z⟩
 ·exact absurd z hs
 ·rw[z];exact wpAny_mono (hB (Er X p pins σ H (.ok r)) pins s1 σ H1 os d r v u I1 r1 q1 z) (λ w s2 h2=>q8T x1 rfl h2) λ _ _ z=>z
end
end Snd
namespace Snd
open PySem PySem.Spec PyProof.Rows L2 Ev
variable {H:Hp}{o:HO}{i:Nat}{x:Str}{pos pos' q:Pos}
theorem qGT {O:List Addr}{a:Addr}(n:H a=none):Ext (fz O H) (fz (O++[a]) (upd H a o)):=λ c u e=>by
 unfold fz at e |-;split at e
 ·cases e
 ·rename_i h;have ne:c≠a:=λ z=>by rw[z,n] at e;cases e
  rw[if_neg (by simp[h,ne]),q06 ne];exact e
theorem qAP {p:Pm}{H':Hp}(x:∀a o,H a=some o->(∀kvs,o ≠ .dK kvs)->H' a=some o):(∀d v,Rep p H d v->Rep p H' d v)/\(∀ds vs,RepL p H ds vs->RepL p H' ds vs):=by
 have rdL:∀{a:Addr}{vs:List V},SqL p.K H a vs->SqL p.K H' a vs:=λ h=>h.elim (λ r=> .inl (r.elim (λ e=> .inl (x _ _ e (λ _ z=>nomatch z))) λ⟨o,e⟩=> .inr ⟨o,x _ _ e (λ _ z=>nomatch z)⟩)) .inr;have rdT:∀{a:Addr}{vs:List V},SqT p.K H a vs->SqT p.K H' a vs:=λ h=>h.elim (λ r=> .inl (r.elim (λ e=> .inl (x _ _ e (λ _ z=>nomatch z))) λ⟨o,e⟩=> .inr ⟨o,x _ _ e (λ _ z=>nomatch z)⟩)) .inr;refine D.ind (P:=λ d=>∀v,Rep p H d v->Rep p H' d v) (Q:=λ ds=>∀vs,RepL p H ds vs->RepL p H' ds vs)
  (λ v h=>h) (λ _ v h=>h) (λ _ v h=>h) (λ _ v h=>h) (λ l ih v h=>?_) (λ l ih v h=>?_) (λ k l ihk ih v h=>?_) (λ c v h=>?_) (λ vs h=>h) (λ d ds ih1 ih2 vs h=>?_)
 ·obtain⟨a,vs,e,s,z,r⟩:=h;exact⟨a,vs,e,rdT s,z,ih _ r⟩
 ·obtain⟨a,vs,e,s,r⟩:=h;exact⟨a,vs,e,rdL s,ih _ r⟩
 ·obtain⟨a,kvs,o,e,s,q,r⟩:=h;exact⟨a,kvs,o,e,x _ _ s (λ _ z=>nomatch z),q,ih _ r⟩
 ·obtain⟨a,C,e,s,q⟩:=h;exact⟨a,C,e,s,x _ _ q (λ _ z=>nomatch z)⟩
 ·obtain⟨v,r,e,h1,h2⟩:=h;exact⟨v,r,e,ih1 _ h1,ih2 _ h2⟩
theorem qJE {p:Pm}{H':Hp}(x:∀a o,H a=some o->(∀kvs,o ≠ .dK kvs)->H' a=some o) {d:D}{v:V}(h:Rep p H d v):Rep p H' d v:=(qAP x).1 d v h
theorem q4v {p:Pm}{H Hf:Hp}{c:Addr}{o:HO}:∀{bs:List Addr}{xss:List (List D)},c∉bs->q2q p H Hf bs xss->q2q p (upd H c o) Hf bs xss
 |[],_,_,h=>h
 |b::bs,xss,n,h=>by obtain⟨xs,r,e,⟨vs,h1,h2⟩,h3⟩:=h;exact⟨xs,r,e,⟨vs,by rw[q06 λ z=>n (by simp[z])];exact h1,h2⟩,q4v (λ z=>n (List.mem_cons_of_mem _ z)) h3⟩
theorem q4w {p:Pm}{Hf:Hp}{c:Addr}{x:Option Sl}{y:Option V}{as:List Addr}(n:c∉as) (h:q3J p H Hf x y as):q3J p (upd H c o) Hf x y as:=by
 cases x with
 |none=>exact h
 |some sl =>
  cases sl with
  |val d=>exact h
  |own d =>
   obtain⟨a,h1,h2,h3⟩:=h;have ne:a≠c:=λ z=>n (by rw[h2,z];simp);refine⟨a,h1,h2,?_⟩;cases d with
   |lst ds=>obtain⟨vs,q1,q2⟩:=h3;exact⟨vs,by rw[q06 ne];exact q1,q2⟩
   |dct ks ds=>obtain⟨kvs,q1,q2,q3⟩:=h3;exact⟨kvs,by rw[q06 ne];exact q1,q2,q3⟩
   |_=>exact h3
  |own2 xss =>
   obtain⟨a,bs,h1,h2,h3,h4⟩:=h;subst h2;exact⟨a,bs,h1,rfl,by rw[q06 λ z=>n (by simp[z])];exact h3,q4v (λ z=>n (List.mem_cons_of_mem _ z)) h4⟩
theorem q3r {p:Pm}{H Hf:Hp}{c:Addr}{o:HO}:∀{ρ:Ev.Env}{σ:L2.St}{os:List (List Addr)},c∉os.flatten->q1K p H Hf ρ σ os->q1K p (upd H c o) Hf ρ σ os
 |[],_,_,_,_=>trivial
 |_::ρ,_,_,n,h=>by obtain⟨y1,σ',as,os',rfl,rfl,h1,h2⟩:=h;simp only[List.flatten_cons,List.mem_append,not_or] at n;exact⟨y1,σ',as,os',rfl,rfl,q4w n.1 h1,q3r n.2 h2⟩
theorem q7P {p:Pm}{H Hf:Hp}{c:Addr}{o:HO}{x:Option Sl}:∀{ρ:Ev.Env}{σ:L2.St}{os:List (List Addr)}(i:Nat) {y:Option V}{as:List Addr},q1K p H Hf ρ σ os->σ[i]? = some y->os[i]? = some as->c∈as->os.flatten.Nodup->q3J p (upd H c o) Hf x y as->
  q1K p (upd H c o) Hf (ρ.set i x) σ os
 |[],_,_,_,_,_,_,_,_,_,_,_=>trivial
 |_::ρ,_,_,0,y,as,h,e1,e2,hc,nd,q=>by obtain⟨y1,σ',as',os',rfl,rfl,h1,h2⟩:=h;simp at e1 e2;subst e1 e2;simp only[List.flatten_cons] at nd;exact⟨_,σ',_,os',rfl,rfl,q,q3r (λ z=>(List.nodup_append.mp nd).2.2 c hc c z rfl) h2⟩
 |_::ρ,_,_,i+1,y,as,h,e1,e2,hc,nd,q=>by obtain⟨y1,σ',as',os',rfl,rfl,h1,h2⟩:=h;simp only[List.flatten_cons] at nd;have m:c∈os'.flatten:=List.mem_flatten.mpr ⟨as,List.mem_of_getElem? (by simpa using e2),hc⟩;exact⟨y1,σ',as',os',rfl,rfl,q4w (λ z=>(List.nodup_append.mp nd).2.2 c z c m rfl) h1,q7P i h2 (by simpa using e1) (by simpa using e2) hc (List.nodup_append.mp nd).2.1 q⟩
theorem Bd.write {p:Pm}{H0:Hp}{O0:List Addr}{ρ:Ev.Env}{σ:L2.St}{os:List (List Addr)}{sl:Sl}{y:Option V}{as:List Addr}{c:Addr}(b:Bd p H0 O0 ρ σ os H) (e1:σ[i]? = some y) (e2:os[i]? = some as) (hc:c∈as)
  (q:q3J p (upd H c o) (fz (os++[O0]).flatten H) (some sl) y as):Bd p H0 O0 (ρ.set i (some sl)) σ os (upd H c o):=by
 have mo:c∈os.flatten:=List.mem_flatten.mpr ⟨as,List.mem_of_getElem? e2,hc⟩;have m:c∈(os++[O0]).flatten:=by rw[q0m];exact List.mem_append_left _ mo
 have e3:(os++[O0])[i]? = some as:=by rw[List.getElem?_append_left (List.getElem?_eq_some_iff.mp e2).1];exact e2
 refine⟨⟨b.rel.nd,λ a ha=>?_,?_⟩,by simp[b.len],by simp[b.slen],λ a u e=>?_,b.new⟩
 ·by_cases h:a=c
  ·subst h;exact⟨_,q0E⟩
  ·obtain⟨u,e⟩:=b.rel.there a ha;exact⟨u,by rw[q06 h];exact e⟩
 ·rw[q3m m];exact q7P i b.rel.slots e1 e3 hc b.rel.nd q
 ·rw[q06 λ z=>by rw[z,b.new c mo] at e;cases e];exact b.ext a u e
theorem Bd.at {p:Pm}{H0:Hp}{O0:List Addr}{ρ:Ev.Env}{σ:L2.St}{os:List (List Addr)}{H:Hp}{i:Nat}{x:Option Sl}(b:Bd p H0 O0 ρ σ os H) (h:ρ[i]? = some x):∃y as,σ[i]? = some y/\os[i]? = some as/\q3J p H (fz (os++[O0]).flatten H) x y as:=by
 obtain⟨y,as,e1,e2,h1⟩:=q3L b.rel.slots h;have lt:i<os.length:=by rw[b.len];exact (List.getElem?_eq_some_iff.mp h).1
 rw[List.getElem?_append_left lt] at e2;exact⟨y,as,e1,e2,h1⟩
section
variable {X:Cx}{p:Pm}{G:Nat->List D->R D}{sub:Nat->Nat->Bool}
theorem q9Y {α:Type}{H0:Hp}{O0:List Addr}{pins:List (Addr×Obj)}{ρ:Ev.Env}{σ:L2.St}{os:List (List Addr)}{H1:Hp}{r:R α}{f:α->RS}{e:Value}{s':Shared}(B:Bd p H0 O0 ρ σ os H) (x:Ext H H1) (h:Er X p pins σ H1 r e s'):Es X p H0 O0 pins (r.go ρ f) e s':=by obtain⟨c,e1,m⟩:=h;exact⟨c,ρ,σ,os,H,by rw[e1];rfl,B,m.ext x⟩
theorem qGU {es:List PySem.Expr}{ls:List L}{pos2:Pos}(hN:X.N.Nodup) (hi:X.N[i]? = some x) (hx:Loc X.env.scope x) (hf:X.fn x=true\/X.env.scope.names.lookup x=some .local) (h:SA X p G sub es ls) :
  SS X p G sub (.Assign [.Name x pos'] (.List es pos2) pos) (.setO i (.lst ls)):=by
 intro H0 O0 E hp pins s σ H ρ os I B hs hE;have e0:ex G sub (.setO i (.lst ls)) ρ=(ev G sub (.lst ls) ρ).go ρ λ d=> .ok (ρ.set i (some (.own d))) .nx:=rfl;rw[e0,q76] at hs hE |-;have ns:=q0D (q2j hs);refine wpAny_Assign_Name (wpAny_List_spliced (wpAny_mono (h pos2 pins s σ H ρ _ I B.rel ns) (λ us s1 ⟨ds,vs,H1,e1,I1,r1,x1,q1⟩=>?_) (λ e s' z=>hE e s' (q3O B z.bind)))) rfl;rw[e1,q00] at hs hE |-;have z:ds.length<=big:=by
  by_cases z:ds.length<=big
  ·exact z
  ·rw[if_neg z] at hs;exact absurd rfl hs
 rw[if_pos z];have z1:vs.length<=sizeLine:=Nat.le_trans (q1.length▸z) q0p;refine⟨by rw[<-r1.length];exact z1,?_⟩;have hfr:H1 s1.heap.objs.size=none:=I1.hok.fresh (Nat.le_refl _);have lt:i < ρ.length:=by rw[<-B.slen,I.len];exact (List.getElem?_eq_some_iff.mp hi).1
 have B1:=B.mono x1;have I2:Inv X pins σ (upd H1 s1.heap.objs.size (.lst vs)) {s1 with heap:=s1.heap.push {cls:= .type "list",data:= .seq us.toArray}}:=I1.lnew (t':=s1.toks) r1 z1;refine q13 (v:= .ref s1.heap.objs.size) I2 hN hi hx rfl (λ s3 I3=>⟨_,.nx,_,_,_,rfl,B1.setO lt (Ext.upd hfr) (as:=[s1.heap.objs.size]) (by simp) (λ a ha=>?_) (λ a ha=>?_) ⟨_,rfl,rfl,vs,q0E,q1.mono (qGT hfr)⟩,I3,trivial⟩) hf
 ·rw[List.mem_singleton.mp ha];exact hfr
 ·rw[List.mem_singleton.mp ha];exact⟨_,q0E⟩
theorem qJF {a:PySem.Expr}{l:L}{ap cp:Pos}(hi:X.N[i]? = some x) (hv:Vis X.env.scope x) (hd:(x==("__debug__":Str))=false) (hcd:(x==("__classdict__":Str))=false) (ha:SE X p G sub a l)
  (hst:starEach [a] X.env=[(false,eval a X.env)]) (hline:(ap.endLine==cp.line)=true):SS X p G sub (.Expr (.Call (.Attribute (.Name x q) "append" ap) [a] [] cp) pos) (.app i l):=by
 intro H0 O0 E hp pins s σ H ρ os I B hs hE;have e0:ex G sub (.app i l) ρ=match ρ[i]? with
   |some (some (.own (.lst xs)))=>(ev G sub l ρ).go ρ λ d=>if xs.length<big then .ok (ρ.set i (some (.own (.lst (xs++[d]))))) .nx else .stuck
   |_=> .stuck:=rfl
 rw[e0] at hs hE |-;split at hs
 ·rename_i xs hρ;simp only[hρ] at hE |-;obtain⟨y,as,s1,s2,a',rfl,rfl,vs,s5,s6⟩:=B.at hρ;refine wpAny_Expr_any (wpAny_Call_method_late rfl (by rw[hst];rfl) hline rfl (q3M I hi hv s1 hd hcd λ u r=>?_)) I.quiet rfl;cases r;obtain⟨h1,h2⟩:=q93 (T := "list") (x:= .ref a') I rfl (.inl ⟨rfl,_,SqL.of s5⟩);refine⟨"list", "list.append",PySem.F.plainAttrs_list,PySem.F.slot_list_append,PySem.F.type_list_append,h1,h2,?_⟩;rw[hst];refine Calls.callWith_builtin rfl (Calls.evalArgs_plain ?_);show wpAny _ _ (spliced ((false,eval a X.env)::[])) _ _ s;refine Calls.spliced_cons (wpAny_mono (ha pins s σ H ρ _ I B.rel (q2j hs)) (λ v s3 ⟨d,x',H1,e1,I1,r1,x1,q1⟩=>Calls.spliced_nil ?_) (λ e s' z=>hE e s' (q3O B z)));rw[e1,q05] at hs hE |-;have z:xs.length<big:=by
   by_cases z:xs.length<big
   ·exact z
   ·rw[if_neg z] at hs;exact absurd rfl hs
  rw[if_pos z];have hl:=s6.length;refine wpAny_mono (q3C (X:=X.wish E) pins s3 σ H1 (.ref a') [x'] _ _ (λ z H'=>H'=upd H1 a' (.lst (vs++[x']))) (I1.wish E) rfl (.cons r1 .nil) ⟨a',vs,x',rfl,rfl,x1 _ _ s5,Nat.lt_of_lt_of_le (by lia) q0p,rfl⟩) (λ w s4 ⟨zv,H2,I2,_,eH⟩=>?_) (λ _ _ z=>z);subst eH;exact⟨_,.nx,σ,os,_,rfl,(B.mono x1).write s1 s2 (by simp) ⟨a',rfl,rfl,_,q0E,(s6.mono (q1J x1)).snoc q1⟩,I2.q2k,trivial⟩
 ·exact absurd rfl hs
theorem qJG {j:Nat}{y:Str}{ap cp:Pos}(hN:X.N.Nodup) (hi:X.N[i]? = some x) (hx:Loc X.env.scope x) (hf:X.fn x=true\/X.env.scope.names.lookup x=some .local) (hj:X.N[j]? = some y) (hv:Vis X.env.scope y) (hd:(y==("__debug__":Str))=false) (hcd:(y==("__classdict__":Str))=false)
  (hline:(ap.endLine==cp.line)=true):SS X p G sub (.Assign [.Name x pos'] (.Call (.Attribute (.Name y q) "pop" ap) [] [] cp) pos) (.pop i j):=by
 intro H0 O0 E hp pins s σ H ρ os I B hs hE;have e0:ex G sub (.pop i j) ρ=match ρ[j]? with
   |some (some (.own (.lst xs)))=>match xs.getLast? with
     |some d=> .ok ((ρ.set j (some (.own (.lst xs.dropLast)))).set i (some (.val d))) .nx
     |none=> .stuck
   |_=> .stuck:=rfl
 rw[e0] at hs hE |-;split at hs
 ·rename_i xs hρ;simp only[hρ] at hE |-;split at hs
  ·rename_i d hlast;simp only[hlast] at hE |-;obtain⟨y',as,s1,s2,a',rfl,rfl,vs,s5,s6⟩:=B.at hρ;have hl:=s6.length;have hlast':xs[xs.length-1]? = some d:=(by rw[List.getLast?_eq_getElem?] at hlast;exact hlast);obtain⟨v,hv1,hv2⟩:=s6.get hlast';rw[hl] at hv1;have lt:i < ρ.length:=(by rw[<-B.slen,I.len];exact (List.getElem?_eq_some_iff.mp hi).1);refine wpAny_Assign_Name (wpAny_Call_method0_late rfl hline (q3M I hj hv s1 hd hcd λ u r=>?_)) rfl;cases r;obtain⟨h1,h2⟩:=q93 (T := "list") (x:= .ref a') I rfl (.inl ⟨rfl,_,SqL.of s5⟩);refine⟨"list", "list.pop",PySem.F.plainAttrs_list,PySem.F.slot_list_pop,PySem.F.type_list_pop,h1,h2,?_⟩;refine Calls.callWith_builtin rfl (PySem.evalArgs_none ?_);refine wpAny_mono (qI7 (X:=X.wish E) pins s σ H (.ref a') [] _ _ (λ z H'=>z=v/\H'=upd H a' (.lst vs.dropLast)) (I.wish E) rfl .nil ⟨a',vs,v,rfl,rfl,s5,hv1,rfl,rfl⟩) (λ w s4 ⟨zv,H2,I2,rz,ez,eH⟩=>?_) (λ _ _ z=>z);subst ez eH;have dl:RepL p (fz (os++[O0]).flatten H) xs.dropLast vs.dropLast:=by rw[List.dropLast_eq_take,List.dropLast_eq_take,hl];exact s6.take _
   have B2:Bd p H0 O0 (ρ.set j (some (.own (.lst xs.dropLast)))) σ os (upd H a' (.lst vs.dropLast)):=B.write s1 s2 (by simp) ⟨a',rfl,rfl,_,q0E,dl⟩;have m:a'∈(os++[O0]).flatten:=(by rw[q0m];exact List.mem_append_left _ (List.mem_flatten.mpr ⟨_,List.mem_of_getElem? s2,by simp⟩));exact q13 I2.q2k hN hi hx rz (λ s5 I5=>⟨_,.nx,_,_,_,rfl,B2.setV (by simpa using lt) (by rw[q3m m];exact hv2),I5,trivial⟩) hf
  ·exact absurd rfl hs
 ·exact absurd rfl hs
theorem qBu {O:List Addr}(o:Op2) (d e r:D) (x y:V) (h:augD o d e = .ok r) (hx:Rep p (fz O H) d x) (hy:Rep p (fz O H) e y):∃r2:R2,OpR X (inplaceOp (opr o)) r2/\r2 x y H (Fin p O H r):=by
 unfold augD at h;split at h
 ·rename_i m n;cases (show x=_ from hx);cases (show y=_ from hy);exact⟨_,qG3 o,q7D o h⟩
 ·cases h
theorem qDt (o:Op2) (d e:D):augD o d e = .stuck\/∃r,augD o d e = .ok r:=by
 unfold augD;split
 ·exact qBb _ _ _
 ·exact .inl rfl
theorem qJH {e:PySem.Expr}{l:L}{op:Operator}{o:Op2}(hN:X.N.Nodup) (hi:X.N[i]? = some x) (hx:Loc X.env.scope x) (hf:X.fn x=true\/X.env.scope.names.lookup x=some .local) (ho:opOf op=some o) (he:SE X p G sub e l) :
  SS X p G sub (.AugAssign (.Name x pos') op e pos) (.aug i o l):=by
 intro H0 O0 E hp pins s σ H ρ os I B hs hE;have e0:ex G sub (.aug i o l) ρ=(getV ρ i).go ρ λ x=>(ev G sub l ρ).go ρ λ y=>(augD o x y).go ρ λ z=> .ok (ρ.set i (some (.val z))) .nx:=rfl;rw[e0] at hs hE |-;rw[q99 ho];cases hg:getV ρ i with
 |stuck=>simp only[hg] at hs;exact absurd rfl hs
 |err c=>unfold getV at hg;split at hg<;>cases hg
 |ok d =>
 simp only[hg,q05] at hs hE |-;obtain⟨v,e1,hrep⟩:=B.rel.val hg;obtain⟨m,hn,hl⟩:=I.loc;have vis:Vis X.env.scope x:=by rcases hx with k|k;exact .inl k;exact .inr (.inl k)
 obtain⟨u,r,lk⟩:=hl i x v hi e1 vis;have lt:i < ρ.length:=by rw[<-B.slen,I.len];exact (List.getElem?_eq_some_iff.mp hi).1
 refine wpAny_AugAssign_Name ?_;have go:wpAny (model X.prog X.w) X.A (eval e X.env) (λ w s₂=>wpAny (model X.prog X.w) X.A (inplaceOp (opr o) u w) (λ r s₃=>wpAny (model X.prog X.w) X.A (storeName X.env x r) (λ _=>Gs X p H0 O0 pins ((ev G sub l ρ).go ρ λ y=>(augD o d y).go ρ λ z=> .ok (ρ.set i (some (.val z))) .nx) .next) E s₃) E s₂) E s:=by
  refine wpAny_mono (he pins s σ H ρ _ I B.rel (q2j hs)) (λ w s1 ⟨d2,y,H1,e2,I1,r1,x1,q1⟩=>?_) (λ e s' z=>hE e s' (q3O B z));rw[e2,q05] at hs hE |-;rcases qDt o d d2 with z|⟨dr,z⟩
  ·rw[z] at hs;exact absurd rfl hs
  rw[z,q05];obtain⟨r2,k,q⟩:=qBu (X:=X.wish E) (p:=p) (O:=(os++[O0]).flatten) (H:=H1) o d d2 dr v y z (hrep.mono (q1J x1)) q1;refine wpAny_mono (k pins s1 σ H1 v y u w _ (I1.wish E) r r1 q) (λ zz s2 ⟨zv,H2,I2,r2',x2,q2⟩=>?_) (λ _ _ z=>z);exact q13 I2.q2k hN hi hx r2' (λ s3 I3=>⟨_,.nx,_,_,H2,rfl,((B.mono x1).mono x2).setV lt q2,I3,trivial⟩) hf
 rcases lk with ⟨hk,hm⟩|⟨hk,c,hc,hcell⟩
 ·exact wpAny_loadName_local I.ok.kind hk hn hm go
 ·rcases hk with hk|hk
  ·exact wpAny_loadName_cell I.ok.kind hk hc hcell go
  ·have hk:X.env.scope.names.lookup x=some .free:=hk;rcases hx with k|k<;>(rw[k] at hk;cases hk)
theorem qGV {k v:PySem.Expr}{lk lv:L}{pos2:Pos}(hN:X.N.Nodup) (hi:X.N[i]? = some x) (hx:Loc X.env.scope x) (hf:X.fn x=true\/X.env.scope.names.lookup x=some .local) (hk:SE X p G sub k lk) (hv:SE X p G sub v lv) :
  SS X p G sub (.Assign [.Name x pos'] (.Dict [some k] [v] pos2) pos) (.setO i (.dct lk lv)):=by
 intro H0 O0 E hp pins s σ H ρ os I B hs hE;have e0:ex G sub (.setO i (.dct lk lv)) ρ=(ev G sub (.dct lk lv) ρ).go ρ λ d=> .ok (ρ.set i (some (.own d))) .nx:=rfl;rw[e0,qIL] at hs hE |-;have ns:=q0D (q2j hs);have hn:H s.heap.objs.size=none:=I.hok.fresh (Nat.le_refl _);have lt:i < ρ.length:=by rw[<-B.slen,I.len];exact (List.getElem?_eq_some_iff.mp hi).1
 have I1:=I.laid (a:=s.heap.objs.size) (o:= .dK []) (h':=s.heap.push {cls:= .type "dict",data:= .dict #[]}) (t':=s.toks) (λ _ _ q=>Heap.get?_push_of_some _ q) (Nat.le_refl _) (qDB s.heap I.big);have x0:Ext H (upd H s.heap.objs.size (.dK [])):=Ext.upd hn;have B1:=B.mono x0;refine wpAny_Assign_Name (wpAny_Dict_walk (knd:=q0f X.prog X.w) rfl rfl (by simp) (by simp) (pairTrees_cons_walk (wpAny_mono (hk pins _ σ _ ρ _ I1 B1.rel ns) (λ u s1 ⟨d1,y1,H1,e1,I1',r1,x1,q1⟩=>?_) (λ e s' z=>hE e s' (q9Y B x0 z.bind))))) rfl;rw[e1,q00] at hs hE |-;refine wpAny_mono (hv pins s1 σ H1 ρ _ I1' (B1.rel.ext x1) (q0D (q2j hs))) (λ u2 s2 ⟨d2,y2,H2,e2,I2,r2,x2,q2⟩=>?_) (λ e s' z=>hE e s' (q9Y B (x0.trans x1) z.bind));rw[e2,q00] at hs hE |-;refine pairTrees_nil_walk ?_;cases d1<;>first
  |exact absurd rfl hs
  |skip
 rename_i n;cases (show y1=_ from q1);have hp2:H2 s.heap.objs.size=some (.dK []):=x2 _ _ (x1 _ _ q0E);obtain⟨z,hd,vs0,r0,dd⟩:=qFe I2.hok hp2;cases r0;obtain⟨rs,c,rk⟩:=q5Q (P:=X.prog) (w:=X.w) (kvs:=[(Sum.inl n,y2)]) (ws:=[(u,u2)]) (.cons ⟨r1,r2⟩ .nil);refine⟨rs,c,dd,λ h' dd' hsb=>?_⟩;have he:∃q,h'.get? s.heap.objs.size=some q:=let ⟨q,_,_,hq,_⟩:=dd';⟨q,hq⟩;have hz:(qEo [] [((Sum.inl n:Key),y2)]).length<=sizeLine:=by rw[sizeLine_eq];show 1<=_;decide
 have I3:Inv X pins σ (upd H2 s.heap.objs.size (.dK [(Sum.inl n,y2)])) {s2 with heap:=h',toks:=s2.toks+[(u,u2)].length}:=q8B I2 (by rw[hp2];exact True.intro) hsb he (qEn hz hd (rk.merge .nil) dd');have xt:Ext H (upd H2 s.heap.objs.size (.dK [(Sum.inl n,y2)])):=λ a o e=>by rw[q06 (q08 e hn)];exact x2 _ _ (x1 _ _ (x0 _ _ e))
 refine q13 (v:= .ref s.heap.objs.size) I3 hN hi hx rfl (λ s3 I4=>⟨_,.nx,_,_,_,rfl,B.setO lt xt (as:=[s.heap.objs.size]) (by simp) (λ a ha=>?_) (λ a ha=>?_) ⟨_,rfl,rfl,_,q0E,rfl,y2,[],rfl,qJE ?_ q2,rfl⟩,I4,trivial⟩) hf
 ·rw[List.mem_singleton.mp ha];exact hn
 ·rw[List.mem_singleton.mp ha];exact⟨_,q0E⟩
 ·intro a o e nd;unfold fz at e |-;split at e
  ·cases e
  ·rename_i h;have ne:a≠s.heap.objs.size:=λ z=>by rw[z,hp2] at e;exact nd _ (Option.some.inj e).symm
   rw[if_neg λ m=>(List.mem_append.mp m).elim h λ z=>ne (List.mem_singleton.mp z),q06 ne];exact e
theorem qBv {Hf:Hp}{n:Int}{y:D}{v:V}(hy:Rep p Hf y v):∀{kvs:List (Key×V)}{ds:List D}{r:List D×List D},(kvs.map (·.1)).Nodup->RepL p Hf ds (kvs.map (·.2))->put n y (kvs.map λ q=>keyD q.1) ds = .ok r->
  r.1=(putK kvs (.inl n) v).map (λ q=>keyD q.1)/\RepL p Hf r.2 ((putK kvs (.inl n) v).map (·.2))
 |[],ds,r,_,h,e=>by cases (show ds=[] from by cases ds with|nil=>rfl|cons _ _=>obtain⟨_,_,z,_⟩:=h;cases z);cases e;exact⟨rfl,v,[],rfl,hy,rfl⟩
 |(k,w)::t,ds,r,nd,h,e=>by
  cases ds with
  |nil=>cases (show (w::t.map (·.2))=[] from h)
  |cons d1 ds =>
   obtain⟨v0,r',q,h1,h2⟩:=h;injection q with q1 q2
   subst q1 q2;have nd':k∉t.map (·.1)/\(t.map (·.1)).Nodup:=List.nodup_cons.mp nd;cases k with
   |inr x=>simp[put,keyD] at e
   |inl j =>
    have e':(if j=n then R.ok (D.int j::t.map (λ q=>keyD q.1),y::ds) else (put n y (t.map λ q=>keyD q.1) ds).bind λ r=> .ok (.int j::r.1,d1::r.2)) = .ok r:=e;clear e
    by_cases c:j=n
    ·rw[if_pos c] at e';subst c;cases e';have eq:putK ((Sum.inl j,w)::t) (.inl j) v=(Sum.inl j,v)::t:=by
      unfold putK;rw[if_pos (by simp),List.map_cons,if_pos rfl];congr 1;have:∀q∈t,(if q.1=(Sum.inl j:Key) then (q.1,v) else q)=q:=λ q hq=>if_neg λ z=>nd'.1 (List.mem_map.mpr ⟨q,hq,z⟩)
      conv=>rhs;rw[<-List.map_id t]
      exact List.map_congr_left λ q hq=>this q hq
     rw[eq];exact⟨rfl,v,_,rfl,hy,h2⟩
    ·rw[if_neg c] at e';cases e2:put n y (t.map λ q=>keyD q.1) ds with
     |ok r2 =>
      rw[e2,q00] at e';cases e';obtain⟨g1,g2⟩:=qBv hy nd'.2 h2 e2;have eq:putK ((Sum.inl j,w)::t) (.inl n) v=(Sum.inl j,w)::putK t (.inl n) v:=by
       unfold putK;have c':¬((Sum.inl j:Key)=Sum.inl n):=λ z=>c (Sum.inl.inj z);rw[List.any_cons];simp only[c',decide_false,Bool.false_or];split
       ·rw[List.map_cons,if_neg c']
       ·rfl
      rw[eq];exact⟨by rw[List.map_cons,<-g1];rfl,w,_,rfl,h1,g2⟩
     |err c=>rw[e2] at e';cases e'
     |stuck=>rw[e2] at e';cases e'
theorem qBw (n:Int) (y:D):∀(ks vs:List D),put n y ks vs = .stuck\/∃r,put n y ks vs = .ok r
 |[],[]=> .inr ⟨_,rfl⟩
 |[],_::_=> .inl rfl
 |k::ks,[]=>by cases k<;>exact .inl rfl
 |k::ks,v::vs=>by
  cases k<;>first
   |exact .inl rfl
   |(unfold put
     split
     ·exact .inr ⟨_,rfl⟩
     ·rcases qBw n y ks vs with z|⟨r,z⟩
      ·rw[z];exact .inl rfl
      ·rw[z];exact .inr ⟨_,rfl⟩)
theorem qDu {P:Program}{w:World}{h:Heap}{a:Addr}{kvs:List (Key×V)}(ok:HOk P w H h) (e:H a=some (.dK kvs)):(kvs.map (·.1)).Nodup:=by
 obtain⟨z,hd,vs,rel,_,_,_,_,_,_,_,_,nd⟩:=qFe ok e;have:∀{l:List (Key×V)}{m:List (Key×Value)},KV l m->l.map (·.1)=m.map (·.1):=by
  intro l m r;unfold KV at r
  induction r with
  |nil=>rfl
  |cons h t ih=>rw[List.map_cons,List.map_cons,ih,h.1]
 rw[this rel];exact nd
theorem qJI {k v:PySem.Expr}{lk lv:L}(hu:X.A.units+64<cLine) (hi:X.N[i]? = some x) (hvs:Vis X.env.scope x) (hd:(x==("__debug__":Str))=false) (hcd:(x==("__classdict__":Str))=false) (hk:SE X p G sub k lk) (hv:SE X p G sub v lv)
  (hsw:swapsWith v (some (.Subscript (.Name x q) k pos')) pos.line X.env=pure false):SS X p G sub (.Assign [.Subscript (.Name x q) k pos'] v pos) (.put i lk lv):=by
 intro H0 O0 E hp pins s σ H ρ os I B hs hE;have e0:ex G sub (.put i lk lv) ρ=match ρ[i]? with
   |some (some (.own (.dct ks vs)))=>(ev G sub lv ρ).go ρ λ y=>(ev G sub lk ρ).go ρ λ x=>match x with
     | .int n=>if ks.length<big then (put n y ks vs).go ρ λ r=> .ok (ρ.set i (some (.own (.dct r.1 r.2)))) .nx else .stuck
     |_=> .stuck
   |_=> .stuck:=rfl
 rw[e0] at hs hE |-;split at hs
 ·rename_i ks ds hρ;simp only[hρ] at hE |-;obtain⟨y,as,s1,s2,a',rfl,rfl,kvs,s5,s6,s7⟩:=B.at hρ;refine wpAny_Assign_Subscript (wpAny_mono (hv pins s σ H ρ _ I B.rel (q2j hs)) (λ u1 t1 ⟨d1,y1,H1,e1,I1,r1,x1,q1⟩=>?_) (λ e s' z=>hE e s' (q3O B z))) hsw;rw[e1,q05] at hs hE |-;refine q3M I1 hi hvs s1 hd hcd λ u r=>?_;cases r;have B1:=B.mono x1;refine wpAny_mono (hk pins t1 σ H1 ρ _ I1 B1.rel (q2j hs)) (λ u2 t2 ⟨d2,y2,H2,e2,I2,r2,x2,q2⟩=>?_) (λ e s' z=>hE e s' (q9Y B x1 z));rw[e2,q05] at hs hE |-;cases d2<;>first
   |exact absurd rfl hs
   |skip
  rename_i n;have hs:(if ks.length<big then (put n d1 ks ds).go ρ λ r=>RS.ok (ρ.set i (some (.own (.dct r.1 r.2)))) .nx else .stuck) ≠ .stuck:=hs;show wpAny _ _ _ (λ _=>Gs X p H0 O0 pins (if ks.length<big then (put n d1 ks ds).go ρ λ r=>RS.ok (ρ.set i (some (.own (.dct r.1 r.2)))) .nx else .stuck) Flow.next) _ _
  by_cases z:ks.length<big
  ·rw[if_pos z] at hs |-;rcases qBw n d1 ks ds with w|⟨r,w⟩
   ·rw[w] at hs;exact absurd rfl hs
   rw[w,q05];cases (show y2=_ from q2);have x12:=x1.trans x2;have h5:H2 a'=some (.dK kvs):=x12 _ _ s5;subst s6;obtain⟨g1,g2⟩:=qBv (v:=y1) (q1.mono (q1J x2)) (qDu I2.hok h5) (s7.mono (q1J x12)) w;have hl:kvs.length<sizeLine:=Nat.lt_of_lt_of_le (by simpa using z) q0p;refine qAx (A:=X.A) (by lia) I2 (DPut.k (k:= .inl n) h5 hl) r2 r1 λ t3 I3=>?_;exact⟨_,.nx,σ,os,_,rfl,(B.mono x12).write s1 s2 (by simp) ⟨a',rfl,rfl,_,q0E,g1,g2⟩,I3,trivial⟩
  ·rw[if_neg z] at hs;exact absurd rfl hs
 ·exact absurd rfl hs
end
end Snd
namespace Snd
open PySem PySem.Spec PyProof.Rows L2 Ev
section
variable {X:Cx}{p:Pm}{G:Nat->List D->R D}{sub:Nat->Nat->Bool}
theorem qBx {tg iter:PySem.Expr}{sc:Scope}{q pos:Pos}{ts:List Str}{it:Addr}{fp:List Addr}{tn:Nat->Heap->Prop}{J:It}{pins:List (Addr×Obj)}{s2:Shared}{σ:L2.St}{H2:Hp}{os:List (List Addr)}
  {ds:List D}{vs:List V}{cl:List (Str×Addr)}{E:Value->Shared->Prop}{RR:Value->Addr->Result->Shared->Prop}(hc:X.calm=true) (S:ScOk X sc ts) (hcl1:∀y c,cl.lookup y=some c->X.env.cells.lookup y=some c)
  (hcl2:∀x∈sc.names,x.2 = .free->∃c,cl.lookup x.1=some c)
  (hG:∀s2 H2 cl C fp,SGc (cxC X s2 H2 sc cl C (inN ts X.N) fp) p tg 0 ts.length)
  (I2:Inv X pins σ H2 s2) (T:Turn X.prog X.w X.K tg J fp it tn) (st2:tn 0 s2.heap) (f2:∀b∈fp,FpOk X pins H2 b) (rep:RepL p (fz os.flatten H2) ds vs) (wk:Wk J H2 vs) (hbig:ds.length<=1000)
  (hRR:∀D C s' H' bs,Inv X pins σ H' s'->Ext H2 H'->H' D=some (.lst (bs.map V.ref))->bs.length=ds.length->(D::bs).Nodup->(∀b∈D::bs,H2 b=none)->(∀b∈bs,H' b=some (.lst []))->(∃m,s'.heap.Ns C m)->FpOk X pins H' C->RR (.ref D) C (.ok .next) s') :
  wpAny (model X.prog X.w) X.A (newList []) (λ acc s3=>wpAny (model X.prog X.w) X.A (newFunctionEnv sc X.env.globals cl [] X.env.qual none .none (some X.env)) (λ cenv s4 =>
   codeAny (model X.prog X.w) X.A (.compStart (.ListComp (.List [] q) [⟨tg,iter,[],0⟩] sc pos) 0 (.ref it) acc {cenv with scope:=relabel sc X.env}) (RR acc cenv.locals) s4) E s3) E s2:=by
 refine wpAny_newObj_type (wpAny_newFunctionEnv S.cell (by intro y hy;simp at hy) (λ h1 hns1 hsb1=>?_) S.kind);dsimp only at hns1 hsb1 |-;generalize hH2:s2.heap.push {cls:= .type "list",dict:=none,data:= .seq ([]:List Value).toArray}=HH at hns1 hsb1 |-;have hC:HH.objs.size=s2.heap.objs.size+1:=by rw[<-hH2,Heap.size_push]
 rw[hC] at hns1 hsb1 |-;have kp:∀b o,s2.heap.get? b=some o->h1.get? b=some o:=λ b o e=>hsb1.extBut b o (Nat.ne_of_lt (Nat.lt_succ_of_lt (Heap.lt_size e))) (Heap.get?_push_of_some _ (hH2▸Heap.get?_push_of_some _ e));have hD:h1.get? s2.heap.objs.size=some {cls:= .type "list",data:= .seq ([]:List Value).toArray}:=hsb1.extBut _ _ (Nat.ne_of_lt (Nat.lt_succ_self _)) (Heap.get?_push_of_some _ (hH2▸Heap.get?_push_size _ rfl));generalize hs4:({s2 with heap:=h1,toks:=s2.toks+([]:List (Str×Value)).length}:Shared)=s4;have ho:∀b∈fp,∃o,s2.heap.get? b=some o:=λ b hb=>let ⟨o,e,_⟩:=T.obj 0 _ st2 b hb;⟨o,e⟩;have I4:Inv (cxC X s2 H2 sc cl (s2.heap.objs.size+1) (inN ts X.N) fp) [] (List.replicate ts.length none++σ) (upd H2 s2.heap.objs.size (.lst [])) s4:=by rw[<-hs4];exact q7F I2 S hcl1 hcl2 f2 ho ⟨_,hns1⟩ kp hD
 have st4:tn 0 s4.heap:=T.keep _ _ _ st2 λ b hb o e=>by rw[<-hs4];exact kp b o e
 have fr:H2 s2.heap.objs.size=none:=I2.hok.fresh (Nat.le_refl _);have stat:∀{H':Hp},(∀b∈fp,H' b=none)->∀b∈fp,FpOk (cxC X s2 H2 sc cl (s2.heap.objs.size+1) (inN ts X.N) fp) [] H' b:=λ {H'} hn b hb=>by
  refine⟨hn b hb,?_,λ hm=>?_,.inl hb,λ x c h=>(f2 b hb).2.2.2.2.1 x c (hcl1 _ _ h),λ p hp=>absurd (show p∈([]:List (Addr×Obj)) from hp) (by simp)⟩
  ·obtain⟨o,e⟩:=ho b hb;exact Nat.ne_of_lt (Nat.lt_succ_of_lt (Heap.lt_size e))
  ·rcases List.mem_cons.mp (I2.q39 b hm) with z|z
   ·exact (f2 b hb).2.1 z
   ·exact (f2 b hb).2.2.1 z
 have hlen:ds.length=vs.length:=rep.length;have loop:codeAny (model X.prog X.w) X.A (.compLoop (.ListComp (.List [] q) [⟨tg,iter,[],0⟩] sc pos) 0 (.ref it) (.ref s2.heap.objs.size) (compEnvC sc cl (s2.heap.objs.size+1) X.env)) (RR (.ref s2.heap.objs.size) (s2.heap.objs.size+1)) s4:=by
  refine q4H (λ n s'=>∃i σt H' bs,Inv (cxC X s2 H2 sc cl (s2.heap.objs.size+1) (inN ts X.N) fp) [] (σt++σ) H' s'/\σt.length=ts.length/\tn i s'.heap/\(∀b∈fp,H' b=none)/\Ext H2 H'/\H' s2.heap.objs.size=some (.lst (bs.map V.ref))/\
   (s2.heap.objs.size::bs).Nodup/\(∀b∈bs,H2 b=none/\H' b=some (.lst []))/\bs.length=i/\n=ds.length-i/\i<=ds.length) ?_ ds.length
   ⟨0,List.replicate ts.length none,upd H2 s2.heap.objs.size (.lst []),[],I4,by simp,st4,λ b hb=>?_,Ext.upd fr,q0E,by simp,λ b hb=>absurd hb (by simp),rfl,by simp,Nat.zero_le _⟩
  ·rintro n s5 ⟨i,σt,H5,bs,I5,hσ,st5,fr5,x5,hDs,nd5,bs5,lb5,rfl,hi5⟩
   by_cases hlt:i<ds.length
   ·refine wpAny_mono (T.item (cxC X s2 H2 sc cl (s2.heap.objs.size+1) (inN ts X.N) fp) rfl rfl rfl hc i [] s5 _ H5 (λ _ _=>False) I5 (stat fr5) st5 (wk.go i H5 x5 (hlen▸hlt))) (λ r s6 ⟨u,hr,h6⟩=>?_) (λ _ _ z=>z);subst hr;refine wpAny_mono h6 (λ _ s7 ⟨x,H7,I7,r7,y7,st7,fr7⟩=>?_) (λ _ _ z=>z);obtain⟨rfl,hx⟩:=wk.yld i H5 x H7 x5 (hlen▸hlt) y7;obtain⟨v',hv',rv'⟩:=rep.get (i:=i) (d:=ds[i]) (by simp[hlt]);rw[hx] at hv';cases hv';have I7':=I7.pinned (stat fr7) (T.obj _ _ st7);refine wpAny_mono (hG s2 H2 cl (s2.heap.objs.size+1) fp (λ _ _=>False) _ s7 σt σ H7 (fz os.flatten H2) ds[i] [ds[i]] x u I7' hσ r7 (q0b.trans x5) rv' rfl) (λ _ s8 ⟨vs8,rp8,hl8,I8⟩=>?_) (λ _ _ z=>z);refine wpAny_tests_nil ?_;rw[if_pos rfl];refine wpAny_List_spliced (Calls.spliced_nil ⟨Nat.zero_le _,?_⟩);have fr8:H7 s8.heap.objs.size=none:=I8.hok.fresh (Nat.le_refl _);have I9:=I8.lnew (t':=s8.toks) (ys:=[]) (its:=[]) .nil (Nat.zero_le _);have neD:s2.heap.objs.size≠s8.heap.objs.size:=q08 hDs fr8;have hD9:upd H7 s8.heap.objs.size (.lst []) s2.heap.objs.size=some (.lst (bs.map V.ref)):=(by rw[q06 neD];exact hDs);refine wpAny_mono (q3C (X:=cxC X s2 H2 sc cl (s2.heap.objs.size+1) (inN ts X.N) fp) _ _ _ _ (.ref s2.heap.objs.size) [.ref s8.heap.objs.size] (.ref s2.heap.objs.size) [.ref s8.heap.objs.size] (λ z H'=>H'=upd (upd H7 s8.heap.objs.size (.lst [])) s2.heap.objs.size (.lst (bs.map V.ref++[.ref s8.heap.objs.size]))) I9 rfl (.cons rfl .nil)
     ⟨_,bs.map V.ref,.ref s8.heap.objs.size,rfl,rfl,hD9,?_,rfl⟩) (λ _ s11 h11=>?_) (λ _ _ z=>z)
    ·rw[List.length_map,lb5,sizeLine_eq];exact Nat.lt_of_lt_of_le hlt (Nat.le_trans hbig (by decide))
    obtain⟨_,H11,I11,_,rfl⟩:=h11;have k1:tn (i+1) s11.heap:=T.keep _ _ _ st7 λ b hb o e=>(I11.pin (b,o) (List.mem_append_right _ (List.mem_append_right _ (q1a hb e)))).1;have k2:∀b∈fp,upd (upd H7 s8.heap.objs.size (.lst [])) s2.heap.objs.size (.lst (bs.map V.ref++[.ref s8.heap.objs.size])) b=none:=λ b hb=>by obtain⟨o,e,d⟩:=T.obj _ _ st7 b hb;exact (I11.pin (b,o) (List.mem_append_right _ (List.mem_append_right _ (q1a hb e)))).2.1
    have nb:s8.heap.objs.size∉bs:=λ z=>by rw[(bs5 _ z).2] at fr8;cases fr8
    have nd':=List.nodup_cons.mp nd5;refine⟨ds.length-(i+1),by lia,i+1,vs8.map some,_,bs++[s8.heap.objs.size],I11.q1E,by simpa using hl8,k1,k2,λ a o e=>?_,by rw[q0E,List.map_append];rfl,?_,λ b hb=>?_,by simp[lb5],rfl,hlt⟩
    ·rw[q06 (q08 e fr),q06 (q08 (x5 _ _ e) fr8)];exact x5 _ _ e
    ·refine List.nodup_cons.mpr ⟨λ z=>?_,List.nodup_append.mpr ⟨nd'.2,by simp,λ a ha b hb e=>?_⟩⟩
     ·rcases List.mem_append.mp z with z|z
      ·exact nd'.1 z
      ·exact neD (List.mem_singleton.mp z)
     ·rw[List.mem_singleton.mp hb] at e;exact nb (e▸ha)
    ·rcases List.mem_append.mp hb with hb|hb
     ·obtain⟨g1,g2⟩:=bs5 b hb;refine⟨g1,?_⟩;have n1:b≠s2.heap.objs.size:=λ z=>nd'.1 (z▸hb);have n2:b≠s8.heap.objs.size:=λ z=>nb (z▸hb);rw[q06 n1,q06 n2];exact g2
     ·rw[List.mem_singleton.mp hb];refine⟨?_,by rw[q06 (Ne.symm neD),q0E]⟩;cases e:H2 s8.heap.objs.size with
      |none=>rfl
      |some o=>rw[x5 _ _ e] at fr8;cases fr8
   ·have ei:i=ds.length:=(by lia);refine wpAny_mono (T.done (cxC X s2 H2 sc cl (s2.heap.objs.size+1) (inN ts X.N) fp) rfl rfl rfl hc i [] s5 _ H5 (λ _ _=>False) I5 (stat fr5) st5 (by rw[ei];exact hlen▸wk.stop H5 x5)) (λ r s6 ⟨hr,I6⟩=>?_) (λ _ _ z=>z);subst hr;obtain⟨m,hm,_⟩:=I6.loc;have fC:FpOk X pins H5 (s2.heap.objs.size+1):=I2.fpOk (Nat.le_succ _) I6.free;refine hRR _ _ s6 H5 bs ?_ x5 hDs (lb5.trans ei) nd5 (λ b hb=>?_) (λ b hb=>(bs5 b hb).2) ⟨m,hm⟩ fC
    ·exact I2.qFS (ch:=fp) I6.os I6.base I6.hok I6.bare λ b hb=>⟨(f2 b hb).2.2.2.1,(f2 b hb).2.1,(f2 b hb).2.2.2.2.1,(f2 b hb).2.2.2.2.2⟩
    ·rcases List.mem_cons.mp hb with rfl|hb
     ·exact fr
     ·exact (bs5 b hb).1
  ·obtain⟨o,e⟩:=ho b hb;rw[q06 (Nat.ne_of_lt (Heap.lt_size e))];exact (f2 b hb).1
 exact codeAny_compStart_list loop (T.self _ 0 _ _ _ st4 loop)
theorem q9Z {H Hf:Hp}:∀{bs:List Addr},(∀b∈bs,H b=some (.lst []))->q2q p H Hf bs (List.replicate bs.length [])
 |[],_=>rfl
 |b::bs,h=>⟨[],List.replicate bs.length [],rfl,⟨[],h b (by simp),rfl⟩,q9Z λ c hc=>h c (List.mem_cons_of_mem _ hc)⟩
theorem qGW {i:Nat}{x t:Str}{a:PySem.Expr}{l:L}{sc:Scope}{q q2 q3 q4 pos pos' spos:Pos}(hc:X.calm=true) (S:ScOk X sc [t]) (hg:Gl X "range") (hm:X.mg "range" = none) (ha:SE X p G sub a l) (hst:starEach [a] X.env=[(false,eval a X.env)])
  (hNi:(inN [t] X.N).Nodup) (htl:sc.names.lookup t=some .local)
  (hN:X.N.Nodup) (hiN:X.N[i]? = some x) (hx:Loc X.env.scope x) (hf:X.fn x=true\/X.env.scope.names.lookup x=some .local)
  (hsw:swapsWith (.ListComp (.List [] q) [⟨.Name t q2,.Call (.Name "range" q3) [a] [] q4,[],0⟩] sc pos) (some (.Name x pos')) spos.line X.env=pure true) :
  SS X p G sub (.Assign [.Name x pos'] (.ListComp (.List [] q) [⟨.Name t q2,.Call (.Name "range" q3) [a] [] q4,[],0⟩] sc pos) spos) (.setE i l):=by
 intro H0 O0 E hp pins s σ H ρ os I B hs hE';have e0:ex G sub (.setE i l) ρ=(ev G sub l ρ).go ρ λ d=>match d with
   | .int n=>if 0<=n/\n<=1000 then .ok (ρ.set i (some (.own2 (List.replicate n.toNat [])))) .nx else .stuck
   |_=> .stuck:=rfl
 rw[e0] at hs hE' |-;obtain⟨cl,hcl,hcl1,hcl2⟩:=q3n (q3p I.ok S);have lt:i < ρ.length:=by rw[<-B.slen,I.len];exact (List.getElem?_eq_some_iff.mp hiN).1
 have hG:∀s2 H2 cl C fp,SGc (cxC X s2 H2 sc cl C (inN [t] X.N) fp) p (.Name t q2) 0 [t].length:=λ s2 H2 cl C fp=>q9O hNi rfl (by show (relabel sc X.env).names.lookup t=_;rw[q0M,htl];rfl)
 rw[exec_Assign_Name_used _ _ _ _ hsw];refine wpAny_bind (wpAny_standAt (wpAny_bind ?_));show wpAny _ X.A (do let _ <-comprehension (.ListComp (.List [] q) [⟨.Name t q2,.Call (.Name "range" q3) [a] [] q4,[],0⟩] sc pos) sc X.env _ (newList []) false (eval (.Call (.Name "range" q3) [a] [] q4) X.env) (some (assign (.Name x pos') X.env))) _ _ s;have si:=q4o (X:=X) (p:=p) (G:=G) (sub:=sub) (tg:= .Name t q2) (q:=q3) (pos:=q4) hg hm (qBd ha qF2 (by rw[hst];rfl)) hst;cases hev:ev G sub l ρ with
 |stuck=>simp only[hev] at hs;exact absurd rfl hs
 |err c =>
  have hri:evi G sub (.rng [l]) ρ = .err c:=by rw[q0l,q0J,hev];rfl
  refine wpAny_bind (wpAny_mono (wpAny_comprehension_free (use:=some (assign (.Name x pos') X.env)) (Q:=λ _ s'=>False) rfl (λ _=>rfl) hcl S.kind S.names
   (wpAny_mono (si pins s σ H ρ _ I B.rel (by rw[hri];simp)) (λ v s1 h1=>wpAny_mono h1 (λ itv s2 h2=>?_) (λ e s' z=>hE' e s' ?_)) (λ e s' z=>hE' e s' ?_))) (λ _ s' hq=>hq.elim) λ _ _ e=>e)
  ·obtain⟨ds,e1,_⟩:=h2;rw[hri] at e1;cases e1
  ·rw[hri] at z;obtain⟨c',e1,m⟩:=z;cases e1;exact⟨c,ρ,σ,os,H,by rw[hev];rfl,B,m⟩
  ·rw[hri] at z;obtain⟨c',e1,m⟩:=z;cases e1;exact⟨c,ρ,σ,os,H,by rw[hev];rfl,B,m⟩
 |ok d =>
  simp only[hev,q05] at hs hE' |-;cases d<;>first
   |exact absurd rfl hs
   |skip
  rename_i n;have hs:(if 0<=n/\n<=1000 then RS.ok (ρ.set i (some (.own2 (List.replicate n.toNat [])))) .nx else .stuck) ≠ .stuck:=hs
  by_cases hn:0<=n/\n<=1000
  ·have hri:evi G sub (.rng [l]) ρ = .ok ((List.range n.toNat).map λ (k:Nat)=> .int k):=by rw[q0l,q0J,hev,q0Z];show rngD [.int n]=_;unfold rngD;dsimp only;rw[if_pos (by lia)]
   refine wpAny_bind (wpAny_mono (wpAny_comprehension_free (use:=some (assign (.Name x pos') X.env)) (Q:=λ _ s'=>Gs X p H0 O0 pins (if 0<=n/\n<=1000 then RS.ok (ρ.set i (some (.own2 (List.replicate n.toNat [])))) .nx else .stuck) .next s') rfl (λ _=>rfl) hcl S.kind S.names
    (wpAny_mono (si pins s σ H ρ _ I B.rel (by rw[hri];simp)) (λ v s1 h1=>wpAny_mono h1 (λ itv s2 h2=>?_) (λ e s' ⟨c,z,_⟩=>by rw[hri] at z;cases z)) (λ e s' ⟨c,z,_⟩=>by rw[hri] at z;cases z))) (λ _ s' hq=>wpAny_pure (wpAny_pure hq)) λ _ _ e=>e)
   rw[hri] at h2;obtain⟨ds,e1,it,fp,tn,J,H2,rfl,I2,T,st2,f2,x2,vs,rep,wk⟩:=h2;cases e1;have hld:((List.range n.toNat).map λ (k:Nat)=>D.int k).length=n.toNat:=(by simp);refine qBx (RR:=λ acc C=>compPost (model X.prog X.w) X.A _ (some (assign (.Name x pos') X.env)) _ acc C) hc S hcl1 hcl2 hG I2 T st2 f2 rep (qBf wk) (by rw[hld];lia) λ D C s' H' bs I' x' hDs lbs nd nw nl hns fC=>?_;obtain⟨m,hm'⟩:=hns;obtain⟨f0,f1,f2',f3,f4,f5⟩:=fC;obtain⟨oC,esC,epC,hoC,hdC,hrC⟩:=id hm';have IP:Inv X (pins++[(C,oC)]) σ H' s':=I'.q5v λ q hq=>(List.mem_append.mp hq).elim (λ z=>I'.pin q (List.mem_append_right _ z)) λ z=>by cases List.mem_singleton.mp z;exact⟨hoC,f0,f1,f2',λ v z=>by rw[hdC] at z;cases z⟩
   refine wpAny_assign_Name (q13 IP hN hiN hx (v:= .ref D) rfl (λ s3 I3=>?_) hf);have hC3:=(I3.pin (C,oC) (List.mem_append_right _ (List.mem_append_right _ (List.mem_singleton.mpr rfl)))).1;rw[if_pos hn];have lb:bs.length=n.toNat:=lbs.trans hld;refine⟨m,⟨oC,esC,epC,hC3,hdC,hrC⟩,λ h' hs'=>⟨_,.nx,_,_,H',rfl,(B.mono x2).setO lt x' (as:=D::bs) nd nw (λ b hb=>?_) ⟨D,bs,rfl,rfl,hDs,?_⟩,?_,trivial⟩⟩
   ·rcases List.mem_cons.mp hb with rfl|hb
    ·exact⟨_,hDs⟩
    ·exact⟨_,nl b hb⟩
   ·rw[<-lb];exact q9Z nl
   ·exact I3.q1E.turned (t':=s3.toks) (λ b o hb e=>hs'.extBut b o hb e) f0 f1 f3 f4 f5
  ·rw[if_neg hn] at hs;exact absurd rfl hs
end
end Snd
namespace Snd
open PySem PySem.Spec PyProof.Rows L2 Ev
variable {i:Nat}{H0 H:Hp}{O0:List Addr}{ρ:Ev.Env}{σ:L2.St}{os:List (List Addr)}{a:Addr}
section
variable {X:Cx}{p:Pm}{G:Nat->List D->R D}{sub:Nat->Nat->Bool}
theorem q6N {H Hf:Hp}:∀{bs:List Addr}{xss:List (List D)}{n:Nat}{ys:List D},bs.Nodup->q2q p H Hf bs xss->xss[n]? = some ys->∃b vs,bs[n]? = some b/\H b=some (.lst vs)/\RepL p Hf ys vs/\∀d v,Rep p Hf d v->q2q p (upd H b (.lst (vs++[v]))) Hf bs (xss.set n (ys++[d]))
 |[],xss,n,ys,_,h,e=>by cases (show xss=[] from h);simp at e
 |b::bs,_,0,ys,nd,h,e=>by obtain⟨xs,r,rfl,⟨vs,h1,h2⟩,h3⟩:=h;simp at e;subst e;exact⟨b,vs,rfl,h1,h2,λ d v q=>⟨_,r,rfl,⟨_,q0E,h2.snoc q⟩,q4v (List.nodup_cons.mp nd).1 h3⟩⟩
 |b::bs,_,n+1,ys,nd,h,e=>by obtain⟨xs,r,rfl,⟨vs,h1,h2⟩,h3⟩:=h;obtain⟨b',vs',g1,g2,g3,g4⟩:=q6N (n:=n) (List.nodup_cons.mp nd).2 h3 (by simpa using e);refine⟨b',vs',by simpa using g1,g2,g3,λ d v q=>⟨xs,_,rfl,⟨vs,?_,h2⟩,g4 d v q⟩⟩;have ne:b≠b':=λ z=>(List.nodup_cons.mp nd).1 (z▸List.mem_of_getElem? g1);rw[q06 ne];exact h1
theorem qGX {x:Str}{k a:PySem.Expr}{lk l:L}{q q2 ap cp pos:Pos}(hi:X.N[i]? = some x) (hv:Vis X.env.scope x) (hd:(x==("__debug__":Str))=false) (hcd:(x==("__classdict__":Str))=false) (hk:SE X p G sub k lk) (hix:q8C k) (ha:SE X p G sub a l)
  (hst:starEach [a] X.env=[(false,eval a X.env)]) (hline:(ap.endLine==cp.line)=true):SS X p G sub (.Expr (.Call (.Attribute (.Subscript (.Name x q) k q2) "append" ap) [a] [] cp) pos) (.app2 i lk l):=by
 intro H0 O0 E hp pins s σ H ρ os I B hs hE;have e0:ex G sub (.app2 i lk l) ρ=match ρ[i]? with
   |some (some (.own2 xss))=>(ev G sub lk ρ).go ρ λ x=>match x with
     | .int n=>if 0<=n then (match xss[n.toNat]? with
       |some ys=>(ev G sub l ρ).go ρ λ d=>if ys.length<big then .ok (ρ.set i (some (.own2 (xss.set n.toNat (ys++[d]))))) .nx else .stuck
       |none=> .stuck) else .stuck
     |_=> .stuck
   |_=> .stuck:=rfl
 rw[e0] at hs hE |-;split at hs
 ·rename_i xss hρ;simp only[hρ] at hE |-;obtain⟨y,as,s1,s2,a0,bs,rfl,rfl,s5,s6⟩:=B.at hρ;have ndb:(a0::bs).Nodup:=by
   have h1:(a0::bs).Sublist os.flatten:=by obtain⟨l1,l2,e⟩:=List.append_of_mem (List.mem_of_getElem? s2);rw[e,List.flatten_append,List.flatten_cons];exact (List.sublist_append_left _ _).trans (List.sublist_append_right _ _)
   have h2:os.flatten.Nodup:=(by have:=B.rel.nd;rw[q0m] at this;exact (List.nodup_append.mp this).1);exact h2.sublist h1
  refine wpAny_Expr_any (wpAny_Call_method_late rfl (by rw[hst];rfl) hline rfl (Subscript_ (q3M I hi hv s1 hd hcd λ u r=>?_))) I.quiet rfl;cases r;refine wpAny_mono (hk pins s σ H ρ _ I B.rel (q2j hs)) (λ u1 t1 ⟨d1,y1,H1,e1,I1,r1,x1,q1⟩=>?_) (λ e s' z=>hE e s' (q3O B z));rw[e1,q05] at hs hE |-;cases d1<;>first
   |exact absurd rfl hs
   |skip
  rename_i n;have hs:(if 0<=n then (match xss[n.toNat]? with
       |some ys=>(ev G sub l ρ).go ρ λ d=>if ys.length<big then RS.ok (ρ.set i (some (.own2 (xss.set n.toNat (ys++[d]))))) .nx else .stuck
       |none=> .stuck) else .stuck) ≠ .stuck:=hs
  have hE:∀e s',Es X p H0 O0 pins (if 0<=n then (match xss[n.toNat]? with
       |some ys=>(ev G sub l ρ).go ρ λ d=>if ys.length<big then RS.ok (ρ.set i (some (.own2 (xss.set n.toNat (ys++[d]))))) .nx else .stuck
       |none=> .stuck) else .stuck) e s'->E e s':=hE
  by_cases hn:0<=n
  ·rw[if_pos hn] at hs hE;cases hys:xss[n.toNat]? with
   |none=>simp only[hys] at hs;exact absurd rfl hs
   |some ys =>
   simp only[hys] at hs hE;cases (show y1=_ from q1);have B1:=B.mono x1;obtain⟨b,vs,g1,g2,g3,g4⟩:=q6N (List.nodup_cons.mp ndb).2 (q4Q x1 (q1J x1) s6) hys;have hat:atI (bs.map V.ref) n=some (.ref b):=by have hlt:=(List.getElem?_eq_some_iff.mp g1).1;unfold atI ixN;rw[if_pos hn,if_pos (by rw[List.length_map];lia)];show (bs.map V.ref)[n.toNat]? = _;rw[List.getElem?_map,g1];rfl
   refine qB0 (X:=X.wish E) (.Name x q) k pins t1 σ H1 (.ref a0) (.int n) _ _ (λ z H'=>z = .ref b/\H'=H1) (I1.wish E) rfl r1 ⟨a0,bs.map V.ref,n,.ref b,rfl,rfl,SqL.of (x1 _ _ s5),hat,rfl,rfl⟩ (hix _ _) |> λ h=>wpAny_mono h (λ u2 t2 ⟨z,H2,I2,rz,ez,eH⟩=>?_) (λ _ _ z=>z)
   subst ez eH;cases rz;have I2:=I2.q2k;obtain⟨h1,h2⟩:=q93 (T := "list") (x:= .ref b) I2 rfl (.inl ⟨rfl,_,SqL.of g2⟩);refine⟨"list", "list.append",PySem.F.plainAttrs_list,PySem.F.slot_list_append,PySem.F.type_list_append,h1,h2,?_⟩;rw[hst];refine Calls.callWith_builtin rfl (Calls.evalArgs_plain ?_);show wpAny _ _ (spliced ((false,eval a X.env)::[])) _ _ t2;refine Calls.spliced_cons (wpAny_mono (ha pins t2 σ H2 ρ _ I2 B1.rel (q2j hs)) (λ v t3 ⟨d,x',H3,e3,I3,r3,x3,q3⟩=>Calls.spliced_nil ?_) (λ e s' z=>hE e s' (q9Y B x1 z)));rw[e3,q05] at hs;have z:ys.length<big:=by
    by_cases z:ys.length<big
    ·exact z
    ·rw[if_neg z] at hs;exact absurd rfl hs
   obtain⟨b',vs',k1,k2,k3,k4⟩:=q6N (List.nodup_cons.mp ndb).2 (q4Q (x1.trans x3) (q1J (x1.trans x3)) s6) hys;rw[g1] at k1;cases k1;have hl:=k3.length;refine wpAny_mono (q3C (X:=X.wish E) pins t3 σ H3 (.ref b) [x'] _ _ (λ z H'=>H'=upd H3 b (.lst (vs'++[x']))) (I3.wish E) rfl (.cons r3 .nil) ⟨b,vs',x',rfl,rfl,k2,Nat.lt_of_lt_of_le (by lia) q0p,rfl⟩) (λ w t4 ⟨zv,H4,I4,_,eH⟩=>?_) (λ _ _ z=>z);subst eH;have mb:b∈bs:=List.mem_of_getElem? g1;have nb:a0≠b:=λ z=>(List.nodup_cons.mp ndb).1 (z▸mb);refine⟨_,.nx,σ,os,_,?_,(B.mono (x1.trans x3)).write (c:=b) (sl:= .own2 (xss.set n.toNat (ys++[d]))) (o:= .lst (vs'++[x'])) s1 s2 (List.mem_cons_of_mem _ mb) ⟨a0,bs,rfl,rfl,?_,k4 d x' q3⟩,I4.q2k,trivial⟩
   ·show (if 0<=n then (match xss[n.toNat]? with
       |some ys=>(ev G sub l ρ).go ρ λ d=>if ys.length<big then RS.ok (ρ.set i (some (.own2 (xss.set n.toNat (ys++[d]))))) .nx else .stuck
       |none=> .stuck) else .stuck)=_
    rw[if_pos hn,hys];dsimp only;rw[e3,q05,if_pos z]
   ·rw[q06 nb];exact x3 _ _ (x1 _ _ s5)
  ·rw[if_neg hn] at hs;exact absurd rfl hs
 ·exact absurd rfl hs
theorem Bd.out (b:Bd p H0 O0 ρ σ os H) (m:a∈os.flatten):a∉O0:=λ h=>by have:=b.rel.nd;rw[q0m] at this;exact (List.nodup_append.mp this).2.2 a m a h rfl
theorem qGY {pins:List (Addr×Obj)}{s:Shared}{kvs:List (Key×V)}(I:Inv X pins σ H s) (e:H a=some (.dK kvs)):∃o,Inv X pins σ (upd H a (.frz o (.dK kvs))) s:=by
 obtain⟨o,ho⟩:=q26 (I.hok a _ e);have nea:∀{b:Addr}{u:HO},H b=some u->(∀k,u ≠ .dK k)->b≠a:=λ {b u} q n z=>by rw[z,e] at q;exact n _ (Option.some.inj q).symm
 refine⟨o,I.un (t':=s.toks) (h':=s.heap) ⟨λ b u q _ _ _=>q,λ b u q _ _ _=>⟨u.slots,q⟩,λ b u q n _=>by rw[q06 λ z=>by rw[z,e] at n;cases n];exact n,λ b u q _=>⟨u,q⟩,λ b xs q=>by rw[q06 (nea q λ _ z=>nomatch z)];exact q,λ b u xs q=>by rw[q06 (nea q λ _ z=>nomatch z)];exact q,λ b ps q=>⟨#[],by rw[q06 (nea q λ _ z=>nomatch z),q];simp⟩⟩ λ b u q=>?_⟩;have st:∀{c:Addr}{v:HO},q1T X.prog X.w H s.heap c v->q1T X.prog X.w (upd H a (.frz o (.dK kvs))) s.heap c v:=λ h=>h.stay (λ _ _ _ q=>q) (λ c q=>by rw[q06 (nea q λ _ z=>nomatch z)];exact q) λ c xs q=>by rw[q06 (nea q λ _ z=>nomatch z)];exact q
 by_cases hb:b=a
 ·subst hb;rw[q0E] at q;cases q;exact⟨ho,st (I.hok b _ e)⟩
 ·rw[q06 hb] at q;exact st (I.hok b u q)
theorem qDv {O O':List Addr}{o:HO}(m:a∈O) (h:∀b∈O',b∈O):Ext (fz O H) (fz O' (upd H a o)):=λ c u e=>by
 unfold fz at e |-;split at e
 ·cases e
 ·rename_i n;have ne:c≠a:=λ z=>n (z▸m);rw[if_neg λ z=>n (h c z),q06 ne];exact e
theorem qBy (lt:i<os.length):∀a∈(os.set i []++[O0]).flatten,a∈(os++[O0]).flatten:=λ a ha=>by rw[<-q0q lt] at ha;exact (q0K ha).elim id λ z=>absurd z (by simp)
theorem q7Q {H H' Hf Hf':Hp}{x:Option Sl}{c:Addr}{o:HO}(hH:H'=upd H c o) (yf:Ext Hf Hf'):∀{ρ:Ev.Env}{σ:L2.St}{os:List (List Addr)}(i:Nat) {y:Option V}{as:List Addr},q1K p H Hf ρ σ os->σ[i]? = some y->os[i]? = some as->c∈as->os.flatten.Nodup->q3J p H' Hf' x y []->
  q1K p H' Hf' (ρ.set i x) σ (os.set i [])
 |[],_,_,_,_,_,_,_,_,_,_,_=>trivial
 |_::ρ,_,_,0,y,as,h,e1,e2,hc,nd,q=>by obtain⟨y1,σ',as',os',rfl,rfl,h1,h2⟩:=h;simp at e1 e2;subst e1 e2;simp only[List.flatten_cons] at nd;subst hH;exact⟨_,σ',_,os',rfl,rfl,q,q1h (Ext.refl _) yf (q3r (λ z=>(List.nodup_append.mp nd).2.2 c hc c z rfl) h2)⟩
 |_::ρ,_,_,i+1,y,as,h,e1,e2,hc,nd,q=>by obtain⟨y1,σ',as',os',rfl,rfl,h1,h2⟩:=h;simp only[List.flatten_cons] at nd;have m:c∈os'.flatten:=List.mem_flatten.mpr ⟨as,List.mem_of_getElem? (by simpa using e2),hc⟩;refine⟨y1,σ',as',os'.set i [],rfl,rfl,?_,q7Q hH yf i h2 (by simpa using e1) (by simpa using e2) hc (List.nodup_append.mp nd).2.1 q⟩;subst hH;exact q6B (Ext.refl _) yf (q4w (λ z=>(List.nodup_append.mp nd).2.2 c z c m rfl) h1)
theorem Bd.alone (b:Bd p H0 O0 ρ σ os H) (e2:os[i]? = some [a]):a∉(os.set i []++[O0]).flatten:=by
 have lt:i<os.length:=(List.getElem?_eq_some_iff.mp e2).1;have mo:a∈os.flatten:=List.mem_flatten.mpr ⟨[a],List.mem_of_getElem? e2,by simp⟩;have nd0:os.flatten.Nodup:=by have:=b.rel.nd;rw[q0m] at this;exact (List.nodup_append.mp this).1
 intro z;rw[q0m] at z;rcases List.mem_append.mp z with z|z
 ·obtain⟨as,h1,h2⟩:=List.mem_flatten.mp z;obtain⟨j,hj,ej⟩:=List.getElem_of_mem h1;have hj':j<os.length:=by simpa using hj
  by_cases c:j=i
  ·subst c;rw[List.getElem_set_self] at ej;rw[<-ej] at h2;simp at h2
  ·rw[List.getElem_set_ne (Ne.symm c)] at ej;have k1:os[i]=[a]:=(List.getElem?_eq_some_iff.mp e2).2;have:∀(l:List (List Addr)) (i j:Nat) (hi:i<l.length) (hj:j<l.length),i≠j->a∈l[i]->a∈l[j]->¬l.flatten.Nodup:=by
    intro l
    induction l with
    |nil=>intro i j hi;simp at hi
    |cons x l ih =>
     intro i j hi hj ne h1 h2 nd;simp only[List.flatten_cons] at nd;have nd:=List.nodup_append.mp nd;cases i with
     |zero =>
      cases j with
      |zero=>exact ne rfl
      |succ j=>exact nd.2.2 a h1 a (List.mem_flatten.mpr ⟨_,List.getElem_mem (by simpa using hj),by simpa using h2⟩) rfl
     |succ i =>
      cases j with
      |zero=>exact nd.2.2 a h2 a (List.mem_flatten.mpr ⟨_,List.getElem_mem (by simpa using hi),by simpa using h1⟩) rfl
      |succ j=>exact ih i j (by simpa using hi) (by simpa using hj) (by lia) (by simpa using h1) (by simpa using h2) nd.2.1
   exact this os i j lt hj' (Ne.symm c) (by rw[k1];simp) (by rw[ej];exact h2) nd0
 ·exact b.out mo z
theorem Bd.frzD {kvs:List (Key×V)}{ks ds:List D}{o:Obj}(b:Bd p H0 O0 ρ σ os H) (e1:σ[i]? = some (some (.ref a))) (e2:os[i]? = some [a]) (hk:ks=kvs.map (λ q=>keyD q.1)) (hr:RepL p (fz (os++[O0]).flatten H) ds (kvs.map (·.2))) :
  Rep p (fz (os.set i []++[O0]).flatten (upd H a (.frz o (.dK kvs)))) (.dct ks ds) (.ref a)/\Bd p H0 O0 (ρ.set i (some (.val (.dct ks ds)))) σ (os.set i []) (upd H a (.frz o (.dK kvs))):=by
 have lt:i<os.length:=(List.getElem?_eq_some_iff.mp e2).1;have mo:a∈os.flatten:=List.mem_flatten.mpr ⟨[a],List.mem_of_getElem? e2,by simp⟩;have m:a∈(os++[O0]).flatten:=by rw[q0m];exact List.mem_append_left _ mo
 have e3:(os++[O0])[i]? = some [a]:=by rw[List.getElem?_append_left lt];exact e2
 have nin:=b.alone e2;have yf:Ext (fz (os++[O0]).flatten H) (fz (os.set i []++[O0]).flatten (upd H a (.frz o (.dK kvs)))):=qDv m (qBy lt);have rep:Rep p (fz (os.set i []++[O0]).flatten (upd H a (.frz o (.dK kvs)))) (.dct ks ds) (.ref a):=⟨a,kvs,o,rfl,q1z q0E nin,hk,hr.mono yf⟩
 refine⟨rep,⟨⟨?_,λ c hc=>?_,?_⟩,by simp[b.len],by simp[b.slen],λ c u e=>?_,λ c hc=>?_⟩⟩
 ·rw[<-q0q lt];exact q0z List.nodup_nil b.rel.nd λ a ha=>absurd ha (by simp)
 ·obtain⟨u,e⟩:=b.rel.there c (qBy lt c hc);have ne:c≠a:=λ z=>nin (z▸hc);exact⟨u,by rw[q06 ne];exact e⟩
 ·have:=q7Q (x:=some (.val (.dct ks ds))) (c:=a) (o:= .frz o (.dK kvs)) rfl yf i b.rel.slots e1 e3 (List.mem_singleton.mpr rfl) b.rel.nd ⟨rfl,.ref a,rfl,rep⟩
  rwa [q0q lt] at this
 ·rw[q06 λ z=>by rw[z,b.new a mo] at e;cases e];exact b.ext c u e
 ·exact (q0K hc).elim (b.new c) λ z=>absurd z (by simp)
theorem q9a {H:Hp}{O O':List Addr}:∀{bs:List Addr}{xss:List (List D)},(∀b∈bs,b∉O')->(∀b∈O',b∈O)->q2q p H (fz O H) bs xss->RepL p (fz O' H) (xss.map .lst) (bs.map V.ref)
 |[],xss,_,_,h=>by cases (show xss=[] from h);rfl
 |b::bs,_,n,hs,h=>by obtain⟨xs,r,rfl,⟨vs,h1,h2⟩,h3⟩:=h;exact⟨.ref b,bs.map V.ref,rfl,⟨b,vs,rfl,SqL.of (q1z h1 (n b (by simp))),h2.mono (q4n hs)⟩,q9a (λ c hc=>n c (List.mem_cons_of_mem _ hc)) hs h3⟩
theorem qGZ {x:Str}{q pos:Pos}(hi:X.N[i]? = some x) (hv:Vis X.env.scope x) (hd:(x==("__debug__":Str))=false) (hcd:(x==("__classdict__":Str))=false):SS X p G sub (.Return (some (.Name x q)) pos) (.retO i):=by
 intro H0 O0 E hp pins s σ H ρ os I B hs hE;have e0:ex G sub (.retO i) ρ=match ρ[i]? with
   |some (some (.own d))=> .ok (ρ.set i none) (.ret d)
   |some (some (.own2 xss))=> .ok (ρ.set i none) (.ret (.lst (xss.map .lst)))
   |_=> .stuck:=rfl
 rw[e0] at hs hE |-;have lt:i < ρ.length:=by rw[<-B.slen,I.len];exact (List.getElem?_eq_some_iff.mp hi).1
 have wk:Inv X pins (σ.set i none) H s:=I.weak (by simp) λ j v e=>by
  by_cases c:i=j
  ·subst c;rw[List.getElem?_set_self (by rw[B.slen];exact lt)] at e;cases e
  ·rw[List.getElem?_set_ne c] at e;exact e
 split at hs
 ·rename_i d hρ;obtain⟨y,as,s1,s2,a,rfl,rfl,s5⟩:=B.at hρ;have mo:a∈os.flatten:=List.mem_flatten.mpr ⟨[a],List.mem_of_getElem? s2,by simp⟩;refine wpAny_Return_some (q3M I hi hv s1 hd hcd λ u r=>?_);cases r;cases d<;>first
   |exact s5.elim
   |skip
  ·obtain⟨vs,h1,h2⟩:=s5;exact⟨_,_,_,_,H,rfl,B.setN (y:=none) lt,wk,.ref a,rfl,a,vs,rfl,SqL.of (q1z h1 (B.out mo)),h2.mono qGA⟩
  ·obtain⟨kvs,h1,h2,h3⟩:=s5;obtain⟨o,I2⟩:=qGY wk h1;obtain⟨rep,B2⟩:=B.frzD (o:=o) s1 s2 h2 h3;have B3:=B2.setN (i:=i) (y:=none) (by simpa using lt);rw[List.set_set] at B3;exact⟨_,_,_,_,_,rfl,B3,I2,.ref a,rfl,rep.mono qGA⟩
 ·rename_i xss hρ;obtain⟨y,as,s1,s2,a,bs,rfl,rfl,s5,s6⟩:=B.at hρ;have mo:∀b∈a::bs,b∈os.flatten:=λ b hb=>List.mem_flatten.mpr ⟨_,List.mem_of_getElem? s2,hb⟩;refine wpAny_Return_some (q3M I hi hv s1 hd hcd λ u r=>?_);cases r;exact⟨_,_,_,_,H,rfl,B.setN (y:=none) lt,wk,.ref a,rfl,a,bs.map V.ref,rfl,SqL.of (q1z s5 (B.out (mo a (by simp)))),q9a (λ b hb=>B.out (mo b (List.mem_cons_of_mem _ hb))) (λ b hb=>by rw[q0m];exact List.mem_append_right _ hb) s6⟩
 ·exact absurd rfl hs
end
end Snd
namespace Snd
open PySem PySem.Spec PyProof.Rows L2 Ev
variable {o:PySem.Expr}{l:L}{ap cp q:Pos}{c:Const}{dc:D}{j:Nat}
section
variable {X:Cx}{p:Pm}{G:Nat->List D->R D}{sub:Nat->Nat->Bool}
theorem qDw {i:Int}(h:0<=i):((Builtin.Int.intBits i:Nat):Int)=if i=0 then 0 else ((i.toNat.log2+1:Nat):Int):=by
 unfold Builtin.Int.intBits
 by_cases c:i=0
 ·subst c;rfl
 ·have e:i.natAbs=i.toNat:=by lia
  rw[if_neg c,if_neg (by simpa using c),e]
theorem qGa (hbase:attributeBase o "bit_length" X.env (eval o X.env)=eval o X.env) (hline:(ap.endLine==cp.line)=true) (ho:SB X p G sub o l):SE X p G sub (.Call (.Attribute o "bit_length" ap) [] [] cp) (.bi .bits [l]):=by
 intro pins s σ H ρ os I R hs;refine wpAny_Call_method0_late hbase hline (wpAny_mono (ho pins s σ H ρ os I R (q5X hs)) (λ u s1 h=>?_) (λ _ _=>q5W));obtain⟨d,v,H1,e1,I1,r1,x1,q1⟩:=h;have e0:ev G sub (.bi .bits [l]) ρ=biD sub .bits [d]:=by rw[q16,q24 (f:=λ d=>biD sub .bits [d]) l ρ _ (λ _=>rfl),e1];rfl
 rw[e0] at hs |-;cases d<;>first
  |exact absurd rfl hs
  |skip
 rename_i i;have hs:(if 0<=i then Ev.R.ok (D.int (if i=0 then 0 else ((i.toNat.log2+1:Nat):Int))) else .stuck) ≠ .stuck:=hs
 by_cases hi:0<=i
 ·have e2:biD sub .bits [.int i] = .ok (.int (if i=0 then 0 else ((i.toNat.log2+1:Nat):Int))):=by show (if 0<=i then _ else _)=_;rw[if_pos hi]
  cases (show v=_ from q1);obtain⟨t,rfl⟩:=r1;refine⟨"int", "int.bit_length",PySem.F.plainAttrs_int,PySem.F.slot_int_bit_length,PySem.F.type_int_bit_length,typeIs_int _ _ _,(λ _ z=>by cases z),?_⟩;refine Calls.callWith_builtin rfl (PySem.evalArgs_none ?_);refine PyProof.Rows.call_int_bit_length ?_;exact⟨_,.int _,H1,e2,I1.tok _,⟨_,by rw[qDw hi]⟩,x1,rfl⟩
 ·rw[if_neg hi] at hs;exact absurd rfl hs
theorem q5c {h:Heap}{ds:List D}{x:D}(pd:plL ds=true) (px:pl x=true):∀{es:List D}{us:List Value},(∀e∈es,e∈ds)->DvL h es us->us.countP (eqTo h ds x)=(es.filter λ y=>eqb y x).length
 |[],us,_,y=>by cases (show us=[] from y);rfl
 |e::es,us,hs,y=>by obtain⟨u,r,rfl,y1,y2⟩:=y;rw[List.countP_cons,q5c pd px (λ z hz=>hs z (List.mem_cons_of_mem _ hz)) y2,q69 pd px (hs e List.mem_cons_self) y1,List.filter_cons];split<;>simp
theorem q9b {h:Heap}{ds:List D}{x:D}(pd:plL ds=true) (px:pl x=true):∀{es:List D}{us:List Value}{n:Nat}{r:D},(∀e∈es,e∈ds)->DvL h es us->idxOf x es n = .ok r->
  ∃(j:Nat) (hj:j<us.length),r = .int ((n+j:Nat):Int)/\eqTo h ds x us[j]=true/\∀m (hm:m<us.length),m<j->eqTo h ds x us[m]=false
 |[],us,n,r,_,y,e=>by cases e
 |d::es,us,n,r,hs,y,e=>by
  obtain⟨u,r',rfl,y1,y2⟩:=y;have eu:=q69 pd px (hs d List.mem_cons_self) y1;unfold idxOf at e;split at e
  ·rename_i c;cases e;exact⟨0,by simp,by simp,by simpa[eu] using c,λ m hm z=>absurd z (Nat.not_lt_zero _)⟩
  ·rename_i c;obtain⟨j,hj,e1,e2,e3⟩:=q9b pd px (λ z hz=>hs z (List.mem_cons_of_mem _ hz)) y2 e;refine⟨j+1,by simpa using hj,by rw[e1];congr 1;lia,by simpa using e2,λ m hm z=>?_⟩;cases m with
   |zero=>simpa[eu] using c
   |succ m=>simpa using e3 m (by simpa using hm) (by lia)
theorem qJJ {id:String}{b:Bi}{name:Str}(hK:p.K=X.K) (hcon:q8E c=some dc) (slot:Slot "list" name id) (hty:typeOf (.builtin id)=pure (.type "method_descriptor"))
  (hbase:attributeBase o name X.env (eval o X.env)=eval o X.env) (hline:(ap.endLine==cp.line)=true) (ho:SB X p G sub o l)
  (hl:∀d r,biD sub b [d,dc] = .ok r->∃xs,d = .lst xs)
  (hm:∀(E:Value->Shared->Prop) (pins:List (Addr×Obj)) (s:Shared) (σ:L2.St) (H:Hp) (os:List (List Addr)) (xs:List D) (v w:V) (u u2:Value) (r:D),Inv X pins σ H s->RelV v u->RelV w u2->RepB p H (fz os.flatten H) (.lst xs) v->Rep p (fz os.flatten H) dc w->biD sub b [.lst xs,dc] = .ok r->
   wpAny (model X.prog X.w) X.A (call (.builtin id) [u,u2]) (EP (X.wish E) pins σ (Fin p os.flatten H r)) E s) :
  SE X p G sub (.Call (.Attribute o name ap) [.Constant c j q] [] cp) (.bi b [l,.con dc]):=by
 intro pins s σ H ρ os I R hs;have e0:ev G sub (.bi b [l,.con dc]) ρ=(ev G sub l ρ).bind λ x=>biD sub b [x,dc]:=by rw[q16,q0J];cases ev G sub l ρ<;>rfl
 rw[e0] at hs |-;refine wpAny_Call_method_late hbase rfl hline rfl (wpAny_mono (ho pins s σ H ρ os I R (q0D hs)) (λ u s1 h=>?_) (λ _ _ z=>z.bind));obtain⟨d,v,H1,e1,I1,r1,x1,q1⟩:=h;rw[e1,q00] at hs |-;rcases q6H sub b [d,dc] with z|⟨r,z⟩
 ·exact absurd z hs
 obtain⟨xs,rfl⟩:=hl d r z;have q1':=q1;obtain⟨a,vs,rfl,s5,s6⟩:=q1';cases r1;obtain⟨h1,h2⟩:=q93 (T := "list") (x:= .ref a) I1 rfl (.inl ⟨rfl,_,hK▸s5⟩);refine⟨"list",id,PySem.F.plainAttrs_list,slot,hty,h1,h2,?_⟩;refine Calls.callWith_builtin rfl (Calls.evalArgs_plain ?_);show wpAny _ _ (spliced ((false,eval (.Constant c j q) X.env)::[])) _ _ s1;refine Calls.spliced_cons (wpAny_mono (qF0 (X:=X) (p:=p) (G:=G) (sub:=sub) hcon pins s1 σ H1 ρ os I1 (R.ext x1) (by rw[q0F];simp)) (λ u2 s2 ⟨d2,w,H2,e2,I2,r2,x2,q2⟩=>Calls.spliced_nil ?_) (λ e s' ⟨c,z,_⟩=>by rw[q0F] at z;cases z));rw[q0F] at e2;cases e2;rw[z];exact wpAny_mono (hm (Er X p pins σ H (.ok r)) pins s2 σ H2 os xs (.ref a) w (.ref a) u2 r I2 rfl r2 (q1.mono x2 (q1J x2)) q2 z) (λ w' s3 h3=>q8T (x1.trans x2) rfl h3) λ _ _ z=>z
theorem qDx (hK:p.K=X.K) (hu:X.A.units+64<cLine) (hcon:q8E c=some dc) (hbase:attributeBase o "count" X.env (eval o X.env)=eval o X.env) (hline:(ap.endLine==cp.line)=true) (ho:SB X p G sub o l) :
  SE X p G sub (.Call (.Attribute o "count" ap) [.Constant c j q] [] cp) (.bi .count [l,.con dc]):=by
 refine qJJ hK hcon PySem.F.slot_list_count PySem.F.type_list_count hbase hline ho (λ d r h=>?_) λ E pins s σ H os xs v w u u2 r I rv rw' q1 q2 h=>?_
 ·cases d<;>first
   |(cases h;done)
   |exact⟨_,rfl⟩
 ·have h:(if pl dc&&plL xs then Ev.R.ok (D.int ((xs.filter λ y=>eqb y dc).length)) else .stuck) = .ok r:=h;split at h
  ·rename_i c;simp only[Bool.and_eq_true] at c;cases h;have z1:=q3K hK I q0b q1 rv;have z2:=(q2L hK I).1 dc w u2 (q2.mono q0b) rw';obtain⟨a,us,rfl,⟨⟨cl,dd,da,sl⟩,e1,e2,n,e3⟩,y⟩:=z1;simp only at e2 e3;subst e2 e3;have hu':X.A.in1.units+8<cLine:=(by rw[Around.in1_units];lia);refine call_meets PySem.F.slot_list_count ⟨_,e1,rfl⟩ PySem.F.entry_list_count (PySem.F.args_list_count_2 _ _) (SeqAt.list_countAt a us.toArray n dd sl u2 (eqTo s.heap xs dc)) ⟨e1,q20 c.2 c.1 y z2 hu',?_⟩;refine⟨.int _,H,(I.wish E).tok _,⟨_,rfl⟩,?_⟩;rw[show us.toArray.toList=us from rfl,q5c c.2 c.1 (λ _ h=>h) y];exact q0H rfl
  ·cases h
theorem qDy (hK:p.K=X.K) (hu:X.A.units+64<cLine) (hcon:q8E c=some dc) (hbase:attributeBase o "index" X.env (eval o X.env)=eval o X.env) (hline:(ap.endLine==cp.line)=true) (ho:SB X p G sub o l) :
  SE X p G sub (.Call (.Attribute o "index" ap) [.Constant c j q] [] cp) (.bi .index [l,.con dc]):=by
 refine qJJ hK hcon PySem.F.slot_list_index PySem.F.type_list_index hbase hline ho (λ d r h=>?_) λ E pins s σ H os xs v w u u2 r I rv rw' q1 q2 h=>?_
 ·cases d<;>first
   |(cases h;done)
   |exact⟨_,rfl⟩
 ·have h:(if pl dc&&plL xs then idxOf dc xs 0 else .stuck) = .ok r:=h;split at h
  ·rename_i c;simp only[Bool.and_eq_true] at c;have z1:=q3K hK I q0b q1 rv;have z2:=(q2L hK I).1 dc w u2 (q2.mono q0b) rw';have zl:xs.length<=sizeLine:=by obtain⟨a,vs,rfl,s5,s6⟩:=q1;cases rv;obtain⟨its,r1,_,hz⟩:=I.list (hK▸s5);have:=s6.length;have:=r1.length;lia
   obtain⟨a,us,rfl,⟨⟨cl,dd,da,sl⟩,e1,e2,n,e3⟩,y⟩:=z1;simp only at e2 e3;subst e2 e3;have hu':X.A.in1.units+8<cLine:=(by rw[Around.in1_units];lia);obtain⟨k,hk,er,hit,hno⟩:=q9b c.2 c.1 (λ _ h=>h) y h;subst er;have hl:xs.length=us.length:=y.length;have hsz:sizeLine=2^24:=sizeLine_eq;refine call_meets PySem.F.slot_list_index ⟨_,e1,rfl⟩ PySem.F.entry_list_index (PySem.F.args_list_index_2 _ _) (SeqAt.list_indexAt a us.toArray n dd sl u2 (eqTo s.heap xs dc) k (by simpa using hk) (by lia) (by simpa using hit) (λ m hm z=>by simpa using hno m (by simpa using hm) z)) ⟨e1,q20 c.2 c.1 y z2 hu',?_⟩;refine⟨.int _,H,(I.wish E).tok _,⟨_,rfl⟩,?_⟩;rw[Nat.zero_add];exact q0H rfl
  ·cases h
end
end Snd
namespace Snd
open PySem PySem.Spec PyProof.Rows L2 Ev HT
section
variable {prog:Program}{w:World}{A:Around}{E:Value->Shared->Prop}{s:Shared}
theorem q8Y {t sl:Addr}{items:Array Value}{vl vu:Value}{lo hi:Option Int}{Q:Value->Shared->Prop}(ht:IsTup s.heap t items) (hs:s.heap.IsSliceOf sl vl vu .none) (pl:IsPart vl lo) (pu:IsPart vu hi)
  (hw:sIx items.size 0 lo=0/\sIx items.size items.size hi=items.size) (h:Q (.ref t) s):wpAny (model prog w) A (getItem (.ref t) (.ref sl)) Q E s:=by
 obtain⟨os,hos,hcs,hds⟩:=hs;have hTs:s.TypeIs (.ref sl) "slice":=⟨os,hos,hcs⟩
 unfold getItem
 try with_reducible refine wpAny_holding ?_
 first|refine wpAny_bind (wpAny_pure ?_)|skip
 refine wpAny_bind (wpAny_sequenceKey ht.typeIs (by decide) ?_);refine wpAny_bind (wpAny_callSpecial?_slot (name:=Str.ofString "__getitem__") ht.typeIs PyProof.Rows.slot_tuple_getitem (wpAny_call_entry PyProof.Rows.slot_tuple_getitem ht.typeIs entry_tuple_getitem ?_ (args_tuple_getitem _ _)));show wpAny _ _ (Builtin.Tuple.tupleItemsOf (.ref t) >>= _) _ _ s;refine wpAny_bind (tupleItemsOf_ ht (wpAny_bind (wpAny_typeOf hTs ?_)));rw[if_pos (by decide)];refine wpAny_bind (q2E ⟨os,hos,hcs,hds⟩ pl pu ?_);have hyes:(((sIx items.size 0 lo:Nat):Int)==0&&(1:Int)==1&&(sIx items.size items.size hi-sIx items.size 0 lo)==items.size)=true:=by rw[hw.1,hw.2];simp
 show wpAny _ _ (if (((sIx items.size 0 lo:Nat):Int)==0&&(1:Int)==1&&(sIx items.size items.size hi-sIx items.size 0 lo)==items.size)=true then _ else _) _ _ s;rw[if_pos hyes];unfold Builtin.Tuple.tupleIsExact;refine wpAny_bind (wpAny_bind (wpAny_typeOf ht.typeIs (wpAny_pure ?_)));rw[if_pos (by decide)];exact wpAny_bind (wpAny_rule (wpAny_pure ⟨_,rfl,wpAny_pure h⟩))
end
section
variable {X:Cx}{p:Pm}{G:Nat->List D->R D}{sub:Nat->Nat->Bool}
def SO (X:Cx) (p:Pm) (G:Nat->List D->R D) (sub:Nat->Nat->Bool) (e:Option PySem.Expr) (l:List L):Prop:=(e=none/\l=[])\/∃e' l',e=some e'/\l=[l']/\SE X p G sub e' l'
theorem qBz {e:Option PySem.Expr}{l:List L}(h:SO X p G sub e l) {pins:List (Addr×Obj)}{s:Shared}{σ:L2.St}{H:Hp}{ρ:Ev.Env}{os:List (List Addr)}(I:Inv X pins σ H s) (R:Rel p ρ σ os H) (hs:evs G sub l ρ ≠ .stuck) :
  wpAny (model X.prog X.w) X.A (evalPart e X.env) (λ u s'=>∃ds H',evs G sub l ρ = .ok ds/\Inv X pins σ H' s'/\Ext H H'/\∀o,optI ds = .ok o->IsPart u o) (Er X p pins σ H (evs G sub l ρ)) s:=by
 rcases h with ⟨rfl,rfl⟩|⟨e',l',rfl,rfl,h⟩
 ·rw[evalPart_none];exact wpAny_pure ⟨[],H,rfl,I,Ext.refl _,λ o e=>by cases e;exact .none⟩
 ·rw[evalPart_some];have e0:evs G sub [l'] ρ=(ev G sub l' ρ).bind λ x=> .ok [x]:=by rw[q0J];cases ev G sub l' ρ<;>rfl
  rw[e0] at hs |-;refine wpAny_mono (h pins s σ H ρ os I R (q0D hs)) (λ u s1 ⟨d,v,H1,e1,I1,r1,x1,q1⟩=>?_) (λ _ _ z=>z.bind);refine⟨[d],H1,by rw[e1];rfl,I1,x1,λ o e=>?_⟩;cases d<;>first
   |(cases e;done)
   |skip
  rename_i i0;obtain rfl:some i0=o:=by have e:Ev.R.ok (some i0) = .ok o:=e;cases e;rfl
  cases (show v=_ from q1);obtain⟨t,rfl⟩:=r1;exact .int _ t
theorem q9c {Hf:Hp}{ds:List D}{vs:List V}(h:RepL p Hf ds vs) (lo hi:Option Int):RepL p Hf (cutL ds lo hi) (cutV vs lo hi):=by have e:=h.length;unfold cutL cutV;rw[e];exact (h.drop _).take _
theorem qC0 {α:Type}(xs:List α) (lo hi:Option Int) (h:HT.sIx xs.length 0 lo=0/\HT.sIx xs.length xs.length hi=xs.length):cutL xs lo hi=xs:=by unfold cutL;have h1:bnd xs.length 0 lo=0:=h.1;have h2:bnd xs.length xs.length hi=xs.length:=h.2;rw[h1,h2];simp
theorem qDz {a:PySem.Expr}{lo hi:Option PySem.Expr}{la:L}{llo lhi:List L}{p2 pos:Pos}(hK:p.K=X.K) (ha:SB X p G sub a la) (hlo:SO X p G sub lo llo) (hhi:SO X p G sub hi lhi):SE X p G sub (.Subscript a (.Slice lo hi none p2) pos) (.sl 0 la llo lhi):=by
 intro pins s σ H ρ os I R hs;rw[qBE] at hs |-;refine Subscript_ (wpAny_mono (ha pins s σ H ρ os I R (q0D hs)) (λ v s1 ⟨d,x,H1,e1,I1,r1,x1,q1⟩=>?_) (λ _ _ z=>z.bind));rw[e1,q00] at hs |-;have R1:=R.ext x1;refine wpAny_Slice (wpAny_mono (qBz hlo I1 R1 (q0D hs)) (λ vl s2 ⟨l1,H2,e2,I2,x2,p2'⟩=>?_) (λ _ _ z=>(z.ext x1).bind));rw[e2,q00] at hs |-;have R2:=R1.ext x2;refine wpAny_mono (qBz hhi I2 R2 (q0D hs)) (λ vu s3 ⟨l2,H3,e3,I3,x3,p3⟩=>?_) (λ _ _ z=>(z.ext (x1.trans x2)).bind);rw[e3,q00] at hs |-;rw[evalPart_none];refine wpAny_pure ?_;have opt:∀l:List D,optI l = .stuck\/∃o,optI l = .ok o:=λ l=>by unfold optI;split<;>first|exact .inr ⟨_,rfl⟩|exact .inl rfl
 rcases opt l1 with z|⟨o1,z1⟩
 ·rw[z] at hs;exact absurd rfl hs
 rcases opt l2 with z|⟨o2,z2⟩
 ·rw[z1,q00,z] at hs;exact absurd rfl hs
 rw[z1,q00,z2,q00] at hs |-;have I4:Inv X pins σ H3 {s3 with heap:=s3.heap.push {cls:= .type "slice",data:= .fields #[vl,vu,.none]}}:=I3.kept (t':=s3.toks) λ b ob q=>Heap.get?_push_of_some _ q;have x13:=(x1.trans x2).trans x3;have q3:=q1.mono (x2.trans x3) (q1J (x2.trans x3));have t3:=(R2.ext x3).th;show wpAny (model X.prog X.w) X.A (subscriptTail a (.Slice lo hi none p2) v (.ref s3.heap.objs.size)) _ _ {s3 with heap:=s3.heap.push {cls:= .type "slice",data:= .fields #[vl,vu,.none]}};have fin:∀(E:Value->Shared->Prop) (rr:Ev.R D) (r:D),rr = .ok r->∀u s',EP (X.wish E) pins σ (Fin p os.flatten H3 r) u s'->Gd X p pins σ os H rr u s':=λ E rr r e u s' h=>q8T x13 e h;cases d<;>first
  |exact absurd rfl hs
  |skip
 ·rename_i xs;have e5:slD 0 o1 o2 (.tup xs) = .ok (.tup (cutL xs o1 o2)):=rfl;rw[e5];obtain⟨t,vs,rfl,s5,z5,s6⟩:=q3;cases r1;have s5':SqT X.K H3 t vs:=hK▸q0b.sqT s5;have hl:=s6.length
  by_cases hw:HT.sIx vs.length 0 o1=0/\HT.sIx vs.length vs.length o2=vs.length
  ·obtain⟨its,rv,ht,hz⟩:=I4.tuple s5';have hlen:its.toArray.size=vs.length:=(by rw[List.size_toArray];exact rv.length.symm);refine tail_any (ops:=[.ref s3.heap.objs.size,.ref t]) ht.typeIs PyProof.Rows.slot_tuple_getitem.lookup (q8Y ht (Heap.IsSliceOf.new ..) (p2' o1 z1) (p3 o2 z2) (by rw[hlen];exact hw) ?_) (by with_unfolding_all rfl);rw[qC0 xs o1 o2 (by rw[hl];exact hw)];exact⟨_,.ref t,H3,rfl,I4,rfl,x13,t,vs,rfl,s5,z5,s6⟩
  ·obtain⟨T,id',hT,ht,hg⟩:=qI5 (X:=X.wish (Er X p pins σ H (Ev.R.ok (D.tup (cutL xs o1 o2))))) pins _ σ H3 (.ref t) _ vl vu o1 o2 s3.heap.objs.size (Fin p os.flatten H3 (.tup (cutL xs o1 o2))) (I4.wish _) rfl (Heap.IsSliceOf.new ..) (p2' o1 z1) (p3 o2 z2)
    ⟨t,vs,rfl,s5',hw,λ q n=>q8S t3 (q9c s6 o1 o2) (Nat.le_trans (q2s vs o1 o2) z5) n⟩
   exact tail_any (ops:=[.ref s3.heap.objs.size,.ref t]) ht hT (wpAny_mono hg (λ u s' h=>fin _ _ _ rfl u s' h) λ _ _ z=>z) (by with_unfolding_all rfl)
 ·rename_i xs;have e5:slD 0 o1 o2 (.lst xs) = .ok (.lst (cutL xs o1 o2)):=rfl;rw[e5];obtain⟨t,vs,rfl,s5,s6⟩:=q3;cases r1;obtain⟨T,id',hT,ht,hg⟩:=qFj (X:=X.wish (Er X p pins σ H (Ev.R.ok (D.lst (cutL xs o1 o2))))) pins _ σ H3 (.ref t) _ vl vu o1 o2 s3.heap.objs.size (Fin p os.flatten H3 (.lst (cutL xs o1 o2))) (I4.wish _) rfl (Heap.IsSliceOf.new ..) (p2' o1 z1) (p3 o2 z2)
   ⟨t,vs,rfl,hK▸s5,λ q n=>q4m t3 (q9c s6 o1 o2) n⟩
  exact tail_any (ops:=[.ref s3.heap.objs.size,.ref t]) ht hT (wpAny_mono hg (λ u s' h=>fin _ _ _ rfl u s' h) λ _ _ z=>z) (by with_unfolding_all rfl)
end
end Snd
namespace Snd
open PySem PySem.Spec PySem.W PyProof.Rows L2 Ev
section
variable {X:Cx}{p:Pm}{G:Nat->List D->R D}{sub:Nat->Nat->Bool}
theorem qC1 (d:D):q0L d = .stuck\/∃r,q0L d = .ok r:=by
 unfold q0L;split<;>first
  |exact .inr ⟨_,rfl⟩
  |exact .inl rfl
  |(split<;>first|exact .inr ⟨_,rfl⟩|exact .inl rfl)
end
end Snd
namespace Snd
open PySem PySem.Spec PySem.W PyProof.Rows L2 Ev
variable {e:PySem.Expr}{env:PySem.Env}{x:Str}{i:Nat}
theorem q1t {x:Str}:∀{N:List Str}{i:Nat},ixOf x N=some i->N[i]? = some x
 |[],i,h=>by cases h
 |y::N,i,h=>by
  unfold ixOf at h;split at h
  ·rename_i c;cases h;subst c;rfl
  ·cases e:ixOf x N with
   |none=>rw[e] at h;cases h
   |some j=>rw[e] at h;cases h;simpa using q1t e
def okE:PySem.Expr->Bool
 | .Starred _ _=>false
 | .Set _ _ _=>false
 | .Slice _ _ _ _=>false
 | .Call (.Name _ _) [] [] _=>false
 |_=>true
theorem q0x {es:List PySem.Expr}(h:okE e=true):starEach (e::es) env=(false,eval e env)::starEach es env:=by cases e<;>first|rfl|(cases h;done)
theorem qJK (h:okE e=true):q8C e:=by intro o i;cases e<;>first|rfl|(cases h;done)
theorem qC2 {op:CmpOp}(h:okE e=true):behindInMarks op e=false:=by cases e<;>first|rfl|(cases h;done)
theorem q8Z (h:okE e=true):∀x,foldedSetIterable e env x=pure x:=by intro x;cases e<;>first|rfl|(cases h;done)
theorem q8a {name:Str}(h:okE e=true):attributeBase e name env (eval e env)=eval e env:=by
 unfold attributeBase;split
 ·cases h
 ·rfl
theorem q6O:∀{n:Nat}{C:Ct}{e:PySem.Expr}{l:L},cE n C e=some l->okE e=true:=by
 intro n;cases n with
 |zero=>intro C e l h;cases h
 |succ n =>
  intro C e l h;cases e with
  |Call g args kws pos =>
   cases g with
   |Name f q =>
    cases args with
    |cons a r=>rfl
    |nil =>
     cases kws with
     |cons a r=>rfl
     |nil =>
      exfalso;unfold cE at h;dsimp only at h;split at h
      ·split at h
       ·split at h
        ·rename_i z;exact z.2 rfl
        ·cases h
       ·cases n with
        |zero=>cases h
        |succ n=>cases h
      ·cases h
   |_=>rfl
  |Starred _ _=>cases h
  |Set _ _ _=>cases h
  |Slice _ _ _ _=>cases h
  |_=>rfl
theorem q6P {n:Nat}{C:Ct}{l:L}(h:cB n C e=some l):okE e=true:=by
 cases n with
 |zero=>simp[cB] at h
 |succ n =>
  unfold cB at h;split at h
  ·rfl
  ·exact q6O h
def q07:List Str:=["len", "sorted", "tuple", "list", "sum", "all", "int", "abs", "range", "isinstance", "set", "bool", "ValueError", "min", "max"]
def KOk (a b:Option NameKind):Prop:=a=b\/(a=some .free/\b=some .cell)
def qC3:List Value:=[.type "ValueError",.type "Exception",.type "BaseException",.type "object"]
structure CtOk (k:Nat) (X:Cx) (C:Ct) (p:Pm) (G:Nat->List D->R D) (sub:Nat->Nat->Bool):Prop where
 N:X.N=C.N
 nd:C.N.Nodup
 kinds:∀x,KOk (C.kinds.lookup x) (X.env.scope.names.lookup x)
 calm:X.calm=true
 K:p.K=X.K
 room:Room (k+2) X.A
 blt:∀x∈q07,X.mg x=none
 funs:∀(j:Nat) (f:Str),C.funs[j]? = some f->∃fa fd ps,FnOk X.prog X.w X.K X.mg X.base (CXs X.prog X.w) k fa fd ps (spG p G j ps.length)/\X.mg f=some (.ref fa)/\PySem.W.keepIn X.K (.ref fa)=true/\Binds X.K fd ps []/\∀ds,G j ds ≠ .stuck->ds.length=ps.length
 consts:∀(x:Str) (d:D),C.consts.lookup x=some d->∃a t,d = .int a/\X.mg x=some (.int a t)
 excs:∀(c:Nat) (x:Str),C.excs[c]? = some x->∃Cc,p.cls[c]? = some Cc/\OwnCls x Cc qC3 "ValueError.__new__" X.mg X.base
 exok:∀(c:Nat) (Cc:Addr),p.cls[c]? = some Cc->ExOk X.K Cc/\kitOne X.K (.ref Cc) (.type "ValueError")=some true
 exm:∀(e c:Nat) (Ce Cc:Addr),p.cls[e]? = some Ce->p.cls[c]? = some Cc->exmOne X.K (.ref Ce) (.ref Cc)=some (sub e c)/\kitOne X.K (.ref Ce) (.ref Cc)=some (sub e c)
def SSet:Prop:=∀(X:Cx) (p:Pm) (G:Nat->List D->R D) (sub:Nat->Nat->Bool) (a:PySem.Expr) (la:L) (q q2 q3 pos:Pos),p.K=X.K->X.calm=true->X.A.units+64<cLine->X.mg "sorted" = none->X.mg "set" = none->SB X p G sub a la->okE a=true->Gl X "sorted"->Gl X "set"->
 SE X p G sub (.Call (.Name "sorted" q) [.Call (.Name "set" q2) [a] [] q3] [] pos) (.bi .sortedSet [la])
section
variable {k:Nat}{X:Cx}{C:Ct}{p:Pm}{G:Nat->List D->R D}{sub:Nat->Nat->Bool}
theorem q1S (h:q2o x=true):(x==("__debug__":Str))=false/\(x==("__classdict__":Str))=false:=by unfold q2o at h;simp only[Bool.and_eq_true,Bool.not_eq_true'] at h;exact h
theorem CtOk.hu (T:CtOk k X C p G sub):X.A.units+64<cLine:=T.room.units
theorem CtOk.vis (T:CtOk k X C p G sub) (h:C.vis x=true):Vis X.env.scope x/\(x==("__debug__":Str))=false/\(x==("__classdict__":Str))=false:=by
 unfold Ct.vis at h;rw[Bool.and_eq_true] at h;refine⟨?_,q1S h.1⟩;have h2:=h.2;have kk:=T.kinds x;unfold Vis;split at h2
 ·rename_i e;rw[e] at kk;rcases kk with z|⟨z,_⟩
  ·exact .inl z.symm
  ·cases z
 ·rename_i e;rw[e] at kk;rcases kk with z|⟨z,_⟩
  ·exact .inr (.inl z.symm)
  ·cases z
 ·rename_i e;rw[e] at kk;rcases kk with z|⟨_,z⟩
  ·exact .inr (.inr z.symm)
  ·exact .inr (.inl z)
 ·cases h2
theorem CtOk.glob (T:CtOk k X C p G sub) (h:C.glob x=true):Gl X x/\(x==("__debug__":Str))=false:=by
 unfold Ct.glob at h;rw[Bool.and_eq_true] at h;refine⟨?_,(q1S h.1).1⟩;have e:=of_decide_eq_true h.2;have kk:=T.kinds x;rw[e] at kk;rcases kk with z|⟨z,_⟩
 ·exact z.symm
 ·cases z
theorem CtOk.loc (T:CtOk k X C p G sub) (h:C.loc x=some i):Loc X.env.scope x/\X.N[i]? = some x:=by
 unfold Ct.loc at h;have kk:=T.kinds x;split at h
 case isFalse=>cases h
 split at h
 ·rename_i e;rw[e] at kk;rcases kk with z|⟨z,_⟩
  ·exact⟨.inl z.symm,by rw[T.N];exact q1t h⟩
  ·cases z
 ·rename_i e;rw[e] at kk;rcases kk with z|⟨z,_⟩
  ·exact⟨.inr z.symm,by rw[T.N];exact q1t h⟩
  ·cases z
 ·cases h
theorem qE0 (h:C.loc x=some i):(x==("__debug__":Str))=false/\(x==("__classdict__":Str))=false:=by
 unfold Ct.loc at h;split at h
 ·rename_i e;exact q1S e
 ·cases h
theorem CtOk.at (T:CtOk k X C p G sub) (h:ixOf x C.N=some i):X.N[i]? = some x:=by rw[T.N];exact q1t h
theorem q4x {α:Type}{f:α->Bool}{l:List α}(h:l.all f=true):∀x∈l,f x=true:=List.all_eq_true.mp h
theorem CtOk.inner (T:CtOk k X C p G sub) {ts:List Str}{sc:Scope}(h:C.scOk ts sc=true):ScOk X sc ts/\(inN ts X.N).Nodup/\(∀x∈ts,sc.names.lookup x=some .local)/\
  ∀s2 H2 cl C' fp,CtOk k (cxC X s2 H2 sc cl C' (inN ts X.N) fp) (C.inner ts sc) p G sub:=by
 unfold Ct.scOk at h;simp only[Bool.and_eq_true,decide_eq_true_eq] at h;obtain⟨⟨⟨⟨h1,h2⟩,h3⟩,h4⟩,h5⟩:=h;have eN:(C.inner ts sc).N=inN ts X.N:=by unfold Ct.inner inN;rw[T.N]
 have h4':=q4x h4;have h5':=q4x h5;have h3':∀x∈ts,sc.names.lookup x=some .local:=λ x hx=>of_decide_eq_true (q4x h3 x hx);refine⟨⟨h1,λ y hy=>?_,λ y hy hf=>?_,λ y hy hl=>?_,λ y hy hm=>?_,λ y hy hm=>?_⟩,by rw[<-eN];exact h2,h3',λ s2 H2 cl C' fp=>⟨eN.symm,h2,λ x=>?_,T.calm,T.K,T.room,T.blt,T.funs,T.consts,T.excs,T.exok,T.exm⟩⟩
 ·have:=h4' y hy;simp only[Bool.and_eq_true,decide_eq_true_eq] at this;exact this.1.1
 ·have:=h4' y hy;simp only[Bool.and_eq_true,Bool.or_eq_true,decide_eq_true_eq] at this;have kk:=T.kinds y.1;rcases this.1.2 with (z|z)|z
  ·exact absurd hf z
  ·rw[z] at kk;rcases kk with w|⟨w,_⟩
   ·exact .inl w.symm
   ·cases w
  ·rw[z] at kk;rcases kk with w|⟨_,w⟩
   ·exact .inr w.symm
   ·exact .inl w
 ·have:=h4' y hy;simp only[Bool.and_eq_true,Bool.or_eq_true,decide_eq_true_eq] at this;rcases this.2 with z|z
  ·exact absurd hl z
  ·exact z
 ·have:=h5' y (by rw[<-T.N];exact hy);rw[if_pos hm] at this;exact of_decide_eq_true this
 ·have:=h5' y (by rw[<-T.N];exact hy);rw[if_neg hm] at this;exact of_decide_eq_true this
 ·show KOk (sc.names.lookup x) ((relabel sc X.env).names.lookup x);rw[q0M];cases e:sc.names.lookup x with
  |none=>exact .inl rfl
  |some kd =>
   rw[Option.map_some];split
   ·rename_i c;simp only[Bool.and_eq_true,beq_iff_eq] at c;exact .inr ⟨by rw[c.1.1],rfl⟩
   ·exact .inl rfl
end
end Snd
namespace Snd
open PySem PySem.Spec PySem.W PyProof.Rows L2 Ev
theorem q7R:∀{ns:List Int}{us:List Value},Vals (ns.map V.int) us->IntsAre us ns
 |[],us,h=>by cases h;exact .nil
 |n::ns,us,h=>by
  cases h with|cons h r =>
  obtain⟨t,rfl⟩:=h;exact .cons n t (q7R r)
theorem q2J:∀{ns:List Int}{us:List Value},IntsAre us ns->Vals (ns.map V.int) us
 |_,_,.nil=> .nil
 |_,_,.cons n t r=> .cons ⟨t,rfl⟩ (q2J r)
theorem q4y {p:Pm}{H:Hp}:∀{ns:List Int}{vs:List V},RepL p H (ns.map D.int) vs->vs=ns.map V.int
 |[],vs,h=>h
 |n::ns,vs,h=>by obtain⟨v,r,rfl,h1,h2⟩:=h;cases (show v=_ from h1);rw[q4y h2];rfl
theorem q7S {p:Pm}{H:Hp}:∀{ns:List Int},RepL p H (ns.map D.int) (ns.map V.int)
 |[]=>rfl
 |n::ns=>⟨_,_,rfl,rfl,q7S⟩
theorem q8b:∀{xs:List D},xs.all q1w=true->∃ns:List Int,xs=ns.map D.int
 |[],_=>⟨[],rfl⟩
 |d::xs,h=>by
  rw[List.all_cons,Bool.and_eq_true] at h;obtain⟨ns,rfl⟩:=q8b h.2;cases d<;>first|(cases h.1;done)|skip
  exact⟨_::ns,rfl⟩
theorem qE1 {ns ns':List Int}(hp:ns'.Perm ns) (hd:ns'.Pairwise (·≥·)) (hs:SoOk (ns.map D.int)):(q1F (ns.map D.int)).reverse=ns'.map D.int:=by
 have h1:Srt (q1F (ns.map D.int)):=q1R λ d hd=>hs.hsh d hd;have h2:=q0d (ns.map D.int);obtain⟨ms,hm⟩:∃ms:List Int,q1F (ns.map D.int)=ms.map D.int:=q8b (List.all_eq_true.mpr λ d hd=>by obtain⟨n,_,rfl⟩:=List.mem_map.mp (h2.mem_iff.mp hd);rfl)
 rw[hm] at h1 h2 |-;rw[<-List.map_reverse];congr 1;have hpm:ms.Perm ns:=by
  have:=h2.map λ d=>match d with|D.int i=>i|_=>0
  rw[List.map_map,List.map_map] at this;simpa[Function.comp_def] using this
 have asc:ms.Pairwise (·<=·):=by
  have h3:(ms.map D.int).Pairwise (λ a b=>ltb b a=false):=h1;rw[List.pairwise_map] at h3;refine h3.imp λ {a b} h=>?_;have:ltb (D.int b) (D.int a)=decide (b<a):=by simp[ltb]
  rw[this] at h;have:=of_decide_eq_false h;lia
 refine List.Perm.eq_of_pairwise (le:=λ a b:Int=>a≥b) (λ a b _ _ h1 h2=>by lia) ?_ hd (((List.reverse_perm ms).trans hpm).trans hp.symm);rw[List.pairwise_reverse];exact asc
section
variable {X:Cx}{p:Pm}{G:Nat->List D->R D}{sub:Nat->Nat->Bool}
theorem qGb {a:PySem.Expr}{la:L}{kk:Nat}{q q2 q3 pos:Pos}(hK:p.K=X.K) (hc:X.calm=true) (hu:X.A.units+64<cLine) (hg:Gl X "sorted") (hm:X.mg "sorted" = none) (ha:SB X p G sub a la) (hst:starEach [a] X.env=[(false,eval a X.env)]) :
  SE X p G sub (.Call (.Name "sorted" q) [a] [⟨some "reverse",.Constant (.bool true) kk q2,q3⟩] pos) (.bi .sortedRev [la]):=by
 intro pins s σ H ρ os I R hs;refine wpAny_Call_Name_kw (q1p I hg hm PyProof.Rows.boot_sorted ?_ (by decide) (by decide));refine PyProof.Rows.callWith_kw ?_ (by rw[hst];rfl) (by rw[hst];rfl) rfl rfl;refine q6I ha hst I R (q5X hs) (λ u s1 h=>?_) (λ _ _=>q5W);obtain⟨d,v,H1,e1,I1,r1,x1,q1⟩:=h;have e0:ev G sub (.bi .sortedRev [la]) ρ=biD sub .sortedRev [d]:=by rw[q16,q24 (f:=λ d=>biD sub .sortedRev [d]) la ρ _ (λ _=>rfl),e1];rfl
 rw[e0] at hs |-;refine PyProof.Rows.kws_cons (wpAny_Constant_bool (PyProof.Rows.kws_nil ?_));have e2:biD sub .sortedRev [d]=(q0L d).bind λ xs=>if q1I xs&&xs.all q1w then .ok (.lst (q1F xs).reverse) else .stuck:=rfl
 rw[e2] at hs |-;rcases qC1 d with hi|⟨xs,hi⟩
 ·rw[hi] at hs;exact absurd rfl hs
 rw[hi,q00] at hs |-;have hso:(q1I xs&&xs.all q1w)=true:=by
  cases z:q1I xs&&xs.all q1w with
  |true=>rfl
  |false=>rw[z,if_neg (by simp)] at hs;exact absurd rfl hs
 rw[hso,if_pos rfl];rw[Bool.and_eq_true] at hso;obtain⟨sk,_⟩:=q8W hso.1;obtain⟨ns,rfl⟩:=q8b hso.2;have R1:=R.ext x1;obtain⟨vs,rx,hz,hcol⟩:=qF6 (E:=Er X p pins σ H (Ev.R.ok (D.lst (q1F (ns.map D.int)).reverse))) hK hc (A:=X.A.in1) (I.ok.hd hc) I1 r1 q1 hi;cases q4y rx;have h64:ns.length<64:=by simpa using sk.len
 show wpAny _ _ (call (.builtin "sorted") [u] [(Str.ofString "reverse",.bool true)]) _ _ s1;refine PyProof.Rows.call_function_entry_kw kind_sorted plain_sorted entry_sorted (args_sorted_rev _ _) ?_;unfold Builtin.«sorted»;refine wpAny_bind (m:=checkCount "sorted" 1 1 _) (wpAny_pure (wpAny_bind (hcol _ λ us h1' tk rvs k1=>?_)));have hI:=q7R rvs;have hlu:=rvs.length;rw[List.length_map] at hlu;have small:us.length<=sizeLine:=by rw[sizeLine_eq];lia
 refine wpAny_bind (wpAny_newList ?_ small);have nD:s1.heap.get? h1'.objs.size=none:=by
  cases z:s1.heap.get? h1'.objs.size with
  |none=>rfl
  |some o=>exact absurd (Heap.lt_size (k1 _ _ z)) (Nat.lt_irrefl _)
 have gD0:(h1'.push {cls:= .type "list",data:= .seq us.toArray}).get? h1'.objs.size=some (seqObj "list" us.toArray 0):=Heap.get?_push_size _ rfl;refine wpAny_bind (wpAny_holding (PyProof.Rows.wpAny_call_entry_kw slot_list_sort ⟨_,gD0,rfl⟩ entry_list_sort (list_sort_tree_rev gD0 hI (by lia) λ out ns' a1 a2 a3=>⟨_,rfl,?_⟩) (args_list_sort_rev _ _)));refine wpAny_pure ⟨_,rfl,?_⟩;rw[qE1 a2 a3 sk];obtain⟨e,g⟩:=sortedHeap_at (out:=out) gD0;have hf:=q4S I1.hok nD;have k:∀b x,s1.heap.get? b=some x->(sortedHeap (h1'.push {cls:= .type "list",data:= .seq us.toArray}) h1'.objs.size us out).get? b=some x:=λ b x z=>by have lt:=Heap.lt_size (k1 b x z);rw[sortedHeap_old (Nat.ne_of_lt lt) (by rw[Heap.size_push];exact Nat.lt_succ_of_lt lt)];exact Heap.get?_push_of_some _ (k1 b x z)
 have hv:=q2J a1;have hlen:ns'.length=ns.length:=a2.length_eq;have g':(sortedHeap (h1'.push {cls:= .type "list",data:= .seq us.toArray}) h1'.objs.size us out).get? h1'.objs.size=some (seqObj "list" out.toList.toArray e):=by rw[Array.toArray_toList];exact g
 have I6:=qBm (o:= .lst (ns'.map V.int)) (t':=tk) I1 k nD ⟨by rw[List.length_map,sizeLine_eq];lia,_,_,hv,g'⟩;exact⟨_,.ref h1'.objs.size,_,rfl,I6,rfl,x1.trans (Ext.upd hf),_,_,rfl,SqL.of (q9L R1.th hf),q7S⟩
theorem qJL {x:Str}{id:String}{a b:PySem.Expr}{la lb:L}{o:Bi}{f:Int->Int->Int}{q pos:Pos}(hf:∀E,q6s (X.wish E) (.builtin id) (λ xs H Q=>∃i j,xs=[.int i,.int j]/\Q (.int (f i j)) H)) (ho:∀d e,biD sub o [d,e]=intD (λ i=>intD (λ j=> .ok (.int (f i j))) e) d) (hg:Gl X x) (hm:X.mg x=none) (hv:bootBuiltins x=some (.builtin id)) (hn:x ≠ "__name__") (hdb:(x==("__debug__":Str))=false)
  (ha:SA X p G sub [a,b] [la,lb]) (hst:starEach [a,b] X.env=[(false,eval a X.env),(false,eval b X.env)]) (hs2:starEach [b] X.env=[(false,eval b X.env)]):SE X p G sub (.Call (.Name x q) [a,b] [] pos) (.bi o [la,lb]):=by
 intro pins s σ H ρ os I R hs;rw[q16] at hs |-;refine wpAny_Call_Name_kw (q1p I hg hm hv ?_ hn hdb);refine PyProof.Rows.callWith_builtin1 (wpAny_mono (ha pos pins s σ H ρ os I R (q0D hs)) (λ us s1 ⟨ds,vs,H1,e1,I1,r1,x1,q1⟩=>?_) (λ e s' z=>z.bind)) (by rw[hst,hs2]) (by rw[hs2];rfl);have hl:=q6E e1;rw[e1,q00] at hs |-
 match ds,hl with
 |[d,e],_ =>
  rw[ho] at hs |-;cases d<;>first|exact absurd rfl hs|skip
  cases e<;>first|exact absurd rfl hs|skip
  rename_i i j _;cases (q4y (ns:=[i,j]) q1);show wpAny _ _ _ (Gd X p pins σ os H (Ev.R.ok (D.int (f i j)))) (Er X p pins σ H (Ev.R.ok (D.int (f i j)))) s1;exact wpAny_mono (hf (Er X p pins σ H (Ev.R.ok (D.int (f i j)))) pins s1 σ H1 _ _ (Fin p os.flatten H1 (D.int (f i j))) (I1.wish _) r1 ⟨i,j,rfl,q0H rfl⟩) (λ w s2 h2=>q8T x1 rfl h2) λ _ _ z=>z
end
end Snd
set_option maxHeartbeats 400000
namespace Snd
open PySem PySem.Spec PySem.W PyProof.Rows L2 Ev
variable {C:Ct}{n:Nat}{e a:PySem.Expr}{es:List PySem.Expr}{ls:List L}{X:Cx}{q pos:Pos}{l:L}
section
variable {k:Nat}{p:Pm}{G:Nat->List D->R D}{sub:Nat->Nat->Bool}
structure SoE (k:Nat) (p:Pm) (G:Nat->List D->R D) (sub:Nat->Nat->Bool) (n:Nat):Prop where
 E:∀(X:Cx) (C:Ct),CtOk k X C p G sub->∀e l,cE n C e=some l->SE X p G sub e l
 B:∀(X:Cx) (C:Ct),CtOk k X C p G sub->∀e l,cB n C e=some l->SB X p G sub e l
 Es:∀(X:Cx) (C:Ct),CtOk k X C p G sub->∀es ls,cEs n C es=some ls->SA X p G sub es ls
 Bo:∀(X:Cx) (C:Ct),CtOk k X C p G sub->∀op xs l,cBo n C op xs=some l->∀pos,SE X p G sub (.BoolOp op xs pos) l
 T:∀(X:Cx) (C:Ct),CtOk k X C p G sub->∀e t,cT n C e=some t->ST X p G sub e t
 To:∀(X:Cx) (C:Ct),CtOk k X C p G sub->∀op xs t,cTo n C op xs=some t->∀pos,ST X p G sub (.BoolOp op xs pos) t
 I:∀(X:Cx) (C:Ct),CtOk k X C p G sub->∀e i,cI n C e=some i->∀tg,(∃fr,SI X p G sub fr tg e i)/\(C.q8G e=false->SI X p G sub true tg e i)
 Call:∀(X:Cx) (C:Ct),CtOk k X C p G sub->∀f args l,qDK n C f args=some l->C.glob f=true->ixOf f C.funs=none->∀q pos,SE X p G sub (.Call (.Name f q) args [] pos) l
theorem qL8:("len":Str)∈q07:=by unfold q07;simp
theorem qGc:("sorted":Str)∈q07:=by unfold q07;simp
theorem qJM:("tuple":Str)∈q07:=by unfold q07;simp
theorem qJN:("list":Str)∈q07:=by unfold q07;simp
theorem qL9:("sum":Str)∈q07:=by unfold q07;simp
theorem qLA:("all":Str)∈q07:=by unfold q07;simp
theorem qJO:("int":Str)∈q07:=by unfold q07;simp
theorem qJP:("range":Str)∈q07:=by unfold q07;simp
theorem qLB:("isinstance":Str)∈q07:=by unfold q07;simp
theorem qJQ:("set":Str)∈q07:=by unfold q07;simp
theorem qJR:("bool":Str)∈q07:=by unfold q07;simp
theorem qJS:("min":Str)∈q07:=by unfold q07;simp
theorem qJT:("max":Str)∈q07:=by unfold q07;simp
theorem qJU:("ValueError":Str)∈q07:=by unfold q07;simp
theorem q3Q (h:cEs (n+1) C (e::es)=some ls):∃a l,cE n C e=some a/\cEs n C es=some l/\ls=a::l:=by obtain⟨a,g1,h⟩:=oB h;obtain⟨l,g2,h⟩:=oM h;exact⟨a,l,g1,g2,h.symm⟩
theorem q9d {ls:List Ev.T}(h:cTs (n+1) C (e::es)=some ls):∃a l,cT n C e=some a/\cTs n C es=some l/\ls=a::l:=by obtain⟨a,g1,h⟩:=oB h;obtain⟨l,g2,h⟩:=oM h;exact⟨a,l,g1,g2,h.symm⟩
theorem q9e {args:List PySem.Expr}(h:qIF C e=some args):∃q pos,e = .Call (.Name (Str.ofString "range") q) args [] pos/\C.glob (Str.ofString "range")=true:=by
 obtain⟨⟨f,as⟩,g1,h⟩:=oB h;dsimp only at h;split at h
 ·rename_i hf;obtain⟨rfl,hg,_⟩:=hf;cases h;obtain⟨q,pos,rfl⟩:=q94 g1;exact⟨_,_,rfl,hg⟩
 ·cases h
theorem q9f {C:Ct}:∀{n:Nat}{es:List PySem.Expr}{ls:List L},cEs n C es=some ls->∀x∈es,okE x=true
 |0,es,ls,h=>by simp[cEs] at h
 |n+1,[],ls,h=>λ x hx=>absurd hx (by simp)
 |n+1,e::es,ls,h=>by
  obtain⟨a,l,g1,g2,rfl⟩:=q3Q h;intro x hx;rcases List.mem_cons.mp hx with rfl|hx
  ·exact q6O g1
  ·exact q9f g2 x hx
theorem q7T {env:PySem.Env}{pos:Pos}:∀{es:List PySem.Expr},(∀x∈es,okE x=true)->(backTo pos (starEach es env)).any (·.1)=false
 |[],_=>rfl
 |e::es,h=>by rw[q0x (h e (by simp))];show (false || (backTo pos (starEach es env)).any (·.1))=false;rw[q7T λ x hx=>h x (List.mem_cons_of_mem _ hx)];rfl
theorem qE2 {kk j:Nat}{f:Addr}{fd:FuncData}{ps:List Str}{x:Str}(F:FnOk X.prog X.w X.K X.mg X.base (CXs X.prog X.w) kk f fd ps (spG p G j ps.length)) (hr:Room kk X.A)
  (hg:Gl X x) (hm:X.mg x=some (.ref f)) (hk:PySem.W.keepIn X.K (.ref f)=true) (hb:Binds X.K fd ps []) (ha:SA X p G sub (e::es) ls) (hlen:∀ds,G j ds ≠ .stuck->ds.length=ps.length)
  (hdb:(x==("__debug__":Str))=false) (he:starEach (e::es) X.env=(false,eval e X.env)::starEach es X.env) (hpl:(backTo pos (starEach es X.env)).any (·.1)=false):SE X p G sub (.Call (.Name x q) (e::es) [] pos) (.call j ls):=by
 intro pins s σ H ρ os I R hs;rw[q1G] at hs |-;refine wpAny_Call_Name_kw (q3f I hg hm ?_ hdb);refine PySem.W.callWith_K (h₀:=X.base) I.ok.mod.kin hk (wpAny_mono (ha pos pins s σ H ρ os I R (q0D hs)) (λ us s1 ⟨ds,vs,H1,e1,I1,r1,x1,q1⟩=>⟨I1.kIn,?_⟩) (λ e s' z=>z.bind)) he hpl;rw[e1,q00] at hs |-;exact wpAny_mono (qDm F hr hb I1 r1 (R.ext x1).nd (R.ext x1).th q1 (hlen ds hs) hs) (λ u s2 ⟨d,v,H2,e2,I2,rv,x2,q2⟩=>⟨d,v,H2,e2,I2,rv,x1.trans x2,q2⟩) (λ e s' z=>z.ext x1)
theorem qGd {i:I}(h:cI n C e=some i):okE e=true:=by
 cases n with
 |zero=>cases h
 |succ n =>
  unfold cI at h;split at h
  ·rename_i args hr;obtain⟨q,pos,rfl,_⟩:=q9e hr;cases args with
   |cons a r=>rfl
   |nil=>rw[if_neg (by decide)] at h;cases h
  ·split at h
   ·rename_i x hx;obtain⟨q,rfl⟩:=q0I hx;rfl
   ·obtain⟨l,e1,_⟩:=oM h;exact q6O e1
theorem q7U (ih:∀m,m<n->∀(X:Cx) (C:Ct),CtOk k X C p G sub->∀e t,cT m C e=some t->ST X p G sub e t) (T:CtOk k X C p G sub) {ifs:List PySem.Expr}{ts:List Ev.T}(h:cTs n C ifs=some ts) (hl:ts.length<=1):STs X p G sub ifs ts:=by
 cases n with
 |zero=>simp[cTs] at h
 |succ n =>
  cases ifs with
  |nil=>simp[cTs] at h;exact .inl ⟨rfl,h⟩
  |cons c r =>
   obtain⟨a,l,g1,g2,rfl⟩:=q9d h;cases l with
   |cons _ _=>exact absurd hl (λ z=>Nat.not_succ_le_zero _ (Nat.le_of_succ_le_succ z))
   |nil =>
    cases r with
    |nil=>exact .inr ⟨c,a,rfl,rfl,ih n (Nat.lt_succ_self n) X C T _ _ g1⟩
    |cons c2 r2 =>
     cases n with
     |zero=>cases g2
     |succ n=>obtain⟨_,_,_,_,z⟩:=q9d g2;cases z
theorem q7V {tg:PySem.Expr}{kk:Nat}{ts:List Str}{s2:Shared}{H2:Hp}{sc:Scope}{cl:List (Str×Addr)}{C':Addr}{fp:List Addr}(hK:p.K=X.K) (hc:X.calm=true) (nd:(inN ts X.N).Nodup) (rl:∀x∈ts,(cxC X s2 H2 sc cl C' (inN ts X.N) fp).env.scope.names.lookup x=some .local)
  (h:tgs tg=some (kk,ts)):SGc (cxC X s2 H2 sc cl C' (inN ts X.N) fp) p tg kk ts.length:=by
 unfold tgs at h;split at h
 ·cases h;exact q9O nd rfl (rl _ (List.mem_cons_self ..))
 ·obtain⟨ab,h1,h⟩:=oB h;obtain⟨x,h2,h⟩:=oB h;obtain⟨y,h3,h⟩:=oM h;obtain⟨q1,e1⟩:=q0I h2;obtain⟨q2,e2⟩:=q0I h3;rw[qFo h1,e1,e2];cases h;exact qGK hK hc nd rfl (rl _ (List.mem_cons_self ..)) rfl (rl _ (List.mem_cons_of_mem _ (List.mem_cons_self ..)))
 ·cases h
theorem qFA {ops:List CmpOp}{cs:List PySem.Expr}(h:cE (n+1) C (.Compare a ops cs q)=some l):∃op b la lb,ops=[op]/\cs=[b]/\cB n C a=some la/\cB n C b=some lb/\l = .cm (cmOf op) la lb:=by obtain⟨op,h1,h⟩:=oB h;obtain⟨b,h2,h⟩:=oB h;obtain⟨la,g1,h⟩:=oB h;obtain⟨lb,g2,h⟩:=oM h;exact⟨op,b,la,lb,q0v h1,q0v h2,g1,g2,h.symm⟩
theorem qJV {ops:List CmpOp}{cs:List PySem.Expr}(h:cB n C (.Compare a ops cs q)=some l):∃m op b la lb,m<n/\ops=[op]/\cs=[b]/\cB m C a=some la/\cB m C b=some lb/\l = .cm (cmOf op) la lb:=by
 cases n with
 |zero=>cases h
 |succ n =>
  cases n with
  |zero=>cases h
  |succ n =>
   obtain⟨op,b,la,lb,z⟩:=qFA (q:=q) h;exact⟨n,op,b,la,lb,Nat.lt_of_lt_of_le (Nat.lt_succ_self n) (Nat.le_succ _),z⟩
def plainT:PySem.Expr->Bool
 | .BoolOp _ _ _=>false
 | .UnaryOp .Not _ _=>false
 | .IfExp _ _ _ _=>false
 | .Compare _ _ _ _=>false
 |_=>true
theorem qE3 {env:PySem.Env}(h:plainT e=true):∀whole,isTrue e env whole=(do let v <-whole;standAt e.pos;holding [v] (truthy v)):=by
 intro whole;cases e<;>first|(cases h;done)|skip
 all_goals first|(with_unfolding_all rfl;done)|(rename_i op _ _;cases op<;>first|(cases h;done)|(with_unfolding_all rfl))
theorem qGe (h:plainT e=true):q8F e=false:=by
 cases e<;>first|rfl|(cases h;done)|skip
 rename_i op _ _;cases op<;>first|rfl|(cases h;done)
theorem q8c (h:cEs n C []=some ls):ls=[]:=by
 cases n with
 |zero=>cases h
 |succ n=>cases h;rfl
theorem qC4 (h:cEs n C [a]=some ls):∃l,ls=[l]:=by
 cases n with
 |zero=>cases h
 |succ n =>
  obtain⟨l,_,_,g2,rfl⟩:=q3Q h;rw[q8c g2];exact⟨_,rfl⟩
theorem qC5 {b:PySem.Expr}(h:cEs n C [a,b]=some ls):∃l m,ls=[l,m]:=by
 cases n with
 |zero=>cases h
 |succ n =>
  obtain⟨l,_,_,g2,rfl⟩:=q3Q h;obtain⟨m,rfl⟩:=qC4 g2;exact⟨_,_,rfl⟩
theorem qC6 {f:Str}{b:Bi}{la:L}(T:CtOk k X C p G sub) (h:bi1 f=some b) (hg:Gl X f) (hd:(f==("__debug__":Str))=false) (ha:SB X p G sub a la) (hst:starEach [a] X.env=[(false,eval a X.env)]):SE X p G sub (.Call (.Name f q) [a] [] pos) (.bi b [la]):=by
 unfold bi1 at h;split at h
 ·rename_i e;cases h;subst e;exact q9R (qIy T.K) hg (T.blt _ qL8) PySem.boot_len ha (by decide) hd hst
 split at h
 ·rename_i e;cases h;subst e;exact q9R (qBo T.K T.calm T.hu) hg (T.blt _ qGc) PyProof.Rows.boot_sorted ha (by decide) hd hst
 split at h
 ·rename_i e;cases h;subst e;exact q8V (qDi T.K) hg (T.blt _ qJM) PyProof.Rows.boot_tuple ha (by decide) hd hst
 split at h
 ·rename_i e;cases h;subst e;exact q8V (qGN T.K) hg (T.blt _ qJN) PyProof.Rows.boot_list ha (by decide) hd hst
 split at h
 ·rename_i e;cases h;subst e;exact q9R (qJ1 T.K T.calm) hg (T.blt _ qL9) PyProof.Rows.boot_sum ha (by decide) hd hst
 split at h
 ·rename_i e;cases h;subst e;exact q9R (qJ0 T.K T.calm) hg (T.blt _ qLA) PyProof.Rows.boot_all ha (by decide) hd hst
 split at h
 ·rename_i e;cases h;subst e;exact q8V qIz hg (T.blt _ qJO) PyProof.Rows.boot_int ha (by decide) hd hst
 cases h
theorem qAQ {c:Str}{b:Bi}{la:L}{q2:Pos}(T:CtOk k X C p G sub) (h:isOf C c=some b) (hg:Gl X "isinstance") (ha:SB X p G sub a la) (hst:starEach [a,.Name c q2] X.env=[(false,eval a X.env),(false,eval (.Name c q2) X.env)]):SE X p G sub (.Call (.Name "isinstance" q) [a,.Name c q2] [] pos) (.bi b [la]):=by
 have hm:=T.blt _ qLB;unfold isOf at h;split at h
 ·rename_i hgc;obtain⟨g1,g2⟩:=T.glob hgc;split at h
  ·rename_i e;cases h;subst e;exact q3q (qJ9 T.K) hg hm ha (λ E Q pins s σ H I hq=>q1p I g1 (T.blt _ qJM) PyProof.Rows.boot_tuple hq (by decide) g2) hst
  split at h
  ·rename_i e;cases h;subst e;exact q3q (qJA T.K) hg hm ha (λ E Q pins s σ H I hq=>q1p I g1 (T.blt _ qJN) PyProof.Rows.boot_list hq (by decide) g2) hst
  split at h
  ·rename_i e;cases h;subst e;exact q3q qJB hg hm ha (λ E Q pins s σ H I hq=>q1p I g1 (T.blt _ qJO) PyProof.Rows.boot_int hq (by decide) g2) hst
  split at h
  ·rename_i e;cases h;subst e;exact q3q qGS hg hm ha (λ E Q pins s σ H I hq=>q1p I g1 (T.blt _ qJR) PyProof.Rows.boot_bool hq (by decide) g2) hst
  split at h
  ·rename_i e;cases h;subst e;exact q3q (qJC T.exok) hg hm ha (λ E Q pins s σ H I hq=>q1p I g1 (T.blt _ qJU) (by decide +kernel) hq (by decide) g2) hst
  ·obtain⟨kk,e1,rfl⟩:=oM h;obtain⟨Cc,hc1,hc2⟩:=T.excs kk c (q1t e1);exact q3q (qJD (Cc:=Cc) λ e Ce he=>⟨(T.exok e Ce he).1,(T.exm e kk Ce Cc he hc1).2⟩) hg hm ha (λ E Q pins s σ H I hq=>q3f I g1 hc2.bound hq g2) hst
 ·cases h
theorem q5d {elt:PySem.Expr}{gs:List Comprehension}{sc:Scope}(h:cE (n+1) C (.ListComp elt gs sc pos)=some l):∃tg it ifs kk ts li le lc,gs=[⟨tg,it,ifs,0⟩]/\tgs tg=some (kk,ts)/\cI n C it=some li/\cE n (C.inner ts sc) elt=some le/\cTs n (C.inner ts sc) ifs=some lc/\C.scOk ts sc=true/\lc.length<=1/\l = .comp kk le li lc:=by
 obtain⟨g,hg,h⟩:=oB h;split at h
 ·rename_i ha;obtain⟨⟨kk,ts⟩,htg,h⟩:=oB h;obtain⟨li,c1,h⟩:=oB h;obtain⟨le,c2,h⟩:=oB h;obtain⟨lc,c3,h⟩:=oB h;split at h
  ·rename_i hsc;cases h;rw[Bool.and_eq_true,decide_eq_true_eq] at hsc;obtain⟨tg,it,ifs,a⟩:=g;cases ha;exact⟨tg,it,ifs,kk,ts,li,le,lc,q0v hg,htg,c1,c2,c3,hsc.1,hsc.2,rfl⟩
  ·cases h
 ·cases h
theorem sound (hset:SSet):∀n,SoE k p G sub n:=by
 intro n
 induction n using Nat.strongRecOn with
 |ind n ih =>
  cases n with
  |zero =>
   refine⟨λ X C T e l h=>?_,λ X C T e l h=>?_,λ X C T e l h=>?_,λ X C T op e l h=>?_,λ X C T e l h=>?_,λ X C T op e l h=>?_,λ X C T e l h=>?_,λ X C T f a l h=>?_⟩
   all_goals cases h
  |succ n =>
   have ihn:=ih n (Nat.lt_succ_self n);have hE:∀(X:Cx) (C:Ct),CtOk k X C p G sub->∀e l,cE (n+1) C e=some l->SE X p G sub e l:=by
    intro X C T e l h;cases e with
    |Constant c j pos =>
     obtain⟨d,e1,rfl⟩:=oM h;exact qF0 e1
    |Name x pos =>
     unfold cE at h;dsimp only at h;split at h
     ·rename_i hv;split at h
      ·cases h
      ·obtain⟨i,e1,rfl⟩:=oM h;obtain⟨v1,v2,v3⟩:=T.vis hv;exact qIe (T.at e1) v1 v2 v3
     ·split at h
      ·rename_i hg;obtain⟨d,e1,rfl⟩:=oM h;obtain⟨a,t,rfl,hm⟩:=T.consts x d e1;obtain⟨g1,g2⟩:=T.glob hg;exact qG8 (v:= .int a) g1 hm ⟨t,rfl⟩ (λ _=>rfl) g2
      ·cases h
    |BinOp a op b pos =>
     obtain⟨o,e1,h⟩:=oB h;obtain⟨la,e2,h⟩:=oB h;obtain⟨lb,e3,rfl⟩:=oM h;exact qL3 T.K e1 (ihn.B X C T _ _ e2) (ihn.B X C T _ _ e3)
    |Compare a ops bs pos =>
     obtain⟨op,b,la,lb,rfl,rfl,e2,e3,rfl⟩:=qFA h;exact qL4 T.K T.hu (qC2 (q6P e3)) (ihn.B X C T _ _ e2) (ihn.B X C T _ _ e3)
    |UnaryOp op a pos =>
     cases op with
     |Not =>
      obtain⟨d,e1,rfl⟩:=oM h;exact qIl T.K (ihn.B X C T _ _ e1)
     |USub =>
      obtain⟨d,e1,rfl⟩:=oM h;exact qIf (ihn.E X C T _ _ e1)
     |_=>cases h
    |BoolOp op xs pos=>exact ihn.Bo X C T _ _ _ h _
    |IfExp c a b pos =>
     obtain⟨lc,e1,h⟩:=oB h;obtain⟨la,e2,h⟩:=oB h;obtain⟨lb,e3,rfl⟩:=oM h;exact qIm (ihn.T X C T _ _ e1) (ihn.E X C T _ _ e2) (ihn.E X C T _ _ e3)
    |Tuple xs j pos =>
     obtain⟨d,e1,rfl⟩:=oM h;exact qIn (ihn.Es X C T _ _ e1)
    |List xs pos =>
     obtain⟨d,e1,rfl⟩:=oM h;exact qIo (ihn.Es X C T _ _ e1)
    |Subscript a i pos =>
     have hix:∀i,(cB n C a).bind (λ a=>(cE n C i).map (.idx a))=some l->SE X p G sub (.Subscript a i pos) l:=λ i h=>by obtain⟨la,e1,h⟩:=oB h;obtain⟨li,e2,rfl⟩:=oM h;exact qId T.K T.hu (qJK (q6O e2)) (ihn.B X C T _ _ e1) (ihn.E X C T _ _ e2).b
     cases i with
     |Slice lo hi st p2 =>
      obtain⟨kk,e1,h⟩:=oB h;obtain⟨la,e2,h⟩:=oB h;obtain⟨llo,e3,h⟩:=oB h;obtain⟨lhi,e4,h⟩:=oB h;split at h
      ·rename_i hc;cases h;have so:∀(o:Option PySem.Expr) (ls:List L),cEs n C o.toList=some ls->SO X p G sub o ls:=by
        intro o ls ho;cases o with
        |none=>exact .inl ⟨rfl,q8c ho⟩
        |some e =>
         cases n with
         |zero=>cases ho
         |succ n =>
          obtain⟨l1,l2,g1,g2,rfl⟩:=q3Q ho;rw[q8c g2];exact .inr ⟨e,l1,rfl,rfl,(ih n (Nat.lt_of_lt_of_le (Nat.lt_succ_self n) (Nat.le_succ _))).E X C T _ _ g1⟩
       unfold qEq at e1;split at e1
       ·cases e1;exact qDz T.K (ihn.B X C T _ _ e2) (so _ _ e3) (so _ _ e4)
       ·cases e1
      ·cases h
     |_=>exact hix _ h
    |Call gg args kws pos =>
     cases gg with
     |Name f q =>
      unfold cE at h;dsimp only at h;split at h
      ·rename_i hg;obtain⟨g1,g2⟩:=T.glob hg;split at h
       ·rename_i i hi;split at h
        ·rename_i hne;obtain⟨hk0,hne⟩:=hne;obtain⟨ls,e1,rfl⟩:=oM h;obtain⟨fa,fd,ps,F,hm,hk,hb,hlen⟩:=T.funs i f (q1t hi);have SAs:=ihn.Es X C T _ _ e1;cases List.isEmpty_iff.mp hk0;cases args with
         |nil=>exact absurd rfl hne
         |cons a r =>
          have oks:∀x∈a::r,okE x=true:=q9f e1;exact qE2 F (T.room.mono (Nat.le_add_right _ _)) g1 hm hk hb SAs hlen g2 (q0x (oks a (List.mem_cons_self ..))) (q7T λ x hx=>oks x (List.mem_cons_of_mem _ hx))
        ·cases h
       ·rename_i hi;split at h
        ·rename_i hk0;cases List.isEmpty_iff.mp hk0;exact ihn.Call X C T f args l h hg hi q pos
        ·split at h
         ·rename_i hf;obtain⟨a,ha,h1⟩:=oB h;clear h;cases q0v ha;split at h1
          ·rename_i hrv;obtain⟨la,e1,rfl⟩:=oM h1;subst hf;obtain⟨k1,q2,q3,rfl⟩:=qDI hrv;exact qGb T.K T.calm T.hu g1 (T.blt _ qGc) (ihn.B X C T _ _ e1) (q0x (q6P e1))
          ·cases h1
         ·cases h
      ·cases h
     |Attribute o m ap =>
      unfold cE at h;dsimp only at h;split at h
      ·rename_i hline;obtain⟨hk0,hline⟩:=hline;cases List.isEmpty_iff.mp hk0;obtain⟨lo,e1,h1⟩:=oB h;clear h;split at h1
       ·rename_i ha0;cases List.isEmpty_iff.mp ha0;split at h1
        ·rename_i hm;cases h1;subst hm;exact qGa (q8a (q6P e1)) hline (ihn.B X C T _ _ e1)
        ·cases h1
       ·obtain⟨y,hy,h⟩:=oB h1;clear h1;cases q0v hy;cases y with
        |Constant c j q =>
         obtain⟨d,e2,h1⟩:=oB h;clear h;have h:=h1;clear h1;split at h
         ·rename_i hm;cases h;subst hm;exact qDx T.K T.hu e2 (q8a (q6P e1)) hline (ihn.B X C T _ _ e1)
         ·split at h
          ·rename_i hm;cases h;subst hm;exact qDy T.K T.hu e2 (q8a (q6P e1)) hline (ihn.B X C T _ _ e1)
          ·cases h
        |_=>cases h
      ·cases h
     |_=>cases h
    |ListComp elt gs sc pos =>
     obtain⟨tg,it,ifs,kk,ts,li,le,lc,rfl,htg,e1,e2,e3,hsc1,hsc2,rfl⟩:=q5d h;obtain⟨S,ndN,hloc,inner⟩:=T.inner hsc1;obtain⟨fr,hi⟩:=(ihn.I X C T _ _ e1 tg).1;refine qGL T.calm S hi (λ s2 H2 cl C' fp=>ihn.E _ _ (inner s2 H2 cl C' fp) _ _ e2) (λ s2 H2 cl C' fp=>q7U (λ m hm X C T e t h=>(ih m (Nat.lt_succ_of_lt hm)).T X C T e t h) (inner s2 H2 cl C' fp) e3 hsc2) (λ s2 H2 cl C' fp=>?_) (q8Z (qGd e1));have rl:∀x∈ts,(cxC X s2 H2 sc cl C' (inN ts X.N) fp).env.scope.names.lookup x=some .local:=λ x hx=>by show (relabel sc X.env).names.lookup x=_;rw[q0M,hloc x hx];rfl
     exact q7V T.K T.calm ndN rl htg
    |_=>cases h
   have hB:∀(X:Cx) (C:Ct),CtOk k X C p G sub->∀e l,cB (n+1) C e=some l->SB X p G sub e l:=by
    intro X C T e l h;unfold cB at h;split at h
    ·rename_i x q;split at h
     ·rename_i hv;obtain⟨i,e1,rfl⟩:=oM h;obtain⟨v1,v2,v3⟩:=T.vis hv.1;exact qF1 (T.at e1) v1 v2 v3
     ·exact (ihn.E X C T _ _ h).b
    ·exact (ihn.E X C T _ _ h).b
   refine⟨hE,hB,λ X C T es ls h=>?_,λ X C T op xs l h pos=>?_,λ X C T e t h=>?_,λ X C T op xs t h pos=>?_,λ X C T e i h tg=>?_,λ X C T f args l h hg hi q pos=>?_⟩
   ·cases es with
    |nil=>cases h;exact qF2
    |cons e es =>
     obtain⟨a,l,g1,g2,rfl⟩:=q3Q h;exact qBd (ihn.E X C T _ _ g1) (ihn.Es X C T _ _ g2) (q0x (q6O g1))
   ·cases xs with
    |nil=>cases h
    |cons a r =>
     cases r with
     |nil =>
      exact qIj (ihn.E X C T _ _ h)
     |cons b r =>
      obtain⟨la,g1,h⟩:=oB h;obtain⟨lb,g2,rfl⟩:=oM h;cases op with
      |And=>exact qIk (ihn.E X C T _ _ g1) (ihn.Bo X C T _ _ _ g2 _)
      |Or=>exact qL7 (ihn.E X C T _ _ g1) (ihn.Bo X C T _ _ _ g2 _)
   ·unfold cT at h;split at h
    ·exact ihn.To X C T _ _ _ h _
    ·obtain⟨a,e1,rfl⟩:=oM h;exact qIg (ihn.T X C T _ _ e1)
    ·cases h
    ·rename_i x1 x2 x3;obtain⟨a,e1,rfl⟩:=oM h
     by_cases hcmp:∃l0 ops cs q0,e = .Compare l0 ops cs q0
     ·obtain⟨l0,ops,cs,q0,rfl⟩:=hcmp;obtain⟨m,op,b,la,lb,hm,rfl,rfl,g1,g2,rfl⟩:=qJV e1;exact qL5 T.K T.hu (qC2 (q6P g2)) ((ih m (by lia)).B X C T _ _ g1) ((ih m (by lia)).B X C T _ _ g2)
     ·have pt:plainT e=true:=by
       cases e<;>first|rfl|skip
       ·exact absurd rfl (x1 _ _ _)
       ·rename_i op a q;cases op<;>first|rfl|exact absurd rfl (x2 _ _)
       ·exact absurd rfl (x3 _ _ _ _)
       ·exact absurd ⟨_,_,_,_,rfl⟩ hcmp
      exact st_e T.K (qE3 pt) (qGe pt) (ihn.B X C T _ _ e1)
   ·cases xs with
    |nil=>cases h
    |cons a r =>
     cases r with
     |nil =>
      cases op with
      |And=>exact qG9 (ihn.T X C T _ _ h)
      |Or=>exact qIh (ihn.T X C T _ _ h)
     |cons b r =>
      obtain⟨la,g1,h⟩:=oB h;obtain⟨lb,g2,rfl⟩:=oM h;cases op with
      |And=>exact qIi (ihn.T X C T _ _ g1) (ihn.To X C T _ _ _ g2 _)
      |Or=>exact qL6 (ihn.T X C T _ _ g1) (ihn.To X C T _ _ _ g2 _)
   ·have plain:(cE n C e).map I.e=some i->(∃fr,SI X p G sub fr tg e i)/\(C.q8G e=false->SI X p G sub true tg e i):=λ h=>by obtain⟨l,e1,rfl⟩:=oM h;exact⟨⟨true,si_e T.K (ihn.E X C T _ _ e1)⟩,λ _=>si_e T.K (ihn.E X C T _ _ e1)⟩
    unfold cI at h;split at h
    ·rename_i args hr;obtain⟨q,pos,rfl,hg⟩:=q9e hr;obtain⟨g1,g2⟩:=T.glob hg;have hm:=T.blt _ qJP;split at h
     ·obtain⟨ls,e1,rfl⟩:=oM h;have SAs:=ihn.Es X C T _ _ e1;have oks:=q9f e1;cases args with
      |nil=>rename_i z;exact absurd z (by decide)
      |cons a r =>
       have s1:=q0x (es:=r) (env:=X.env) (oks a (List.mem_cons_self ..));cases r with
       |nil =>
        obtain⟨la,rfl⟩:=qC4 e1;exact⟨⟨true,q4o g1 hm SAs s1⟩,λ _=>q4o g1 hm SAs s1⟩
       |cons b r =>
        cases r with
        |nil =>
         obtain⟨la,lb,rfl⟩:=qC5 e1;have s2:starEach [b] X.env=[(false,eval b X.env)]:=q0x (oks b (List.mem_cons_of_mem _ (List.mem_cons_self ..)));rw[s2] at s1;exact⟨⟨true,q7E g1 hm SAs s1 s2⟩,λ _=>q7E g1 hm SAs s1 s2⟩
        |cons _ _=>rename_i z;exact z.elim (λ z=>nomatch z) λ z=>nomatch z
     ·cases h
    ·split at h
     ·rename_i x hx;obtain⟨q,rfl⟩:=q0I hx;split at h
      ·rename_i hv;obtain⟨i,e1,rfl⟩:=oM h;obtain⟨v1,v2,v3⟩:=T.vis hv.1;refine⟨⟨false,si_b T.K (T.at e1) v1 v2 v3⟩,λ hmu=>?_⟩;exact absurd hv.2 (of_decide_eq_false hmu)
      ·exact plain h
     ·exact plain h
   ·obtain⟨gf,gd⟩:=T.glob hg;have one:∀a l,((bi1 f).bind λ b=>(cB n C a).map λ a=>L.bi b [a])=some l->SE X p G sub (.Call (.Name f q) [a] [] pos) l:=by intro a l h;obtain⟨b,g1,h⟩:=oB h;obtain⟨la,g2,rfl⟩:=oM h;exact qC6 T g1 gf gd (ihn.B X C T _ _ g2) (q0x (q6P g2))
    cases args with
    |nil=>cases h
    |cons y r =>
     cases r with
     |nil =>
      unfold qDK at h;dsimp only at h;split at h
      ·rename_i g a hy;obtain⟨q2,q3,rfl⟩:=q3i hy;split at h
       ·rename_i hf;obtain⟨rfl,rfl,hgs,hfs⟩:=hf;obtain⟨la,e1,rfl⟩:=oM h;exact hset X p G sub a la q q2 q3 pos T.K T.calm T.hu (T.blt _ qGc) (T.blt _ qJQ) (ihn.B X C T _ _ e1) (q6P e1) gf (T.glob hgs).1
       ·exact one _ _ h
      ·exact one _ _ h
     |cons y2 r =>
      cases r with
      |nil =>
       unfold qDK at h;dsimp only at h;split at h
       ·rename_i hf;subst hf;obtain⟨c,hc,h⟩:=oB h;obtain⟨la,g1,h⟩:=oB h;obtain⟨b,g2,rfl⟩:=oM h;obtain⟨q2,rfl⟩:=q0I hc;exact qAQ T g2 gf (ihn.B X C T _ _ g1) (by rw[q0x (q6P g1)];rfl)
       ·obtain⟨b,g1,h⟩:=oB h;obtain⟨ls,g2,rfl⟩:=oM h;obtain⟨la,lb,rfl⟩:=qC5 g2;have oks:=q9f g2;have s2:starEach [y2] X.env=[(false,eval y2 X.env)]:=q0x (oks y2 (List.mem_cons_of_mem _ (List.mem_cons_self ..)));have s1:=q0x (es:=[y2]) (env:=X.env) (oks y (List.mem_cons_self ..));rw[s2] at s1;unfold bi2 at g1;split at g1
        ·rename_i e;cases g1;subst e;exact qJL (λ E=>qAt (X:=X.wish E) T.calm) (λ _ _=>rfl) gf (T.blt _ qJS) boot_min (by decide) gd (ihn.Es X C T _ _ g2) s1 s2
        split at g1
        ·rename_i e;cases g1;subst e;exact qJL (λ E=>qAs (X:=X.wish E) T.calm) (λ _ _=>rfl) gf (T.blt _ qJT) boot_max (by decide) gd (ihn.Es X C T _ _ g2) s1 s2
        ·cases g1
      |cons _ _=>cases h
end
end Snd
namespace Snd
open PySem PySem.Spec PySem.W PyProof.Rows L2 Ev
variable {v e:PySem.Expr}{ln:Nat}{env:PySem.Env}{l:Ev.S}{x:Str}{xp pos:Pos}
section
variable {k n:Nat}{X:Cx}{C:Ct}{p:Pm}{G:Nat->List D->R D}{sub:Nat->Nat->Bool}
structure BdOk (X:Cx):Prop where
 top:Top X
 fn:∀x,X.fn x=true
 kf:X.env.scope.kind = .function
theorem BdOk.bk (b:BdOk X):X.env.blockKind = .function:=by unfold Env.blockKind;rw[b.kf];rfl
theorem q6Q {tg:Option PySem.Expr}(h:∀e g s q,v ≠ .ListComp e g s q) (h1:∀e g s q,v ≠ .SetComp e g s q) (h2:∀e w g s q,v ≠ .DictComp e w g s q):swapsWith v tg ln env=pure false:=by
 cases v<;>first
  |rfl
  |exact absurd rfl (h _ _ _ _)
  |exact absurd rfl (h1 _ _ _ _)
  |exact absurd rfl (h2 _ _ _ _ _)
theorem q2d {n:Nat}{C:Ct}{l:L}(h:cE n C v=some l):(∀e g s q,v ≠ .SetComp e g s q)/\∀e w g s q,v ≠ .DictComp e w g s q:=by
 cases n with
 |zero=>cases h
 |succ n=>exact⟨λ e g s q z=>(by subst z;cases h),λ e w g s q z=>(by subst z;cases h)⟩
theorem qGf {q:Pos}{n:Nat}{C:Ct}{l:L}(h:cE n C v=some l):swapsWith v (some (.Name x q)) ln env=pure false\/∃e g s q',v = .ListComp e g s q'/\swapsWith v (some (.Name x q)) ln env=pure true:=by
 by_cases hc:∃e g s q,v = .ListComp e g s q
 ·obtain⟨e,g,s,q',rfl⟩:=hc;have hp:∃b,swapsWith (.ListComp e g s q') (some (.Name x q)) ln env=pure b:=⟨_,rfl⟩
  obtain⟨b,hb⟩:=hp;cases b with
  |false=>exact .inl hb
  |true=>exact .inr ⟨e,g,s,q',rfl,hb⟩
 ·exact .inl (q6Q (λ e g s q z=>hc ⟨e,g,s,q,z⟩) (q2d h).1 (q2d h).2)
theorem qJW {ts:PySem.Expr}{n:Nat}{C:Ct}{l:L}(h:cE n C v=some l) (ht:∀t q,ts ≠ .Name t q):swapsWith v (some ts) ln env=pure false:=by
 by_cases hc:∃e g s q,v = .ListComp e g s q
 ·obtain⟨e,g,s,q',rfl⟩:=hc;cases ts<;>first|rfl|exact absurd rfl (ht _ _)
 ·exact q6Q (λ e g s q z=>hc ⟨e,g,s,q,z⟩) (q2d h).1 (q2d h).2
theorem q6R (h:qDL e=true):∃y:Str,JP X e y/\y.length<=1000:=by
 cases e<;>first
  |(cases h;done)
  |skip
 rename_i c j q;cases c<;>first
  |(cases h;done)
  |exact⟨_,qJ5,of_decide_eq_true h⟩
theorem qE4 (T:CtOk k X C p G sub) (h:C.qFp e=true):∃y:Str,JP X e y/\y.length<=1000:=by
 unfold Ct.qFp at h;split at h
 ·rw[Bool.and_eq_true,Bool.and_eq_true,decide_eq_true_eq,Option.isNone_iff_eq_none] at h;obtain⟨⟨rfl,rfl⟩,h⟩:=h;split at h
  ·rename_i y hy;obtain⟨q,rfl⟩:=q0I hy;rw[Bool.and_eq_true] at h;obtain⟨h1,h3⟩:=h;obtain⟨g1,g2⟩:=T.glob h1;split at h3
   ·rename_i a e1;rw[Bool.and_eq_true,decide_eq_true_eq,decide_eq_true_eq] at h3;obtain⟨a',t,ea,hm⟩:=T.consts _ _ e1;cases ea;exact⟨_,qJ6 g1 hm g2 h3.1,h3.2⟩
   ·cases h3
  ·cases h
 ·cases h
theorem q3R (x:Str):(Str.empty++x).length=x.length:=by rw[q0e];show 0+x.length=_;omega
theorem qE5 (T:CtOk k X C p G sub) (h:C.qDM e=true):SM X e:=by
 have big:(3000:Nat)<=sizeLine:=by rw[sizeLine_eq];decide
 unfold Ct.qDM at h;split at h
 ·split at h
  ·rename_i a b r;rw[Bool.and_eq_true,Bool.and_eq_true] at h;obtain⟨x,j1,l1⟩:=q6R (X:=X) h.1.1;obtain⟨y,j2,l2⟩:=qE4 T h.1.2;have h3:=h.2;split at h3
   ·exact qJ7 j1 j2 (by rw[q3R];lia) (by rw[q0e,q3R];lia)
   ·obtain⟨z,j3,l3⟩:=q6R (X:=X) h3;exact qDp j1 j2 j3 (by rw[q3R];lia) (by rw[q0e,q3R];lia) (by rw[q0e,q0e,q3R];lia)
   ·cases h3
  ·cases h
 ·obtain⟨x,j1,l1⟩:=q6R (X:=X) h;exact λ E pins σ H s I=>wpAny_mono (j1 E pins σ H s I) (λ _ _ h=>h.2) λ _ _ z=>z
theorem qE6 (h:C.qDM e=true):okE e=true:=by cases e<;>first|rfl|(cases h;done)
structure SoS (k:Nat) (p:Pm) (G:Nat->List D->R D) (sub:Nat->Nat->Bool) (n:Nat):Prop where
 S:∀(X:Cx) (C:Ct),CtOk k X C p G sub->BdOk X->∀s l,cS n C s=some l->SS X p G sub s l
 Ss:∀(X:Cx) (C:Ct),CtOk k X C p G sub->BdOk X->∀s l,cSs n C s=some l->SSs X p G sub s l
theorem q3S (so:SoE k p G sub n) (so':∀m,SoE k p G sub m) (T:CtOk k X C p G sub) (B:BdOk X) {i:Nat}(hl:C.loc x=some i) (h:(cE n C v).map (S.set i)=some l):SS X p G sub (.Assign [.Name x xp] v pos) l:=by
 have hN:X.N.Nodup:=by rw[T.N];exact T.nd
 obtain⟨l1,l2⟩:=T.loc hl;have hf:X.fn x=true\/X.env.scope.names.lookup x=some .local:= .inl (B.fn _);obtain⟨lv,e1,rfl⟩:=oM h;rcases qGf (x:=x) (q:=xp) (ln:=pos.line) (env:=X.env) e1 with z|⟨el,gs,sc,q',rfl,z⟩
 ·exact qIt hN l2 l1 hf (so.E X C T _ _ e1) z
 ·cases n with
  |zero=>cases e1
  |succ m =>
   obtain⟨tg,it,ifs,kk,ts,li,le,lc,rfl,htg,c1,c2,c3,hsc,hlen,rfl⟩:=q5d e1;obtain⟨S,ndN,hloc,inner⟩:=T.inner hsc;obtain⟨fr,hi⟩:=((so' m).I X C T _ _ c1 tg).1;refine qGM T.calm S hi (λ s2 H2 cl C' fp=>(so' m).E _ _ (inner s2 H2 cl C' fp) _ _ c2) (λ s2 H2 cl C' fp=>q7U (λ m' _ X C T e t h=>(so' m').T X C T e t h) (inner s2 H2 cl C' fp) c3 hlen) (λ s2 H2 cl C' fp=>?_) (q8Z (qGd c1)) hN l2 l1 hf z;have rl:∀x∈ts,(cxC X s2 H2 sc cl C' (inN ts X.N) fp).env.scope.names.lookup x=some .local:=λ x hx=>by show (relabel sc X.env).names.lookup x=_;rw[q0M,hloc x hx];rfl
   exact q7V T.K T.calm ndN rl htg
theorem qE7 (so:SoE k p G sub n) (T:CtOk k X C p G sub) (B:BdOk X) {i:Nat}(hl:C.loc x=some i) (h:qFq C (cE n C) x xp i v=some l):SS X p G sub (.Assign [.Name x xp] v pos) l:=by
 have hN:X.N.Nodup:=by rw[T.N];exact T.nd
 obtain⟨l1,l2⟩:=T.loc hl;obtain⟨⟨t,g,a,sc,vp⟩,hd,h1⟩:=oB h;obtain⟨q1,q2,q3,q4,rfl⟩:=qBA hd;dsimp only at h1;split at h1
 ·rename_i hc;obtain⟨rfl,hgl,hfn,hmu,hsc,hkl,hline,hany⟩:=hc;obtain⟨la,e1,rfl⟩:=oM h1;obtain⟨S,ndN,hloc,inner⟩:=T.inner hsc;obtain⟨g1,g2⟩:=T.glob hgl;have kx:X.env.kindOf x=some .local:=by
   have kk:=T.kinds x;rw[hkl] at kk;rcases kk with z|⟨z,_⟩
   ·exact z.symm
   ·cases z
  refine qGW T.calm S g1 (T.blt _ qJP) (so.E X C T _ _ e1) (q0x (q6O e1)) ndN (hloc t (List.mem_cons_self ..)) hN l2 l1 (.inl (B.fn _)) ?_;show (pure _:Sem Bool)=pure true;congr 1;rw[B.bk];have k2:(X.env.kindOf x==some .local)=true:=by rw[kx];rfl
  rw[k2];have hl':(xp.line==(PySem.Expr.ListComp (.List [] q1) [⟨.Name t q2,.Call (.Name (Str.ofString "range") q3) [a] [] q4,[],0⟩] sc vp).pos.line)=true:=hline;rw[hl',hany];rfl
 ·cases h1
theorem qE8 (so:SoE k p G sub n) (so':∀m,SoE k p G sub m) (T:CtOk k X C p G sub) (B:BdOk X) (h0:cAsg C (cE n C) (cEs n C) [.Name x xp] v=some l):SS X p G sub (.Assign [.Name x xp] v pos) l:=by
 have hN:X.N.Nodup:=by rw[T.N];exact T.nd
 obtain⟨i,hl,h⟩:=oB (show ((C.loc x).bind λ i=>if x∈C.deep then qFq C (cE n C) x xp i v else if x∈C.muts then qIG (cE n C) (cEs n C) i v else qFr C (cE n C) i v)=some l from h0);obtain⟨l1,l2⟩:=T.loc hl;have hf:X.fn x=true\/X.env.scope.names.lookup x=some .local:= .inl (B.fn _);split at h
 ·exact qE7 so T B hl h
 split at h
 ·cases v with
  |List xs q =>
   obtain⟨ls,e1,rfl⟩:=oM h;exact qGU hN l2 l1 hf (so.Es X C T _ _ e1)
  |Dict ks ws q =>
   obtain⟨k1,a1,h⟩:=oB h;obtain⟨k2,a2,h⟩:=oB h;obtain⟨w,a3,h⟩:=oB h;obtain⟨lk,e1,h⟩:=oB h;obtain⟨lw,e2,rfl⟩:=oM h;rw[q0v a1,q0v a3,a2];exact qGV hN l2 l1 hf (so.E X C T _ _ e1) (so.E X C T _ _ e2)
  |_=>cases h
 ·unfold qFr at h;split at h
  ·rename_i o m as ap cp hv;cases q75 hv;split at h
   ·rename_i y hy;obtain⟨q,rfl⟩:=q0I hy;split at h
    ·rename_i hm;split at h
     ·rename_i hc;rw[Bool.and_eq_true,Bool.and_eq_true] at hc;cases List.isEmpty_iff.mp hc.1.1;obtain⟨j,e1,rfl⟩:=oM h;obtain⟨m1,m2⟩:=T.loc e1;obtain⟨d1,d2⟩:=q1S hc.2;obtain⟨_,rfl⟩:=hm;exact qJG hN l2 l1 hf m2 (m1.elim .inl λ z=> .inr (.inl z)) d1 d2 hc.1.2
     ·cases h
    ·exact q3S so so' T B hl h
   ·exact q3S so so' T B hl h
  ·split at h
   ·rename_i y hy;obtain⟨q,rfl⟩:=q0I hy;split at h
    ·cases h
    ·exact q3S so so' T B hl h
   ·exact q3S so so' T B hl h
theorem qJX (so:SoE k p G sub n) (so':∀m,SoE k p G sub m) (T:CtOk k X C p G sub) (B:BdOk X) {ts:List PySem.Expr}(h:cAsg C (cE n C) (cEs n C) ts v=some l):SS X p G sub (.Assign ts v pos) l:=by
 have hN:X.N.Nodup:=by rw[T.N];exact T.nd
 obtain⟨t,ht,h1⟩:=oB h;cases q0v ht;cases t with
 |Name x xp=>exact qE8 so so' T B h
 |Subscript o k q =>
  obtain⟨x,a2,h1⟩:=oB h1;obtain⟨px,n1⟩:=q0I a2;rw[n1];split at h1
  ·rename_i hc;obtain⟨i,e1,h1⟩:=oB h1;obtain⟨lk,e2,h1⟩:=oB h1;obtain⟨lv,e3,rfl⟩:=oM h1;obtain⟨l1,l2⟩:=T.loc e1;obtain⟨d1,d2⟩:=q1S hc.2;exact qJI T.hu l2 (l1.elim .inl λ z=> .inr (.inl z)) d1 d2 (so.E X C T _ _ e2) (so.E X C T _ _ e3) (qJW e3 (λ _ _ z=>by cases z))
  ·cases h1
 |_=>cases h1
theorem qJY (so:SoE k p G sub n) (T:CtOk k X C p G sub) (h:cExp C (cE n C) e=some l):SS X p G sub (.Expr e pos) l:=by
 unfold cExp at h;split at h
 ·rename_i hs;cases h;unfold qEr at hs;split at hs
  ·split at hs
   ·exact qIq
   ·cases hs
  ·cases hs
 split at h
 ·rename_i o m as ap cp hv;cases q75 hv;unfold qIH at h;split at h
  ·split at h
   ·rename_i hc;obtain⟨a,a1,h1⟩:=oB h;clear h;cases q0v a1;obtain⟨i,e1,h1⟩:=oB h1;obtain⟨la,e2,rfl⟩:=oM h1;obtain⟨_,hline,hnm,rfl⟩:=hc;obtain⟨l1,l2⟩:=T.loc e1;obtain⟨d1,d2⟩:=q1S hnm;exact qJF l2 (l1.elim .inl λ z=> .inr (.inl z)) d1 d2 (so.E X C T _ _ e2) (q0x (q6O e2)) hline
   ·cases h
  ·obtain⟨x,a2,h2⟩:=oB h;clear h;obtain⟨px,rfl⟩:=q0I a2;split at h2
   ·rename_i hc;obtain⟨a,a1,h1⟩:=oB h2;clear h2;cases q0v a1;obtain⟨i,e1,h1⟩:=oB h1;obtain⟨lk,e2,h1⟩:=oB h1;obtain⟨la,e3,rfl⟩:=oM h1;obtain⟨hline,hnm,_,_,rfl⟩:=hc;obtain⟨l1,l2⟩:=T.loc e1;obtain⟨d1,d2⟩:=q1S hnm;exact qGX l2 (l1.elim .inl λ z=> .inr (.inl z)) d1 d2 (so.E X C T _ _ e2) (qJK (q6O e2)) (so.E X C T _ _ e3) (q0x (q6O e3)) hline
   ·cases h2
  ·cases h
 split at h
 ·cases h
 ·rename_i hx;obtain⟨le,e1,rfl⟩:=oM h;exact qGE (so.E X C T _ _ e1) (q6Q (λ e g s q z=>hx (by rw[z];rfl)) (q2d e1).1 (q2d e1).2)
theorem qJZ (T:CtOk k X C p G sub) (B:BdOk X) (ihn:∀s l,cSs n C s=some l->SSs X p G sub s l) {body oe fb:List PySem.Stmt}{hs:List ExceptHandler}(h:cTry C (cSs n C) body hs oe fb=some l):SS X p G sub (.Try body hs oe fb pos) l:=by
 have hN:X.N.Nodup:=by rw[T.N];exact T.nd
 unfold cTry at h;split at h
 ·rename_i hc;cases List.isEmpty_iff.mp hc.1;cases List.isEmpty_iff.mp hc.2;obtain⟨hd,a1,h1⟩:=oB h;clear h;cases q0v a1;obtain⟨⟨c,i,j⟩,a2,h1⟩:=oB h1;obtain⟨lb,e4,rfl⟩:=oM h1;obtain⟨ty,nm,b,q⟩:=hd;obtain⟨ty',b1,h⟩:=oB a2;obtain⟨cn,b2,h⟩:=oB h;obtain⟨x,b3,h⟩:=oB h;obtain⟨st,b4,h⟩:=oB h;obtain⟨⟨y,x'⟩,b5,h⟩:=oB h;obtain⟨q1,n1⟩:=q0I b2;obtain⟨q2,q3,q4,n2⟩:=qFs b5;dsimp only at h n2;split at h
  ·rename_i hc;obtain⟨hg,hnm,_,_,rfl,hxy,hkl⟩:=hc;obtain⟨c',e1,h⟩:=oB h;obtain⟨i',e2,h⟩:=oB h;obtain⟨j',e3,h⟩:=oM h;cases h;rw[b1,b3,q0v b4,n1,n2];obtain⟨g1,g2⟩:=T.glob hg;obtain⟨Cc,hc1,hc2⟩:=T.excs c _ (q1t e1);obtain⟨l1,l2⟩:=T.loc e2;obtain⟨l3,l4⟩:=T.loc e3;obtain⟨d1,d2⟩:=q1S hnm;refine qJ8 B.top hN l2 ?_ l4 l3 (.inl (B.fn _)) hxy g1 hc2.bound (λ e Ce he=>(T.exm e c Ce Cc he hc1).1) g2 d1 d2 (ihn _ _ e4);rcases T.kinds _ with z|⟨z,_⟩
   ·exact z.symm.trans hkl
   ·rw[hkl] at z;cases z
  ·cases h
 ·cases h
theorem qJa (hset:SSet):∀n,SoS k p G sub n:=by
 intro n;have so:=λ n=>sound (k:=k) (p:=p) (G:=G) (sub:=sub) hset n
 induction n with
 |zero=>exact⟨λ X C T B s l h=>(by cases h),λ X C T B s l h=>(by cases h)⟩
 |succ n ihn =>
  refine⟨λ X C T B st l h=>?_,λ X C T B sts l h=>?_⟩
  ·have hN:X.N.Nodup:=(by rw[T.N];exact T.nd);cases st with
   |Assign ts v pos=>exact qJX (so n) so T B h
   |AugAssign tg0 op v pos =>
    obtain⟨x,a1,h⟩:=oB h;obtain⟨q,n1⟩:=q0I a1;rw[n1];split at h
    ·cases h
    ·obtain⟨i,e1,h⟩:=oB h;obtain⟨o,e2,h⟩:=oB h;obtain⟨lv,e3,rfl⟩:=oM h;obtain⟨l1,l2⟩:=T.loc e1;exact qJH hN l2 l1 (.inl (B.fn _)) e2 ((so n).E X C T _ _ e3)
   |Expr e pos=>exact qJY (so n) T h
   |If c0 a0 b0 pos =>
    obtain⟨c,e1,h⟩:=oB h;obtain⟨a,e2,h⟩:=oB h;obtain⟨b,e3,rfl⟩:=oM h;exact qIs ((so n).T X C T _ _ e1) (ihn.Ss X C T B _ _ e2) (ihn.Ss X C T B _ _ e3)
   |For tg0 it0 body0 oe pos =>
    unfold cS at h;dsimp only at h;split at h
    ·rename_i hc;cases List.isEmpty_iff.mp hc.1;obtain⟨x,hx,h⟩:=oB h;obtain⟨li,c1,h⟩:=oB h;obtain⟨lb,c2,h⟩:=oB h;obtain⟨i,hl,h⟩:=oB h;obtain⟨q,n1⟩:=q0I hx;split at h
     ·cases h
     ·cases h;obtain⟨l1,l2⟩:=T.loc hl;rw[n1];exact qIx T.calm (((so n).I X C T _ _ c1 _).2 (Bool.eq_false_iff.mpr hc.2)) (qGI hN l2 l1 (.inl (B.fn _))) (ihn.Ss X C T B _ _ c2) (q8Z (qGd c1))
    ·cases h
   |While c0 body0 oe pos =>
    unfold cS at h;dsimp only at h;split at h
    ·rename_i hc;cases List.isEmpty_iff.mp hc;obtain⟨c,e1,h⟩:=oB h;obtain⟨b,e2,rfl⟩:=oM h;exact qIu ((so n).T X C T _ _ e1) (ihn.Ss X C T B _ _ e2)
    ·cases h
   |Return r0 pos =>
    have plain:∀e,(cE n C e).map S.ret=some l->SS X p G sub (.Return (some e) pos) l:=λ e h=>by obtain⟨le,e1,rfl⟩:=oM h;exact qIr ((so n).E X C T _ _ e1)
    cases r0 with
    |none=>cases h;exact qGF
    |some e =>
     unfold cS cRet at h;dsimp only at h;split at h
     ·rename_i x hx;obtain⟨q,rfl⟩:=q0I hx;split at h
      ·obtain⟨i,e1,rfl⟩:=oM h;obtain⟨l1,l2⟩:=T.loc e1;obtain⟨d1,d2⟩:=qE0 e1;exact qGZ l2 (l1.elim .inl λ z=> .inr (.inl z)) d1 d2
      ·exact plain _ h
     ·exact plain _ h
   |Break=>cases h;exact qIp
   |Continue=>cases h;exact qGD
   |Pass=>cases h;exact qGC
   |Raise a0 b0 pos =>
    obtain⟨e,a1,h⟩:=oB h;split at h
    ·rename_i hb;obtain⟨⟨cn,m⟩,a2,h⟩:=oB h;obtain⟨q,q2,n1⟩:=q3i a2;rw[a1,Option.isNone_iff_eq_none.mp hb,n1];dsimp only at h;split at h
     ·rename_i hc;obtain⟨c,e1,rfl⟩:=oM h;obtain⟨g1,g2⟩:=T.glob hc.1;obtain⟨Cc,hc1,hc2⟩:=T.excs c _ (q1t e1);exact qDq T.calm g1 hc2 PySem.F.excBase_ValueError hc1 (qE5 T hc.2) g2 (q0x (qE6 hc.2))
     ·cases h
    ·cases h
   |Try a0 b0 c0 d0 pos=>exact qJZ T B (λ s l h=>ihn.Ss X C T B s l h) h
   |_=>cases h
  ·cases sts with
   |nil=>cases h;exact qGB
   |cons s r =>
    obtain⟨a,g1,h⟩:=oB h;obtain⟨l',g2,rfl⟩:=oM h;exact qDf (ihn.S X C T B _ _ g1) (ihn.Ss X C T B _ _ g2)
end
end Snd
namespace Snd
open PySem PySem.Spec PySem.W PyProof.Rows L2 Ev
variable {α:Type}{x:Str}
theorem qLC:∀{us:List α},us.length=1->∃a,us=[a]
 |[a],_=>⟨a,rfl⟩
theorem qLD:∀{us:List α},us.length=2->∃a b,us=[a,b]
 |[a,b],_=>⟨a,b,rfl⟩
theorem qLE:∀{us:List α},us.length=3->∃a b c,us=[a,b,c]
 |[a,b,c],_=>⟨a,b,c,rfl⟩
theorem qLF:∀{us:List α},us.length=4->∃a b c d,us=[a,b,c,d]
 |[a,b,c,d],_=>⟨a,b,c,d,rfl⟩
structure DefI where
 name:Str
 st:Stmt
 N:List Str
 ps:List Str
 muts:List Str
 deep:List Str
 l:List Ev.S
structure TxtI where
 ds:List DefI
 consts:List (Str×D)
 excs:List Str
 sub:Nat->Nat->Bool
def TxtI.ct (t:TxtI) (d:DefI):Ct:={N:=d.N,kinds:=(q1q d.st).names,funs:=t.ds.map (·.name),consts:=t.consts,excs:=t.excs,muts:=d.muts,fresh:=[],deep:=d.deep}
def Gk (t:TxtI):Nat->Nat->List D->R D
 |0,_,_=> .stuck
 |n+1,f,xs=>match t.ds[f]? with
  |some d=>if xs.length=d.ps.length then Ev.run (Gk t n) t.sub d.N.length d.l xs else .stuck
  |none=> .stuck
structure DefOk (t:TxtI) (d:DefI):Prop where
 sc:FnScope d.N d.ps (q1q d.st)
 cs:cSs 60 (t.ct d) (q2t d.st)=some d.l
 bd:∀(kV doc pm:Value) (an:Option Addr) (cdv ct:Value) (us:List Value),us.length=d.ps.length->bindArgs (PySem.W.fnOf d.name d.name (q3h d.st) (q2t d.st) (q1q d.st) .none kV doc pm an cdv ct) ⟨us,[]⟩=pure (d.ps.zip us)
def FnIn (K:PySem.W.Frag) (x:Str) (st:Stmt):Prop:=∃f fd,nsIn K mainGlobals x=some (some (.ref f))/\Fun K x x st f fd
theorem qGg {K:PySem.W.Frag}{st:Stmt}{f:Addr}{oc:Value}{od an:Option Addr}{osl:Array (Option Value)}{kV doc pm cdv ct:Value}(a:nsIn K mainGlobals x=some (some (.ref f)))
  (l:K.lookup f=some ⟨oc,od,.func (PySem.W.fnOf x x (q3h st) (q2t st) (q1q st) .none kV doc pm an cdv ct),osl⟩) (c:PySem.W.codeIn K cdv x=true) (k:PySem.W.keepIn K (.ref f)=true):FnIn K x st:=⟨f,_,a,qI8 l c k⟩
structure ExcI (K:PySem.W.Frag) (x:Str) (C:Addr):Prop where
 at_:nsIn K mainGlobals x=some (some (.ref C))
 exc:excIn K C qC3 "ValueError.__new__" = true
 ok:ExOk K C
 val:kitOne K (.ref C) (.type "ValueError")=some true
structure TxtOk (K:PySem.W.Frag) (t:TxtI) (p:Pm):Prop where
 pk:p.K=K
 def_:∀(j:Nat) (d:DefI),t.ds[j]? = some d->DefOk t d/\FnIn K d.name d.st
 blt:∀x∈q07,nsIn K mainGlobals x=some none
 con:∀(x:Str) (d:D),t.consts.lookup x=some d->∃a tk,d = .int a/\nsIn K mainGlobals x=some (some (.int a tk))
 exc:∀(c:Nat) (x:Str),t.excs[c]? = some x->∃C,p.cls[c]? = some C/\ExcI K x C
 cls:∀(c:Nat) (C:Addr),p.cls[c]? = some C->∃x,t.excs[c]? = some x/\ExcI K x C
 sub:∀(e c:Nat) (Ce Cc:Addr),p.cls[e]? = some Ce->p.cls[c]? = some Cc->exmOne K (.ref Ce) (.ref Cc)=some (t.sub e c)/\kitOne K (.ref Ce) (.ref Cc)=some (t.sub e c)
theorem qJb {K:PySem.W.Frag}{h:Heap}{mg:Str->Option Value}{C:Addr}{tl:List Value}{nw:String}(Z:K.In h) (g:h.Ns mainGlobals mg) (e:nsIn K mainGlobals x=some (some (.ref C))) (q:excIn K C tl nw=true):OwnCls x C tl nw mg h:=by
 have hb:=mg_of Z g e;unfold excIn at q;split at q
 case h_2=>cases q
 rename_i dd cd sl ho;split at q
 case h_2=>cases q
 rename_i C' bm k0 k1 k2 k3 n k5 hm hs;simp only[Bool.and_eq_true,beq_iff_eq,Bool.not_eq_true'] at q;obtain⟨⟨⟨⟨⟨c1,c2⟩,c3⟩,c4⟩,c5⟩,c6⟩:=q;cases c1;cases c2;obtain⟨nm,bs,mro,ns,qn,hd,sn,sub,ab,col,del⟩:=cd;dsimp only at hm c3 c5 c6;cases hm;cases c3;obtain⟨ll⟩:=sl;have hl:=hs;cases hl;exact⟨hb,bm,ns,nm,qn,bs,hd,sn,sub,ab,col,dd,k0,k1,k2,k3,k5,_,Z _ _ ho,.of_isNs (isNs_of_in Z c5),nsMap_none_of_in Z c5 c6,tail_of_in Z c4⟩
section
variable {P:Program}{w:World}{K:PySem.W.Frag}{mg:Str->Option Value}{base:Heap}{t:TxtI}{p:Pm}
theorem qGh (hset:SSet) (T:TxtOk K t p) (kin:K.In base) (glob:base.Ns mainGlobals mg):∀(n j:Nat) (d:DefI) (f:Addr) (fd:FuncData),t.ds[j]? = some d->Fun K d.name d.name d.st f fd->FnOk P w K mg base (CXs P w) (3*n) f fd d.ps (spG p (Gk t n) j d.ps.length):=by
 intro n
 induction n with
 |zero =>
  intro j d f fd hd F;refine⟨λ vs H Q E h=>h.choose_spec.choose_spec.1,λ A outer s H args us vs Q E hr e0 hb r hsp=>?_⟩;obtain⟨ds,O,_,_,_,_,ns,_⟩:=hsp;exact absurd rfl ns
 |succ n ih =>
  intro j d f fd hd F;obtain⟨D1,_⟩:=T.def_ j d hd;obtain⟨oc,od,kV,doc,pm,an,cdv,ct,osl,efd,lk,hcd⟩:=F.ex;subst efd;refine qJ4 (k:=3*n+2) (G':=Gk t n) (sub:=t.sub) (l:=d.l) (N:=d.N) lk hcd D1.sc (λ ds ns hl=>?_) λ A outer s H E hr e0=>?_
  ·show (match t.ds[j]? with
    |some d=>if ds.length=d.ps.length then Ev.run (Gk t n) t.sub d.N.length d.l ds else .stuck
    |none=> .stuck)=_
   rw[hd];dsimp only;rw[if_pos hl]
  ·refine (qJa (k:=3*n) (p:=p) (G:=Gk t n) (sub:=t.sub) hset 60).Ss _ (t.ct d) ⟨rfl,D1.sc.nd,λ x=> .inl rfl,rfl,T.pk,hr,λ x hx=>mg_none_of kin glob (T.blt x hx),λ j' f' hf=>?_,λ x dd hx=>?_,λ c x hx=>?_,λ c C hc=>?_,T.sub⟩ ⟨⟨rfl,rfl⟩,λ _=>rfl,D1.sc.kind⟩ _ _ D1.cs
   ·have hf:(t.ds.map (·.name))[j']? = some f':=hf;rw[List.getElem?_map] at hf;cases e:t.ds[j']? with
    |none=>rw[e] at hf;cases hf
    |some d' =>
     rw[e] at hf;cases hf;obtain⟨D2,fa,fd',a',F'⟩:=T.def_ j' d' e;refine⟨fa,fd',d'.ps,ih j' d' fa fd' e F',mg_of kin glob a',F'.kp,F'.binds D2.bd,λ ds ns=>?_⟩;cases n with
     |zero=>exact absurd rfl ns
     |succ n =>
      have ns:(match t.ds[j']? with
       |some d=>if ds.length=d.ps.length then Ev.run (Gk t n) t.sub d.N.length d.l ds else .stuck
       |none=> .stuck)≠R.stuck:=ns
      rw[e] at ns;dsimp only at ns
      by_cases hl:ds.length=d'.ps.length
      ·exact hl
      ·rw[if_neg hl] at ns;exact absurd rfl ns
   ·obtain⟨a',tk,e1,e2⟩:=T.con x dd hx;exact⟨a',tk,e1,mg_of kin glob e2⟩
   ·obtain⟨C,e1,e2⟩:=T.exc c x hx;exact⟨C,e1,qJb kin glob e2.at_ e2.exc⟩
   ·obtain⟨x,e1,e2⟩:=T.cls c C hc;exact⟨e2.ok,e2.val⟩
theorem qJc {l:PySem.W.OpenLaw}{h:Heap}{fa:Addr}{j:Nat}{d:DefI}(hset:SSet) (T:TxtOk K t p) (Z:K.In h) (g:h.Ns mainGlobals mg) (hj:t.ds[j]? = some d) (hps:d.ps=[x]) (hfa:mg d.name=some (.ref fa)) (n:Nat) :
  ∃fd:FuncData,(∀(s:Shared) (u:Value),BindsTo s fd ⟨[u],[]⟩ [(x,u)])/\∀base:Heap,K.In base->base.Ns mainGlobals mg->FnOk l.prog w K mg base (CXs l.prog w) (3*n) fa fd [x] (spG p (Gk t n) j 1):=by
 obtain⟨D1,f,fd,a,F⟩:=T.def_ j d hj;have e:=hfa.symm.trans (mg_of Z g a);cases e;refine⟨fd,λ s u=>?_,λ base kb nb=>?_⟩
 ·obtain⟨oc,od,kV,doc,pm,an,cdv,ct,osl,efd,lk,hcd⟩:=F.ex;subst efd;have:=D1.bd kV doc pm an cdv ct [u] (by rw[hps];rfl);rw[hps] at this;exact .of_eq this
 ·have:=qGh (P:=l.prog) (w:=w) hset T kb nb n j d fa fd hj F;rw[hps] at this;exact this
def qGi (K:PySem.W.Frag):Sp:=λ vs H Q _=>∃(a:Addr) (ns:List Int),vs=[.ref a]/\SqL K H a (ns.map V.int)/\ns.length<=63/\∀H',Q (.bl true) H'
theorem q9g {H:Hp}:∀ns:List Int,RepL p H (ns.map D.int) (ns.map V.int)
 |[]=>rfl
 |n::ns=>⟨.int n,ns.map V.int,rfl,rfl,q9g ns⟩
theorem qC7 {G:Nat->List D->R D}{j:Nat}(hK:p.K=K) (hm:∀ns:List Int,ns.length<=63->G j [.lst (ns.map D.int)] = .ok (.bl true)) (vs:List V) (H:Hp) (Q:VK) (E:XK) (h:qGi K vs H Q E):spG p G j 1 vs H Q E:=by
 obtain⟨a,ns,rfl,hS,hl,hQ⟩:=h;have e:=hm ns hl;refine⟨[.lst (ns.map D.int)],[],rfl,List.nodup_nil,λ b hb=>absurd hb (by simp),⟨.ref a,[],rfl,⟨a,ns.map V.int,rfl,by rw[qIX,hK];exact hS,q9g ns⟩,rfl⟩,by rw[e];simp,λ r v H' er _ q=>?_,λ c C H' ex er _ _=>?_⟩
 ·rw[e] at er;cases er;cases (show v=_ from q);exact hQ H'
 ·rw[e] at er;cases er
theorem qC8 {H:Hp}{s s':Shared}{e:Value}(h:CXs P w [] H s (λ _ _ _=>False) e s'):False:=by obtain⟨_,_,_,_,_,_,z,_⟩:=h;exact z
end
theorem walk {l:PySem.W.OpenLaw}{q:Program}{loose:List Str}{XP:(Str->Option Value)->Heap->Prop}{YP:World->Heap->Prop}{d:DefRec}{K:Params->PySem.W.Frag}(n:Nat) (hn:l.most=some 63) (hdf:d.params.defaults=[]) (hr:Room (3*n) callerA)
  (hY:∀(w:World) (h:Heap),YP w h->(K w.params).In h)
  (F:∀(w:World) (mg:Str->Option Value) (fa:Addr) (h:Heap),(K w.params).In h->h.Ns mainGlobals mg->mg d.name=some (.ref fa)->
   ∃fd:FuncData,(∀(s:Shared) (u:Value),BindsTo s fd ⟨[u],[]⟩ [(x,u)])/\∀base:Heap,(K w.params).In base->base.Ns mainGlobals mg->FnOk l.prog w (K w.params) mg base (CXs l.prog w) (3*n) fa fd [x] (qGi (K w.params))) :
  PySem.W.WalkO q loose XP YP l.row.toRowW d [] (λ f vs=>PySem.call f vs) :=
 L2.qFl (n:=63) (k:=3*n) (x:=x) (CX:=λ w=>CXs l.prog w) (sp:=λ w=>qGi (K w.params)) hn (by decide) hdf hr hY F (λ _ _ a ns hl _ hS=>⟨a,ns,rfl,hS,hl,λ _=>rfl⟩) λ _ _ _ _ _ z=>qC8 z
end Snd
namespace SetT
open PySem PySem.SetTable
variable {l As:List Nat}{t:SetTable}{j m:Nat}{hs:List Int}{owner:Array (Option Nat)}
def onM (m:Nat):SetTable:={(default:SetTable) with mask:=m}
def startM (m:Nat) (h:Int):Probe:=(onM m).probeStart h
def advM (m:Nat) (p:Probe):Probe:=(onM m).advance p
theorem qKT (t:SetTable) (h:Int):t.probeStart h=startM t.mask h:=rfl
theorem adv_eq (t:SetTable) (p:Probe):t.advance p=advM t.mask p:=rfl
def path (m:Nat) (h:Int):Nat->Probe
 |0=>startM m h
 |n+1=>advM m (path m h n)
def lp (m:Nat) (h:Int):Nat->Nat×Nat
 |0=>(bits h % (m+1),bits h)
 |k+1=>leap m (lp m h k).1 (lp m h k).2
def cc (m:Nat) (h:Int):Nat->Nat
 |0=>0
 |k+1=>cc m h k+(runEnd m (lp m h k).1-(lp m h k).1)+1
theorem qC9 (m i:Nat):runEnd m i-i<=9:=by unfold runEnd;split<;>lia
theorem q3T (m i:Nat):i<=runEnd m i:=by unfold runEnd;split<;>lia
theorem q7W (m i:Nat) (h:i<=m):runEnd m i<=m:=by unfold runEnd;split<;>lia
theorem qJd (m:Nat) (h:Int):∀k,cc m h k<=10*k
 |0=>Nat.le_refl _
 |k+1=>by have:=qJd m h k;have:=qC9 m (lp m h k).1;simp only[cc];lia
def at_ (m:Nat) (h:Int) (k r:Nat):Probe:={j:=(lp m h k).1+r,more:=runEnd m (lp m h k).1-(lp m h k).1-r,i:=(lp m h k).1,perturb:=(lp m h k).2,dummy:=none}
theorem q3U (m:Nat) (h:Int) (k:Nat) (hk:path m h (cc m h k)=at_ m h k 0):∀r,r<=runEnd m (lp m h k).1-(lp m h k).1->path m h (cc m h k+r)=at_ m h k r
 |0,_=>hk
 |r+1,hr=>by have ih:=q3U m h k hk r (by lia);show advM m (path m h (cc m h k+r))=_;rw[ih];unfold advM SetTable.advance at_;simp only[onM];rw[if_pos (by lia)];rfl
theorem q4z (m:Nat) (h:Int):∀k,path m h (cc m h k)=at_ m h k 0
 |0=>rfl
 |k+1=>by have ih:=q3U m h k (q4z m h k) (runEnd m (lp m h k).1-(lp m h k).1) (Nat.le_refl _);show advM m (path m h (cc m h k+(runEnd m (lp m h k).1-(lp m h k).1)))=_;rw[ih];unfold advM SetTable.advance at_;simp only[onM];rw[if_neg (by lia)];rfl
theorem qGj (h:Int):bits h<2^64:=by
 unfold bits;have h1:0<=h % (2^64:Int):=Int.emod_nonneg _ (by decide);have h2:h % (2^64:Int)<2^64:=Int.emod_lt_of_pos _ (by decide);have:((2:Int)^64).toNat=2^64:=by decide
 lia
theorem qCA (m:Nat) (h:Int):∀k,(lp m h k).2=bits h / 32^k
 |0=>by simp[lp]
 |k+1=>by show (lp m h k).2 / 32=_;rw[qCA m h k,Nat.div_div_eq_div_mul,Nat.pow_succ]
theorem qCB (m:Nat) (h:Int) (k:Nat) (hk:13<=k):(lp m h k).2=0:=by
 rw[qCA];refine Nat.div_eq_of_lt (Nat.lt_of_lt_of_le (qGj h) ?_)
 calc 2^64<=32^13:=by decide
  _<=32^k:=Nat.pow_le_pow_right (by decide) hk
theorem qJe (m:Nat) (h:Int):∀k,(lp m h k).1<=m
 |0=>by have:=Nat.mod_lt (bits h) (show m+1 > 0 by lia);show bits h % (m+1)<=m;lia
 |k+1=>by have:=Nat.mod_lt ((lp m h k).1*5+1+(lp m h k).2 / 32) (show m+1 > 0 by lia);show ((lp m h k).1*5+1+(lp m h k).2 / 32) % (m+1)<=m;lia
def stp (m i:Nat):Nat:=(i*5+1) % (m+1)
def its (m:Nat):Nat->Nat->Nat
 |0,i=>i
 |d+1,i=>its m d (stp m i)
theorem q50 (m:Nat):∀a b i,its m (a+b) i=its m b (its m a i)
 |0,b,i=>by rw[Nat.zero_add];rfl
 |a+1,b,i=>by rw[Nat.succ_add];exact q50 m a b (stp m i)
theorem qFB (m:Nat) (h:Int) (k:Nat) (hk:13<=k):∀d,(lp m h (k+d)).1=its m d (lp m h k).1
 |0=>rfl
 |d+1=>by rw[q50 m d 1,<-qFB m h k hk d];show (leap m (lp m h (k+d)).1 (lp m h (k+d)).2).1=stp m _;rw[qCB m h (k+d) (by lia)];rfl
def q2O (m:Nat):Prop:=m=7\/m=31\/m=127
def orb (m:Nat):Nat->Nat->List Nat
 |0,_=>[]
 |n+1,i=>i::orb m n (stp m i)
theorem q8d (m:Nat):∀n i e,e∈orb m n i->∃d,d<n/\its m d i=e
 |0,_,_,h=>nomatch h
 |n+1,i,e,h=>by
  rcases List.mem_cons.mp h with rfl|h
  ·exact⟨0,by lia,rfl⟩
  ·obtain⟨d,hd,q⟩:=q8d m n _ e h;exact⟨d+1,by lia,q⟩
theorem cyc0 (m:Nat) (g:q2O m):its m (m+1) 0=0/\∀e,e<=m->e∈orb m (m+1) 0:=by
 have key:∀m,its m (m+1) 0=0->(List.range (m+1)).all (λ e=>(orb m (m+1) 0).contains e)=true->its m (m+1) 0=0/\∀e,e<=m->e∈orb m (m+1) 0:=λ m h1 h2 =>
  ⟨h1,λ e he=>by have:=List.all_eq_true.mp h2 e (List.mem_range.mpr (by lia));exact List.contains_iff_mem.mp this⟩
 rcases g with rfl|rfl|rfl
 ·exact key 7 (by decide +kernel) (by decide +kernel)
 ·exact key 31 (by decide +kernel) (by decide +kernel)
 ·exact key 127 (by decide +kernel) (by decide +kernel)
theorem cyc (m:Nat) (g:q2O m) (i e:Nat) (hi:i<=m) (he:e<=m):∃d,d<=m/\its m d i=e:=by
 obtain⟨h0,hc⟩:=cyc0 m g;obtain⟨a,ha,qa⟩:=q8d m _ _ _ (hc i hi);obtain⟨b,hb,qb⟩:=q8d m _ _ _ (hc e he)
 by_cases hab:a<=b
 ·refine⟨b-a,by lia,?_⟩;rw[<-qa,<-q50,show a+(b-a)=b by lia,qb]
 ·refine⟨b+(m+1)-a,by lia,?_⟩;rw[<-qa,<-q50,show a+(b+(m+1)-a)=(m+1)+b by lia,q50,h0,qb]
theorem qFC (m:Nat) (g:q2O m) (h:Int) (e:Nat) (he:e<=m):∃k,k<=m+13/\(lp m h k).1=e:=by obtain⟨d,hd,q⟩:=cyc m g (lp m h 13).1 e (qJe m h 13) he;exact⟨13+d,by lia,by rw[qFB m h 13 (by lia)];exact q⟩
theorem met (m:Nat) (g:q2O m) (h:Int) (e:Nat) (he:e<=m):∃n,n<=10*(m+13)/\(path m h n).j=e:=by obtain⟨k,hk,q⟩:=qFC m g h e he;refine⟨cc m h k,Nat.le_trans (qJd m h k) (by lia),?_⟩;rw[q4z];show (lp m h k).1+0=e;lia
theorem q3s (m:Nat) (h:Int):∀n,(path m h n).dummy=none
 |0=>rfl
 |n+1=>by show (advM m (path m h n)).dummy=none;unfold advM SetTable.advance;split<;>exact q3s m h n
theorem q6S (m:Nat) (h:Int):∀n,(path m h n).j+(path m h n).more<=m/\(path m h n).i<=m
 |0=>by have h1:=qJe m h 0;have h2:=q7W m _ h1;have h3:=q3T m (lp m h 0).1;show (lp m h 0).1+(runEnd m (lp m h 0).1-(lp m h 0).1)<=m/\(lp m h 0).1<=m;lia
 |n+1=>by
  have ih:=q6S m h n;show (advM m (path m h n)).j+(advM m (path m h n)).more<=m/\(advM m (path m h n)).i<=m;unfold advM SetTable.advance;split
  ·simp only;lia
  ·have h1:(leap m (path m h n).i (path m h n).perturb).1<=m:=by have:=Nat.mod_lt ((path m h n).i*5+1+(path m h n).perturb / 32) (show m+1 > 0 by lia);show ((path m h n).i*5+1+(path m h n).perturb / 32) % (m+1)<=m;lia
   have h2:=q7W m _ h1;have h3:=q3T m (leap m (path m h n).i (path m h n).perturb).1;simp only[onM];lia
def Ris (l:List Nat):Prop:=l.Pairwise (· < ·)
theorem qE9 (l:List Nat) (i d:Nat) (h:i<l.length):l.toArray.getD i d=l[i]:=by simp[Array.getD,h]
theorem Ris.lt (r:Ris l) {i k:Nat}(h:i<k) (hk:k<l.length):l[i]'(by lia)<l[k]:=List.pairwise_iff_getElem.mp r i k (by lia) hk h
theorem q6T (l:List Nat) (r:Ris l) (j:Nat):∀(fuel lo hi:Nat),hi-lo<2^fuel->lo<=hi->hi<=l.length->(∀i,i<lo->(h:i<l.length)->l[i]<j)->(∀i,hi<=i->(h:i<l.length)->j<=l[i])->
  below.go l.toArray j fuel lo hi<=l.length/\(∀i,i<below.go l.toArray j fuel lo hi->(h:i<l.length)->l[i]<j)/\(∀i,below.go l.toArray j fuel lo hi<=i->(h:i<l.length)->j<=l[i])
 |0,lo,hi,hf,hlh,hh,h1,h2=>by
  have e:lo=hi:=by simp at hf;lia
  subst e;exact⟨hh,h1,h2⟩
 |fuel+1,lo,hi,hf,hlh,hh,h1,h2=>by
  unfold below.go
  by_cases c:lo<hi
  ·rw[if_pos c];simp only;have hm:(lo+hi) / 2<l.length:=(by lia);rw[qE9 l _ _ hm];have hp:2^(fuel+1)=2*2^fuel:=by rw[Nat.pow_succ];lia
   by_cases d:l[(lo+hi) / 2]<j
   ·rw[if_pos d];refine q6T l r j fuel _ hi (by lia) (by lia) hh (λ i hi' hl=>?_) h2
    by_cases e:i=(lo+hi) / 2
    ·subst e;exact d
    ·exact Nat.lt_trans (r.lt (show i<(lo+hi) / 2 by lia) hm) d
   ·rw[if_neg d];refine q6T l r j fuel lo _ (by lia) (by lia) (by lia) h1 (λ i hi' hl=>?_)
    by_cases e:i=(lo+hi) / 2
    ·subst e;lia
    ·have:=r.lt (show (lo+hi) / 2<i by lia) hl;lia
  ·rw[if_neg c];have e:lo=hi:=(by lia);subst e;exact⟨hh,h1,h2⟩
theorem q5e:∀n:Nat,n<2^n
 |0=>by decide
 |n+1=>by have:=q5e n;rw[Nat.pow_succ];lia
theorem q1M (l:List Nat) (r:Ris l) (j:Nat):below l.toArray j<=l.length/\(∀i,i<below l.toArray j->(h:i<l.length)->l[i]<j)/\(∀i,below l.toArray j<=i->(h:i<l.length)->j<=l[i]):=by
 unfold below;have e:l.toArray.size=l.length:=by simp
 rw[e];exact q6T l r j l.length 0 l.length (by have:=q5e l.length;lia) (by lia) (Nat.le_refl _) (λ i h _=>by lia) (λ i h1 h2=>by lia)
theorem q21 (hp:t.place=l.toArray) (r:Ris l) {i:Nat}(h:l[i]? = some j):t.slot j = .live i:=by
 obtain⟨b1,b2,b3⟩:=q1M l r j;obtain⟨hi,e⟩:=List.getElem?_eq_some_iff.mp h;have eb:below l.toArray j=i:=by
  by_cases c:below l.toArray j<i
  ·have:=b3 _ (Nat.le_refl _) (by lia);have:=r.lt c hi;lia
  ·by_cases d:i<below l.toArray j
   ·have:=b2 i d hi;lia
   ·lia
 unfold slot;simp only[hp,eb];rw[if_pos (by simp[h])]
theorem q5f (hp:t.place=l.toArray) (hd:t.dummies=#[]) (h:j∉l):t.slot j = .empty:=by
 unfold slot;simp only[hp];rw[if_neg (λ q=>h ?_)]
 ·rw[hd,if_neg];unfold has;intro q;simp at q
 ·have q':l.toArray[below l.toArray j]? = some j:=by simpa using q
  have:l[below l.toArray j]? = some j:=by simpa using q'
  exact List.mem_of_getElem? this
theorem q2x {α:Type}(l:List α) (p:Nat) (x:α) (_hp:p<=l.length):insertAt l.toArray p x=(l.take p++x::l.drop p).toArray:=by unfold insertAt;apply Array.toList_inj.mp;simp;exact List.take_of_length_le (by simp)
abbrev Ent:=Nat×Int×Value
def slots (Z:List Ent):List Nat:=Z.map (·.1)
structure WF (t:SetTable) (Z:List Ent):Prop where
 place:t.place=(slots Z).toArray
 ris:Ris (slots Z)
 dum:t.dummies=#[]
 good:q2O t.mask
 le:∀z∈Z,z.1<=t.mask
 few:Z.length<=t.mask
 way:∀z∈Z,∃n,(path t.mask z.2.1 n).j=z.1/\∀k,k<n->(path t.mask z.2.1 k).j∈slots Z
theorem q3V:∀{a b:List Nat},a.Nodup->(∀x∈a,x∈b)->a.length<=b.length
 |[],_,_,_=>Nat.zero_le _
 |x::a,b,nd,h=>by
  have hx:=h x List.mem_cons_self;have nd':=List.nodup_cons.mp nd;have:=q3V (a:=a) (b:=b.erase x) nd'.2 λ y hy=>by have hne:y≠x:=λ q=>nd'.1 (q▸hy);exact (List.mem_erase_of_ne hne).mpr (h y (List.mem_cons_of_mem _ hy))
  have e:=List.length_erase_of_mem hx;have hp:0<b.length:=List.length_pos_of_mem hx;simp only[List.length_cons];lia
theorem q7X (l:List Nat) (m:Nat) (h:l.length<=m):∃e,e<=m/\e∉l:=by
 apply Classical.byContradiction;intro q;have:=q3V (a:=List.range (m+1)) (b:=l) List.nodup_range λ x hx=>by apply Classical.byContradiction;intro hn;exact q ⟨x,by have:=List.mem_range.mp hx;lia,hn⟩
 rw[List.length_range] at this;lia
theorem least {P:Nat->Prop}[DecidablePred P]:∀n,P n->∃m,m<=n/\P m/\∀k,k<m->¬P k:=by
 intro n
 induction n using Nat.strongRecOn with
 |ind n ih =>
  intro h
  by_cases c:∃k,k<n/\P k
  ·obtain⟨k,hk,p⟩:=c;obtain⟨m,h1,h2,h3⟩:=ih k hk p;exact⟨m,by lia,h2,h3⟩
  ·exact⟨n,Nat.le_refl _,h,λ k hk p=>c ⟨k,hk,p⟩⟩
def q1j (m:Nat) (h:Int) (l:List Nat) (N:Nat):Prop:=(path m h N).j∉l/\∀k,k<N->(path m h k).j∈l
theorem q5g (g:q2O m) (h:Int) (l:List Nat) (hl:l.length<=m):∃N,N<=10*(m+13)/\q1j m h l N:=by obtain⟨e,he,hn⟩:=q7X l m hl;obtain⟨n,h1,h2⟩:=met m g h e he;obtain⟨N,h3,h4,h5⟩:=least (P:=λ n=>(path m h n).j∉l) n (by rw[h2];exact hn);exact⟨N,by lia,h4,λ k hk=>Classical.byContradiction λ q=>h5 k hk q⟩
def Cand (m:Nat) (h:Int) (Z:List Ent) (k:Nat):Prop:=∃z∈Z,z.1=(path m h k).j/\z.2.1=h
theorem q9h {t:SetTable}{Z:List Ent}(wf:WF t Z) {h:Int}{hash:Nat->Int}(hh:∀i z,Z[i]? = some z->hash i=z.2.1) {N:Nat}(ff:q1j t.mask h (slots Z) N) :
  ∀fuel n,n<=N->N-n<fuel->
   (∃k i z,n<=k/\k<N/\Z[i]? = some z/\z.1=(path t.mask h k).j/\z.2.1=h/\(∀k',n<=k'->k'<k->¬Cand t.mask h Z k')/\probe.go t hash h fuel (path t.mask h n)=some (.candidate (path t.mask h k).j i (path t.mask h (k+1))))\/
   ((∀k',n<=k'->k'<N->¬Cand t.mask h Z k')/\probe.go t hash h fuel (path t.mask h n)=some (.empty (path t.mask h N).j none))
 |0,n,_,hf=>by lia
 |fuel+1,n,hn,hf=>by
  by_cases e:n=N
  ·subst e;refine .inr ⟨λ k' h1 h2=>by lia,?_⟩;unfold probe.go;rw[q5f wf.place wf.dum ff.1];simp only[q3s]
  ·have hl:=ff.2 n (by lia);obtain⟨i,hi,ei⟩:=List.getElem_of_mem hl;have hs:(slots Z)[i]? = some (path t.mask h n).j:=(by rw[List.getElem?_eq_getElem hi,ei]);have hz:∃z,Z[i]? = some z/\z.1=(path t.mask h n).j:=by
    unfold slots at hs;rw[List.getElem?_map] at hs;cases q:Z[i]? with
    |none=>rw[q] at hs;cases hs
    |some z=>rw[q] at hs;exact⟨z,rfl,Option.some.inj hs⟩
   obtain⟨z,hz,ez⟩:=hz;unfold probe.go;rw[q21 wf.place wf.ris hs];simp only[hh i z hz]
   by_cases c:z.2.1=h
   ·refine .inl ⟨n,i,z,Nat.le_refl _,by lia,hz,ez,c,λ k' h1 h2=>by lia,?_⟩;rw[if_pos (by simpa using c)];rfl
   ·rw[if_neg (by simpa using c)];have nc:¬Cand t.mask h Z n:=by
     rintro⟨y,hy,e1,e2⟩;obtain⟨i',hi',ei'⟩:=List.getElem_of_mem hy;have hs':(slots Z)[i']? = some (path t.mask h n).j:=by unfold slots;rw[List.getElem?_map,List.getElem?_eq_getElem hi',ei'];exact congrArg some e1
     have:i'=i:=by have q1:=q21 wf.place wf.ris hs';rw[q21 wf.place wf.ris hs] at q1;cases q1;rfl
     subst this;rw[List.getElem?_eq_getElem hi',ei'] at hz;cases hz;exact c e2
    rcases q9h wf hh ff fuel (n+1) (by lia) (by lia) with ⟨k,i2,z2,a1,a2,a3,a4,a5,a6,a7⟩|⟨a1,a2⟩
    ·refine .inl ⟨k,i2,z2,by lia,a2,a3,a4,a5,λ k' h1 h2=>?_,a7⟩
     by_cases q:k'=n
     ·subst q;exact nc
     ·exact a6 k' (by lia) h2
    ·refine .inr ⟨λ k' h1 h2=>?_,a2⟩
     by_cases q:k'=n
     ·subst q;exact nc
     ·exact a1 k' (by lia) h2
theorem qGk {Z:List Ent}(wf:WF t Z) {h:Int}{N:Nat}(ff:q1j t.mask h (slots Z) N) {z:Ent}(hz:z∈Z) (e:z.2.1=h):∃k,k<N/\z.1=(path t.mask h k).j:=by
 obtain⟨n,h1,h2⟩:=wf.way z hz;rw[e] at h1 h2;refine⟨n,?_,h1.symm⟩;apply Classical.byContradiction;intro q
 by_cases c:n=N
 ·subst c;exact ff.1 (by rw[h1];exact List.mem_map_of_mem hz)
 ·exact ff.1 (h2 N (by lia))
def insZ (Z:List Ent) (p:Nat) (z:Ent):List Ent:=Z.take p++z::Z.drop p
theorem q6U {Z:List Ent}{p:Nat}{z y:Ent}:y∈insZ Z p z↔y=z\/y∈Z:=by
 unfold insZ;rw[List.mem_append,List.mem_cons];have:(y∈Z)↔(y∈Z.take p\/y∈Z.drop p):=by rw[<-List.mem_append,List.take_append_drop]
 rw[this];constructor
 ·rintro (h|h|h)
  ·exact .inr (.inl h)
  ·exact .inl h
  ·exact .inr (.inr h)
 ·rintro (h|h|h)
  ·exact .inr (.inl h)
  ·exact .inl h
  ·exact .inr (.inr h)
theorem q51 (Z:List Ent) (p:Nat) (z:Ent):(insZ Z p z).Perm (z::Z):=by unfold insZ;refine List.perm_middle.trans ?_;rw[List.take_append_drop]
theorem q2e {β:Type}(f:Ent->β) (Z:List Ent) (p:Nat) (z:Ent):(insZ Z p z).map f=(Z.map f).take p++f z::(Z.map f).drop p:=by unfold insZ;rw[List.map_append,List.map_cons,List.map_take,List.map_drop]
theorem qGl (r:Ris l) (hj:j∉l):Ris (l.take (below l.toArray j)++j::l.drop (below l.toArray j)):=by
 obtain⟨b1,b2,b3⟩:=q1M l r j;unfold Ris;rw[List.pairwise_append,List.pairwise_cons];have ht:∀a∈l.take (below l.toArray j),a<j:=λ a ha=>by obtain⟨i,hi,e⟩:=List.getElem_of_mem ha;rw[List.getElem_take] at e;rw[List.length_take] at hi;rw[<-e];exact b2 i (by lia) (by lia)
 have hd:∀a∈l.drop (below l.toArray j),j<a:=λ a ha=>by obtain⟨i,hi,e⟩:=List.getElem_of_mem ha;rw[List.getElem_drop] at e;rw[List.length_drop] at hi;have:=b3 (below l.toArray j+i) (by lia) (by lia);rw[e] at this;have hne:j≠a:=λ q=>hj (q▸List.mem_of_mem_drop ha);lia
 refine⟨List.Pairwise.sublist (List.take_sublist _ _) r,⟨hd,List.Pairwise.sublist (List.drop_sublist _ _) r⟩,λ a ha b hb=>?_⟩;rcases List.mem_cons.mp hb with rfl|hb
 ·exact ht a ha
 ·exact Nat.lt_trans (ht a ha) (hd b hb)
theorem WF.insert {Z:List Ent}(wf:WF t Z) {h:Int}{x:Value}{N:Nat}(ff:q1j t.mask h (slots Z) N) (few:Z.length<t.mask) (pl:Bool) :
  WF {(t.put (path t.mask h N).j).1 with plain:=pl} (insZ Z (t.put (path t.mask h N).j).2 ((path t.mask h N).j,h,x)):=by
 have hb:=(q1M (slots Z) wf.ris (path t.mask h N).j).1;have ep:(t.put (path t.mask h N).j).2=below (slots Z).toArray (path t.mask h N).j:=by show below t.place _=_;rw[wf.place]
 refine⟨?_,?_,?_,wf.good,λ z hz=>?_,?_,λ z hz=>?_⟩
 ·show insertAt t.place (below t.place (path t.mask h N).j) (path t.mask h N).j=_;rw[ep,wf.place,q2x _ _ _ hb];unfold slots;rw[q2e]
 ·rw[ep];unfold slots;rw[q2e];exact qGl wf.ris ff.1
 ·show (if has t.dummies _ then _ else t.dummies)=#[];rw[wf.dum];split
  ·rename_i q;unfold has at q;simp at q
  ·rfl
 ·rcases q6U.mp hz with rfl|hz
  ·have:=q6S t.mask h N;show (path t.mask h N).j<=t.mask;lia
  ·exact wf.le z hz
 ·rw[(q51 _ _ _).length_eq,List.length_cons];exact few
 ·have sub:∀a,a∈slots Z->a∈slots (insZ Z (t.put (path t.mask h N).j).2 ((path t.mask h N).j,h,x)):=λ a ha=>by obtain⟨y,hy,e⟩:=List.mem_map.mp ha;exact List.mem_map.mpr ⟨y,q6U.mpr (.inr hy),e⟩
  rcases q6U.mp hz with rfl|hz
  ·exact⟨N,rfl,λ k hk=>sub _ (ff.2 k hk)⟩
  ·obtain⟨n,h1,h2⟩:=wf.way z hz;exact⟨n,h1,λ k hk=>sub _ (h2 k hk)⟩
def Occ (owner:Array (Option Nat)) (j:Nat):Prop:=(owner.getD j (some 0)).isNone=false
theorem q7Y (m:Nat) (h:Int) (owner:Array (Option Nat)):∀fuel k0,(∃K,k0<=K/\K<k0+fuel/\¬Occ owner (lp m h K).1)->(∀n,n<cc m h k0->Occ owner (path m h n).j)->
  ∃n,layClean.free m owner fuel (lp m h k0).1 (lp m h k0).2=some (path m h n).j/\¬Occ owner (path m h n).j/\∀k,k<n->Occ owner (path m h k).j
 |0,k0,⟨K,h1,h2,_⟩,_=>by lia
 |fuel+1,k0,⟨K,h1,h2,h3⟩,ho=>by
  unfold layClean.free;cases q:(List.range (runEnd m (lp m h k0).1+1-(lp m h k0).1)).find? (λ k=>(owner.getD ((lp m h k0).1+k) (some 0)).isNone) with
  |some r =>
   have hr:=List.find?_some q;have hm:=List.mem_range.mp (List.mem_of_find?_eq_some q);have hge:=q3T m (lp m h k0).1;have hp:=q3U m h k0 (q4z m h k0) r (by lia);refine⟨cc m h k0+r,by rw[hp];rfl,?_,λ k hk=>?_⟩
   ·rw[hp];show ¬(owner.getD ((lp m h k0).1+r) (some 0)).isNone=false;rw[hr];simp
   ·by_cases c:k<cc m h k0
    ·exact ho k c
    ·obtain⟨r',rfl⟩:∃r',k=cc m h k0+r':=⟨k-cc m h k0,by lia⟩
     rw[q3U m h k0 (q4z m h k0) r' (by lia)];show (owner.getD ((lp m h k0).1+r') (some 0)).isNone=false;have hlt:r'<r:=(by lia);rw[List.find?_eq_some_iff_append] at q;obtain⟨_,as,bs,e,hn⟩:=q;have hmem:r'∈as:=by
      have e1:(List.range (runEnd m (lp m h k0).1+1-(lp m h k0).1))[r']? = some r':=(by rw[List.getElem?_range (by lia)]);have e2:(List.range (runEnd m (lp m h k0).1+1-(lp m h k0).1))[r]? = some r:=(by rw[List.getElem?_range (by lia)]);rw[e] at e1 e2;have hl:as.length=r:=by have e3:(as++r::bs)[as.length]? = some r:=(by simp);have hlt2:as.length<(List.range (runEnd m (lp m h k0).1+1-(lp m h k0).1)).length:=(by rw[e];simp);rw[<-e,List.getElem?_range (by simpa using hlt2)] at e3;exact Option.some.inj e3
      rw[List.getElem?_append_left (by lia)] at e1;exact List.mem_of_getElem? e1
     have:=hn r' hmem;simpa using this
  |none =>
   have hn:=List.find?_eq_none.mp q;have hge:=q3T m (lp m h k0).1;have run:∀r,r<=runEnd m (lp m h k0).1-(lp m h k0).1->Occ owner ((lp m h k0).1+r):=λ r hr=>by have:=hn r (List.mem_range.mpr (by lia));exact Bool.eq_false_iff.mpr this
   have hK:k0+1<=K:=by apply Classical.byContradiction;intro z;have:K=k0:=(by lia);subst this;exact h3 (by have:=run 0 (by lia);simpa using this)
   refine q7Y m h owner fuel (k0+1) ⟨K,hK,by lia,h3⟩ λ n hn'=>?_
   by_cases c:n<cc m h k0
   ·exact ho n c
   ·have e:cc m h (k0+1)=cc m h k0+(runEnd m (lp m h k0).1-(lp m h k0).1)+1:=rfl;obtain⟨r',rfl⟩:∃r',n=cc m h k0+r':=⟨n-cc m h k0,by lia⟩
    rw[q3U m h k0 (q4z m h k0) r' (by lia)];exact run r' (by lia)
structure Laid (m:Nat) (hs:List Int) (owner:Array (Option Nat)) (As:List Nat):Prop where
 size:owner.size=m+1
 len:As.length=hs.length
 nd:As.Nodup
 own:∀(j q:Nat),owner[j]? = some (some q)↔As[q]? = some j
 way:∀(q:Nat) (h:Int) (j:Nat),hs[q]? = some h->As[q]? = some j->∃n,(path m h n).j=j/\∀k,k<n->(path m h k).j∈As
theorem Laid.le (L:Laid m hs owner As) (hj:j∈As):j<=m:=by obtain⟨q,hq⟩:=List.getElem?_of_mem hj;have:=(L.own j q).mpr hq;have:=(Array.getElem?_eq_some_iff.mp this).1;rw[L.size] at this;lia
theorem Laid.occ (L:Laid m hs owner As) (hj:j<=m):Occ owner j↔j∈As:=by
 have hlt:j<owner.size:=by rw[L.size];lia
 have e:owner.getD j (some 0)=owner[j]:=by simp[Array.getD,hlt]
 unfold Occ;rw[e];constructor
 ·intro h;cases q:owner[j] with
  |none=>rw[q] at h;cases h
  |some k=>exact List.mem_of_getElem? ((L.own j k).mp (by rw[Array.getElem?_eq_getElem hlt,q]))
 ·intro h;obtain⟨q,hq⟩:=List.getElem?_of_mem h;have:=(L.own j q).mpr hq;rw[Array.getElem?_eq_getElem hlt] at this;rw[Option.some.inj this];rfl
theorem qEA (m:Nat):Laid m [] (Array.replicate (m+1) none) []:=by
 refine⟨by simp,rfl,List.nodup_nil,λ j q=>?_,λ q h j e=>by simp at e⟩;constructor
 ·intro e;rw[Array.getElem?_replicate] at e;split at e<;>simp at e
 ·intro e;simp at e
theorem qCC (g:q2O m) (L:Laid m hs owner As) (h:Int) (few:hs.length<=m) :
  ∃j,layClean.free m owner (turns m) (bits h % (m+1)) (bits h)=some j/\Laid m (hs++[h]) (owner.setIfInBounds j (some hs.length)) (As++[j]):=by
 obtain⟨e,he,hn⟩:=q7X As m (by rw[L.len];exact few);obtain⟨K,hK,eK⟩:=qFC m g h e he;obtain⟨n,f1,f2,f3⟩:=q7Y m h owner (turns m) 0 ⟨K,Nat.zero_le _,by unfold turns;lia,by rw[eK,L.occ he];exact hn⟩ (λ n hn=>by simp[cc] at hn);have hj:(path m h n).j<=m:=by have:=q6S m h n;lia
 have hjn:(path m h n).j∉As:=λ z=>f2 ((L.occ hj).mpr z);refine⟨(path m h n).j,f1,by simp[L.size],by simp[L.len],?_,λ j q=>?_,λ q h' j e1 e2=>?_⟩
 ·rw[List.nodup_append];refine⟨L.nd,by simp,λ a ha b hb=>?_⟩;have:b=(path m h n).j:=by simpa using hb
  subst this;exact λ z=>hjn (z▸ha)
 ·by_cases c:j=(path m h n).j
  ·subst c;rw[Array.getElem?_setIfInBounds_self_of_lt (by rw[L.size];lia)];constructor
   ·intro z;have:hs.length=q:=(by simpa using z);subst this;rw[List.getElem?_append_right (by rw[L.len];exact Nat.le_refl _),L.len];simp
   ·intro z
    by_cases d:q<As.length
    ·rw[List.getElem?_append_left d] at z;exact absurd (List.mem_of_getElem? z) hjn
    ·rw[List.getElem?_append_right (by lia)] at z;have:q-As.length=0:=by apply Classical.byContradiction;intro y;rw[List.getElem?_eq_none (by simp;lia)] at z;cases z
     have:=L.len;have:q=hs.length:=(by lia);subst this;rfl
  ·rw[Array.getElem?_setIfInBounds_ne (Ne.symm c),L.own];constructor
   ·intro z;rw[List.getElem?_append_left (List.getElem?_eq_some_iff.mp z).1];exact z
   ·intro z
    by_cases d:q<As.length
    ·rw[List.getElem?_append_left d] at z;exact z
    ·rw[List.getElem?_append_right (by lia)] at z;have:j∈[(path m h n).j]:=List.mem_of_getElem? z;exact absurd (by simpa using this) c
 ·have hl:=L.len;have up:∀a,a∈As->a∈As++[(path m h n).j]:=λ a ha=>List.mem_append_left _ ha
  by_cases d:q<As.length
  ·rw[List.getElem?_append_left (by lia)] at e1;rw[List.getElem?_append_left d] at e2;obtain⟨n',w1,w2⟩:=L.way q h' j e1 e2;exact⟨n',w1,λ k hk=>up _ (w2 k hk)⟩
  ·have hq:q=As.length:=by have:=(List.getElem?_eq_some_iff.mp e2).1;simp at this;lia
   subst hq;rw[List.getElem?_append_right (by lia)] at e1 e2;simp[hl] at e1 e2;subst e1 e2;exact⟨n,rfl,λ k hk=>up _ ((L.occ (by have:=q6S m h k;lia)).mp (f3 k hk))⟩
theorem q7Z {m:Nat}(g:q2O m):∀(rest hs:List Int) (owner:Array (Option Nat)) (As:List Nat),Laid m hs owner As->hs.length+rest.length<=m->
  ∃owner' As',rest.foldl (λ (acc:Option (Array (Option Nat)×Nat)) h=>do
    let (owner,k) <-acc
    let j <-layClean.free m owner (turns m) (bits h % (m+1)) (bits h)
    pure (owner.setIfInBounds j (some k),k+1)) (some (owner,hs.length))=some (owner',hs.length+rest.length)/\Laid m (hs++rest) owner' As'
 |[],hs,owner,As,L,_=>⟨owner,As,rfl,by rw[List.append_nil];exact L⟩
 |h::rest,hs,owner,As,L,hl=>by simp only[List.length_cons] at hl;obtain⟨j,e,L'⟩:=qCC g L h (by lia);have:=q7Z g rest (hs++[h]) _ _ L' (by simp;lia);obtain⟨owner',As',e2,L2⟩:=this;refine⟨owner',As',?_,by simpa using L2⟩;rw[List.foldl_cons];simp only[List.length_append,List.length_singleton] at e2;simp only[bind,Option.bind,e,pure,List.length_cons];rw[show hs.length+(rest.length+1)=hs.length+1+rest.length by lia];exact e2
theorem q3W (g:q2O m) (hs:List Int) (hl:hs.length<=m):∃owner As,layClean m hs.toArray=some owner/\Laid m hs owner As:=by obtain⟨owner,As,e,L⟩:=q7Z g hs [] _ _ (qEA m) (by simpa using hl);refine⟨owner,As,?_,by simpa using L⟩;unfold layClean;rw[List.foldl_toArray];simp only[List.length_nil,Nat.zero_add] at e;rw[e];rfl
def q1W (m:Nat) (owner:Array (Option Nat)):List (Nat×Nat):=(List.range (m+1)).filterMap λ j=>(owner.getD j none).map (j,·)
theorem q19 (L:Laid m hs owner As) {q:Nat}:(j,q)∈q1W m owner↔As[q]? = some j:=by
 unfold q1W;rw[List.mem_filterMap];constructor
 ·rintro⟨j',h1,h2⟩;have hlt:j'<owner.size:=by rw[L.size];exact List.mem_range.mp h1
  have e:owner.getD j' none=owner[j']:=by simp[Array.getD,hlt]
  rw[e] at h2;cases c:owner[j'] with
  |none=>rw[c] at h2;cases h2
  |some q' =>
   rw[c] at h2;have:(j',q')=(j,q):=(by simpa using h2);cases this;exact (L.own j q).mp (by rw[Array.getElem?_eq_getElem hlt,c])
 ·intro h;have hj:=L.le (List.mem_of_getElem? h);have hlt:j<owner.size:=by rw[L.size];lia
  refine⟨j,List.mem_range.mpr (by lia),?_⟩;have e:owner.getD j none=owner[j]:=by simp[Array.getD,hlt]
  have:=(L.own j q).mpr h;rw[Array.getElem?_eq_getElem hlt] at this;rw[e,Option.some.inj this];rfl
theorem q5h (m:Nat) (owner:Array (Option Nat)):Ris ((q1W m owner).map (·.1)):=by unfold Ris q1W;rw[List.pairwise_map];refine List.Pairwise.filterMap _ (λ a a' hlt b hb b' hb'=>?_) List.pairwise_lt_range;obtain⟨q,_,rfl⟩:=Option.map_eq_some_iff.mp hb;obtain⟨q',_,rfl⟩:=Option.map_eq_some_iff.mp hb';exact hlt
theorem q7a (L:Laid m hs owner As):((q1W m owner).map (·.2)).Perm (List.range hs.length):=by
 have nd:((q1W m owner).map (·.2)).Nodup:=by have r:=q5h m owner;unfold Ris at r;rw[List.pairwise_map] at r;unfold List.Nodup;rw[List.pairwise_map];refine List.Pairwise.imp_of_mem (λ {a b} ha hb hlt=>?_) r;intro e;obtain⟨j,q⟩:=a;obtain⟨j',q'⟩:=b;simp only at e hlt;subst e;have h1:=(q19 L).mp ha;have h2:=(q19 L).mp hb;rw[h1] at h2;have:=Option.some.inj h2;lia
 rw[List.perm_ext_iff_of_nodup nd List.nodup_range];intro q;rw[List.mem_map,List.mem_range];constructor
 ·rintro⟨⟨j,q'⟩,h,rfl⟩;have:=(List.getElem?_eq_some_iff.mp ((q19 L).mp h)).1;rw[L.len] at this;exact this
 ·intro h;have hlt:q<As.length:=by rw[L.len];exact h
  exact⟨(As[q],q),(q19 L).mpr (List.getElem?_eq_getElem hlt),rfl⟩
theorem q2r {α β:Type}{f g:α->Option β}:∀{l:List α},(∀a∈l,f a=g a)->l.filterMap f=l.filterMap g
 |[],_=>rfl
 |a::l,h=>by rw[List.filterMap_cons,List.filterMap_cons,h a List.mem_cons_self,q2r λ b hb=>h b (List.mem_cons_of_mem _ hb)]
theorem q6V {α:Type}(es:List α) (d:α):(List.range es.length).map (λ q=>es.getD q d)=es:=by
 apply List.ext_getElem
 ·simp
 ·intro i h1 h2;simp at h1 |-;rw[List.getElem?_eq_getElem h1];rfl
theorem q52 (t:SetTable) (es:List (Int×Value)) (wanted:Nat) (g:q2O (sizeAbove wanted-1)) (few:es.length<=sizeAbove wanted-1) :
  ∃t' order Z',t.relaid (es.toArray.map (·.1)) wanted=some (t',order)/\WF t' Z'/\order.filterMap (es.toArray[·]?)=(Z'.map (·.2)).toArray/\(Z'.map (·.2)).Perm es/\
   t'.mask=sizeAbove wanted-1/\t'.led=t.led/\t'.plain=t.plain:=by
 obtain⟨owner,As,e,L⟩:=q3W g (es.map (·.1)) (by rw[List.length_map];exact few);have hl:(es.map (·.1)).length=es.length:=List.length_map _
 let d:Int×Value:=(0,Value.none)
 let Z':List Ent:=(q1W (sizeAbove wanted-1) owner).map λ p=>(p.1,es.getD p.2 d)
 have hlt:∀p∈q1W (sizeAbove wanted-1) owner,p.2<es.length:=λ p hp=>by have:=(List.getElem?_eq_some_iff.mp ((q19 L).mp hp)).1;rw[L.len,hl] at this;exact this
 have z1:slots Z'=(q1W (sizeAbove wanted-1) owner).map (·.1):=by show ((q1W (sizeAbove wanted-1) owner).map λ p=>(p.1,es.getD p.2 d)).map (·.1)=_;rw[List.map_map];rfl
 have z2:Z'.map (·.2)=((q1W (sizeAbove wanted-1) owner).map (·.2)).map (λ q=>es.getD q d):=by show ((q1W (sizeAbove wanted-1) owner).map λ p=>(p.1,es.getD p.2 d)).map (·.2)=_;rw[List.map_map,List.map_map];rfl
 have zp:(Z'.map (·.2)).Perm es:=by rw[z2];refine ((q7a L).map _).trans ?_;rw[hl,q6V]
 have zl:Z'.length=es.length:=by have:=zp.length_eq;rwa [List.length_map] at this
 refine⟨{mask:=sizeAbove wanted-1,place:=((q1W (sizeAbove wanted-1) owner).map (·.1)).toArray,dummies:=#[],finger:=t.finger,led:=t.led,moves:=t.movedTo (sizeAbove wanted-1),plain:=t.plain},
  ((q1W (sizeAbove wanted-1) owner).map (·.2)).toArray,Z',?_,?_,?_,zp,?_,?_,?_⟩
 ·show laid (sizeAbove wanted-1) t.finger (t.movedTo (sizeAbove wanted-1)) t.led t.plain (es.toArray.map (·.1))=_;unfold laid;rw[show es.toArray.map (·.1)=(es.map (·.1)).toArray by simp,e];rfl
 ·refine⟨?_,?_,rfl,g,λ z hz=>?_,by rw[zl];exact few,λ z hz=>?_⟩
  ·rw[z1]
  ·rw[z1];exact q5h _ _
  ·obtain⟨p,hp,rfl⟩:=List.mem_map.mp hz;exact L.le (List.mem_of_getElem? ((q19 L).mp (show (p.1,p.2)∈_ from hp)))
  ·obtain⟨p,hp,rfl⟩:=List.mem_map.mp hz;have ha:=(q19 L).mp (show (p.1,p.2)∈_ from hp);have hq:=hlt p hp;have he:(es.map (·.1))[p.2]? = some (es.getD p.2 d).1:=by rw[List.getElem?_map,List.getElem?_eq_getElem hq];simp[List.getD,hq]
   obtain⟨n,w1,w2⟩:=L.way p.2 _ p.1 he ha;refine⟨n,w1,λ k hk=>?_⟩;rw[z1];obtain⟨q,hq'⟩:=List.getElem?_of_mem (w2 k hk);exact List.mem_map.mpr ⟨(_,q),(q19 L).mpr hq',rfl⟩
 ·rw[z2];apply Array.toList_inj.mp;simp only[Array.toList_filterMap];show List.filterMap (λ x=>es.toArray[x]?) ((q1W (sizeAbove wanted-1) owner).map (·.2))=_;refine (q2r (g:=some ∘ λ q=>es.getD q d) λ q hq=>?_).trans (by rw[List.filterMap_eq_map]);obtain⟨p,hp,rfl⟩:=List.mem_map.mp hq;have:=hlt p hp;simp[List.getD,this]
 ·rfl
 ·rfl
 ·rfl
theorem WF.size {Z:List Ent}(wf:WF t Z):t.place.size=Z.length:=by rw[wf.place];simp[slots]
theorem WF.fill {Z:List Ent}(wf:WF t Z):t.fill=Z.length:=by unfold SetTable.fill;rw[wf.size,wf.dum];rfl
end SetT
namespace Snd
open PySem PySem.Spec PySem.W PyProof.Rows L2 Ev SetT
def Ents (h:Heap) (Z:List Ent) (ds:List D):Prop:=Z.length=ds.length/\∀(i:Nat) (z:Ent) (d:D),Z[i]? = some z->ds[i]? = some d->Dv h d z.2.2/\hv d=z.2.1/\plN 8 d=true/\q03 d=true
structure SetIn (h:Heap) (a:Addr) (Z:List Ent) (t:SetTable) (ep:Nat):Prop where
 obj:∃o,h.get? a=some o/\o.ExactSet/\o.data = .set (Z.map (·.2)).toArray ep t
 wf:WF t Z
 plain:t.plain=true
theorem SetIn.fits {h:Heap}{a:Addr}{Z:List Ent}{t:SetTable}{ep:Nat}(S:SetIn h a Z t ep):t.fits (Z.map (·.2)).toArray.size=true:=by unfold SetTable.fits;rw[S.wf.size,S.wf.fill];have:=S.wf.few;simp[this]
section
variable {prog:Program}{w:World}{A:Around}{E:Value->Shared->Prop}{s:Shared}{a:Addr}{Z:List Ent}{t:SetTable}{ep:Nat}{ds:List D}{x:Value}{d:D}
theorem Ents.at {h:Heap}(e:Ents h Z ds) {i:Nat}{z:Ent}(hz:Z[i]? = some z):∃d,ds[i]? = some d/\Dv h d z.2.2/\hv d=z.2.1/\plN 8 d=true/\q03 d=true:=by
 have hi:=(List.getElem?_eq_some_iff.mp hz).1;have hi2:i<ds.length:=by rw[<-e.1];exact hi
 exact⟨ds[i],by simp[hi2],e.2 i z ds[i] hz (by simp[hi2])⟩
theorem q1H {Q:(Array (Int×Value)×Nat×SetTable)->Shared->Prop}(S:SetIn s.heap a Z t ep) (h:Q ((Z.map (·.2)).toArray,ep,t) s):wpAny (model prog w) A (setState a) Q E s:=by obtain⟨o,ho,_,hd⟩:=S.obj;exact wpAny_setState_of ho hd S.fits h
theorem qEB (wf:WF t Z):t.gaveWay=false:=by unfold SetTable.gaveWay;rcases wf.good with h|h|h<;>rw[h]<;>rfl
theorem if2 {α:Type}{M:Model}{c:Prop}[Decidable c] {a b:Sem α}{Q:α->Shared->Prop}(h1:c->wpAny M A a Q E s) (h2:¬c->wpAny M A b Q E s):wpAny M A (if c then a else b) Q E s:=by
 by_cases k:c
 ·rw[if_pos k];exact h1 k
 ·rw[if_neg k];exact h2 k
theorem qEC {stored:List Value}{Q:Bool->Shared->Prop}(px:plN 8 d=true) (hx:q03 d=true) (Dx:Dv s.heap d x) (hs:∀y∈stored,∃e,Dv s.heap e y/\plN 8 e=true/\q03 e=true) (h:Q false s):wpAny (model prog w) A (searchCouldBeSeen x stored) Q E s:=by
 unfold searchCouldBeSeen;refine wpAny_bind ?_;refine wpAny_forIn_list _ (λ rest r s'=>r.1=none/\s'=s/\∀y∈rest,∃e,Dv s.heap e y/\plN 8 e=true/\q03 e=true) _ ?_ ?_ _ _ ⟨rfl,rfl,hs⟩
 ·rintro v rest r s' ⟨hr,rfl,hall⟩;obtain⟨e,z,pe,he⟩:=hall v List.mem_cons_self;have tl:=λ u hu'=>hall u (List.mem_cons_of_mem _ hu');refine if2 (λ _=>wpAny_pure ⟨rfl,rfl,tl⟩) λ _=>?_
  ·refine wpAny_bind (qBX 8 8 (Nat.le_refl _) px hx Dx ?_);simp only[Bool.not_true,Bool.false_eq_true,if_false];refine wpAny_bind (qBX 8 8 (Nat.le_refl _) pe he z ?_);simp only[Bool.not_true,Bool.false_eq_true,if_false];refine wpAny_bind (q7C 8 8 (Nat.le_refl _) px hx Dx ?_);simp only[Bool.false_eq_true,if_false];refine wpAny_bind (q7C 8 8 (Nat.le_refl _) pe he z ?_);simp only[Bool.false_eq_true,if_false];exact wpAny_pure ⟨rfl,rfl,tl⟩
 ·rintro⟨r1,r2⟩ s' ⟨hr,rfl,_⟩;simp only at hr;subst hr;exact wpAny_pure h
theorem if3 {α:Type}{M:Model}{c:Prop}[Decidable c] {m:Sem Bool}{a b:Sem α}{Q:α->Shared->Prop}(hm:∀Q':Bool->Shared->Prop,Q' false s->wpAny M A m Q' E s) (h:wpAny M A b Q E s):wpAny M A (if c then m >>= λ z=>if z=true then a else b else b) Q E s :=
 if2 (λ _=>wpAny_bind (hm _ (by simp only[Bool.false_eq_true,if_false];exact h))) λ _=>h
def Tups (ds:List D):Prop:=∀d∈ds,∃l,d = .tup l
theorem q53 (S:SetIn s.heap a Z t ep) (en:Ents s.heap Z ds) (tu:Tups ds) (px:plN 8 d=true) (hx:q03 d=true) (Dx:Dv s.heap d x) (hu:A.units+8<cLine) {N:Nat}(ff:q1j t.mask (hv d) (slots Z) N) {Q:SetFound->Shared->Prop}
  (hy:d∈ds->Q (.there none) s) (hq:d∉ds->Q (.free (path t.mask (hv d) N).j false) s) (hN:N<=10*(t.mask+13)) :
  ∀(fuel n:Nat) (st:Option SetTable.Probe),st.getD (t.probeStart (hv d))=path t.mask (hv d) n->n<=N->N-n<fuel->(∀k,k<n->∀(i:Nat) (z:Ent),Z[i]? = some z->ds[i]? = some d->z.1=(path t.mask (hv d) k).j->False)->
   wpAny (model prog w) A (setSearchFrom a x (hv d) true fuel st) Q E s
 |0,n,_,_,_,hf,_=>by lia
 |fuel+1,n,st,hst,hn,hf,hno=>by
  unfold setSearchFrom;refine wpAny_bind (q1H S ?_);dsimp only;rw[qEB S.wf,hst];simp only[Bool.false_eq_true,if_false];have hh:∀(i:Nat) (z:Ent),Z[i]? = some z->(((Z.map (·.2)).toArray[i]?.map (·.1)).getD 0)=z.2.1:=λ i z hz=>by simp[hz]
  generalize hg:SetTable.probe t _ (hv d) (path t.mask (hv d) n)=g;rcases q9h S.wf hh ff (10*SetTable.turns t.mask) n hn (by unfold SetTable.turns;lia) with ⟨k,i,z,h1,h2,h3,h4,h5,h6,h7⟩|⟨h1,h2⟩
  ·have hg':=hg.symm.trans h7;subst hg';dsimp only;obtain⟨e,e1,e2,e3,e4,e5⟩:=en.at h3;have hes:(Z.map (·.2)).toArray[i]? = some z.2:=(by simp[h3]);refine if3 (λ Q' hq'=>qEC px hx Dx (λ y hy'=>?_) hq') ?_
   ·simp only[List.mem_map] at hy';obtain⟨y',hy1,rfl⟩:=hy';have hm:y'∈(Z.map (·.2)).toArray:=(Array.mem_filter.mp (Array.mem_def.mpr hy1)).1;have hm2:y'∈Z.map (·.2):=(by simpa using hm);obtain⟨zz,hz1,rfl⟩:=List.mem_map.mp hm2;obtain⟨i',hi',ei'⟩:=List.getElem_of_mem hz1;obtain⟨f,_,f2,f3,f4,f5⟩:=en.at (i:=i') (z:=zz) (by rw[List.getElem?_eq_getElem hi',ei']);exact⟨f,f2,f4,f5⟩
   rw[hes];dsimp only;refine wpAny_bind (wpAny_holding (q2p 8 (A:=A) e4 px e2 Dx hu prog w E _ ?_));refine wpAny_bind (q1H S ?_)
   by_cases c:e=d
   ·subst c;rw[(q0Y e5 hx).mpr rfl];exact wpAny_pure (hy (List.mem_of_getElem? e1))
   ·have ne:eqb e d=false:=by
     cases q:eqb e d with
     |false=>rfl
     |true=>exact absurd ((q0Y e5 hx).mp q) c
    rw[ne];dsimp only;rw[if_neg (by decide)];have sm:t.sameMemory t.moves t.mask=some true:=(by unfold SetTable.sameMemory;simp);rw[sm];have hs:(slots Z)[i]? = some (path t.mask (hv d) k).j:=(by unfold slots;rw[List.getElem?_map,h3];exact congrArg some h4);have sl:=q21 S.wf.place S.wf.ris hs;dsimp only;rw[if_pos rfl,sl];dsimp only;rw[hes];dsimp only;obtain⟨l,rfl⟩:=tu e (List.mem_of_getElem? e1);obtain⟨b,us,eb,x1,x2⟩:=e2;rw[eb];refine wpAny_bind (wpAny_isSame_ref_self (wpAny_bind (wpAny_pure ?_)));rw[if_pos rfl];dsimp only;rw[if_neg (by decide)];refine q53 S en tu px hx Dx hu ff hy hq hN fuel (k+1) _ rfl (by lia) (by lia) λ k' hk' i' z' hz' hd' ez'=>?_;have hz:=en.2 i' z' d hz' hd'
    by_cases c1:k'<n
    ·exact hno k' c1 i' z' hz' hd' ez'
    ·by_cases c2:k'=k
     ·subst c2;have hs':(slots Z)[i']? = some (path t.mask (hv d) k').j:=(by unfold slots;rw[List.getElem?_map,hz'];exact congrArg some ez');have q1:=q21 S.wf.place S.wf.ris hs';rw[sl] at q1;cases q1;rw[e1] at hd';exact c (Option.some.inj hd')
     ·exact h6 k' (by lia) (by lia) ⟨z',List.mem_of_getElem? hz',ez',hz.2.1.symm⟩
  ·have hg':=hg.symm.trans h2;subst hg';dsimp only;refine wpAny_pure (hq λ hm=>?_);obtain⟨i,hi,ei⟩:=List.getElem_of_mem hm;have hi2:i<Z.length:=(by rw[en.1];exact hi);have hdi:ds[i]? = some d:=(by rw[List.getElem?_eq_getElem hi,ei]);have hzi:Z[i]? = some Z[i]:=(by simp[hi2]);have hz:=en.2 i Z[i] d hzi hdi;obtain⟨k,k1,k2⟩:=qGk S.wf ff (List.getElem_mem hi2) hz.2.1.symm
   by_cases c:k<n
   ·exact hno k c i _ hzi hdi k2
   ·exact h1 k (by lia) k1 ⟨_,List.getElem_mem hi2,k2,hz.2.1.symm⟩
end
end Snd
namespace Snd
open PySem PySem.Spec PySem.W PyProof.Rows L2 Ev SetT
variable {h:Heap}{Z:List Ent}
def Rl (h:Heap) (e:Int×Value) (d:D):Prop:=Dv h d e.2/\hv d=e.1/\plN 8 d=true/\q03 d=true
def Prs (h:Heap) (P:List ((Int×Value)×D)):Prop:=∀p∈P,Rl h p.1 p.2
theorem Prs.ents {P:List ((Int×Value)×D)}(q:Prs h P) (e:P.map (·.1)=Z.map (·.2)):Ents h Z (P.map (·.2)):=by
 have hl:P.length=Z.length:=by have:=congrArg List.length e;simpa using this
 refine⟨by simp[hl],λ i z d hz hd=>?_⟩;rw[List.getElem?_map] at hd;cases hp:P[i]? with
 |none=>rw[hp] at hd;cases hd
 |some p =>
  rw[hp] at hd;have e1:p.2=d:=Option.some.inj hd;have e2:(P.map (·.1))[i]? = some p.1:=by rw[List.getElem?_map,hp];rfl
  rw[e,List.getElem?_map,hz] at e2;have e3:z.2=p.1:=Option.some.inj e2;have:=q p (List.mem_of_getElem? hp);rw[<-e3,e1] at this;exact this
theorem q54 {α β:Type}(f:α->β) {l m:List β}(p:l.Perm m):∀P:List α,P.map f=m->∃P':List α,P'.Perm P/\P'.map f=l:=by
 induction p with
 |nil=>exact λ P e=>⟨P,.refl _,e⟩
 |cons x _ ih =>
  intro P e;cases P with
  |nil=>cases e
  |cons y P =>
   simp only[List.map_cons,List.cons.injEq] at e;obtain⟨P',p1,p2⟩:=ih P e.2;exact⟨y::P',p1.cons y,by rw[List.map_cons,e.1,p2]⟩
 |swap x y l =>
  intro P e
  match P,e with
  |u::v::P,e =>
   simp only[List.map_cons,List.cons.injEq] at e;exact⟨v::u::P,.swap _ _ _,by simp[e.1,e.2.1,e.2.2]⟩
 |trans _ _ ih1 ih2 =>
  intro P e;obtain⟨P1,p1,e1⟩:=ih2 P e;obtain⟨P2,p2,e2⟩:=ih1 P1 e1;exact⟨P2,p2.trans p1,e2⟩
structure SetD (M:D->Value->Prop) (h₀ h:Heap) (a:Addr) (ds:List D) (led:Bool):Prop where
 ex:∃Z t ep P,SetIn h a Z t ep/\Prs h₀ P/\P.map (·.1)=Z.map (·.2)/\(P.map (·.2)).Perm ds/\t.tooFull=false/\t.led=led/\∀p∈P,M p.2 p.1.2
 kp:∀b o,h₀.get? b=some o->h.get? b=some o
 nw:h₀.get? a=none
theorem Prs.keep {h':Heap}{P:List ((Int×Value)×D)}(q:Prs h P) (k:∀b o,h.get? b=some o->h'.get? b=some o):Prs h' P:=λ p hp=>let ⟨r1,r2⟩:=q p hp;⟨(q4s k).1 _ _ r1,r2⟩
theorem q9i {h₀ h':Heap}{a:Addr}(kp:∀b o,h₀.get? b=some o->h.get? b=some o) (nw:h₀.get? a=none) (k:Heap.SameBut a h h'):∀b o,h₀.get? b=some o->h'.get? b=some o:=λ b o e=>by rw[k.2 b (λ c=>by subst c;rw[nw] at e;cases e)];exact kp b o e
section
variable {prog:Program}{w:World}{A:Around}{E:Value->Shared->Prop}{s:Shared}{a:Addr}{ds:List D}{x:Value}{d:D}{led:Bool}
theorem q5i {m n:Nat}(g:q2O m) (h1:n*5≥m*3) (h2:(n-1)*5<m*3) (h3:n<=64):q2O (SetTable.sizeAbove (SetTable.grown n)-1)/\n<=SetTable.sizeAbove (SetTable.grown n)-1/\n*5<(SetTable.sizeAbove (SetTable.grown n)-1)*3:=by
 rcases g with g|g|g
 ·have:n=5:=by lia
  subst this;unfold q2O;decide
 ·have:n=19:=by lia
  subst this;unfold q2O;decide
 ·lia
theorem q4W {Z':List Ent}{t t':SetTable}{ep:Nat}(S:SetIn s.heap a Z t ep) (wf:WF t' Z') (pl:t'.plain=true) (hl:Z'.length<=64) {Q:Unit->Shared->Prop}
  (h:∀h',Heap.SameBut a s.heap h'->SetIn h' a Z' t' (ep+1)->Q () {s with heap:=h'}):wpAny (model prog w) A (storeSet a (Z'.map (·.2)).toArray t') Q E s:=by
 obtain⟨o,ho,hx,hd⟩:=S.obj;have hg:(s.heap.update a (Obj.putSet (Z'.map (·.2)).toArray t')).get? a=some {o with data:= .set (Z'.map (·.2)).toArray (ep+1) t'}:=by have:=Heap.get?_update_self (Obj.putSet (Z'.map (·.2)).toArray t') ho (by rw[putSet_of _ t' hd];rfl);rw[putSet_of _ t' hd] at this;exact this
 refine wpAny_storeSet_of ho hd (h _ (Heap.SameBut.update s.heap a _) ⟨⟨_,hg,hx,rfl⟩,wf,pl⟩) ?_;rw[sizeLine_eq];simp;lia
theorem qED {t:SetTable}{ep n:Nat}(S:SetIn s.heap a Z t ep) (hn:n=Z.length) (g:q2O (SetTable.sizeAbove (SetTable.grown n)-1)) (few:n<=SetTable.sizeAbove (SetTable.grown n)-1) (hl:n<=64) {Q:Unit->Shared->Prop}
  (h:∀h' Z' t',Heap.SameBut a s.heap h'->SetIn h' a Z' t' (ep+1)->(Z'.map (·.2)).Perm (Z.map (·.2))->t'.mask=SetTable.sizeAbove (SetTable.grown n)-1->t'.led=t.led->Q () {s with heap:=h'}):wpAny (model prog w) A (setRelay a (SetTable.grown n)) Q E s:=by
 obtain⟨t',order,Z',r1,r2,r3,r4,r5,r6,r7⟩:=q52 t (Z.map (·.2)) (SetTable.grown n) g (by rw[List.length_map,<-hn];exact few);unfold setRelay;refine wpAny_bind (q1H S ?_);dsimp only;have hs:¬(SetTable.sizeAbove (SetTable.grown n) > sizeLine):=by rw[sizeLine_eq];rcases g with g|g|g<;>lia
 rw[if_neg hs];refine wpAny_bind ?_;rw[r1];have hz:Z'.length=Z.length:=by have:=r4.length_eq;simpa using this
 change wpAny _ _ (if ((order.filterMap ((Z.map (·.2)).toArray[·]?)).size != (Z.map (·.2)).toArray.size)=true then (unsupported "internal:set-table-lost-an-element" >>= λ _=>pure (order.filterMap ((Z.map (·.2)).toArray[·]?),t')) else pure (order.filterMap ((Z.map (·.2)).toArray[·]?),t')) _ _ _;rw[r3,if_neg (by simp[hz])];exact wpAny_pure (q4W S r2 (by rw[r7];exact S.plain) (by lia) λ h' k S'=>h h' Z' t' k S' r4 r5 r6)
end
end Snd
namespace Snd
open PySem PySem.Spec PySem.W PyProof.Rows L2 Ev SetT
section
variable {prog:Program}{w:World}{A:Around}{E:Value->Shared->Prop}{s:Shared}{a:Addr}{ds:List D}{x:Value}{d:D}{led:Bool}{h₀:Heap}{M:D->Value->Prop}
theorem q7b (t:SetTable) (j:Nat) (h:t.plain=true):({(t.put j).1 with plain:=true}:SetTable)=(t.put j).1:=by obtain⟨a,b,c,e,f,g,p⟩:=t;cases h;rfl
theorem qGm (S:SetD M h₀ s.heap a ds led) (tu:Tups (d::ds)) (px:plN 8 d=true) (hx:q03 d=true) (Dx0:Dv h₀ d x) (mx:M d x) (hu:A.units+8<cLine) (hl:ds.length<64) {Q:Bool->Shared->Prop}
  (hy:d∈ds->Q false s) (hq:d∉ds->∀h',Heap.SameBut a s.heap h'->SetD M h₀ h' a (d::ds) led->Q true {s with heap:=h'}):wpAny (model prog w) A (setAddHashed a x (hv d)) Q E s:=by
 obtain⟨⟨Z,t,ep,P,S,pr,e1,e2,tf,le,mm⟩,kp,nw⟩:=S;have Dx:=(q4s kp).1 _ _ Dx0;have en:=(pr.keep kp).ents e1;have tu':Tups (P.map (·.2)):=λ e he=>tu e (List.mem_cons_of_mem _ (e2.mem_iff.mp he));have hlen:Z.length=ds.length:=by have h1:=congrArg List.length e1;have h2:=e2.length_eq;simp at h1 h2;lia
 have tf':Z.length*5<t.mask*3:=by have:=tf;unfold SetTable.tooFull at this;rw[S.wf.fill] at this;simpa using this
 obtain⟨N,n1,n2⟩:=q5g S.wf.good (hv d) (slots Z) (by have:=S.wf.few;simpa[slots] using this);have hm:t.mask<=127:=by rcases S.wf.good with h|h|h<;>lia
 obtain⟨l,rfl⟩:=tu d List.mem_cons_self;unfold setAddHashed setAddHashedIn;refine wpAny_holding (wpAny_bind (q1H S ?_));dsimp only;have bs:byScan x (Z.map (·.2)).toArray=false:=by obtain⟨b,us,rfl,_⟩:=Dx;rfl
 rw[bs];simp only[Bool.false_eq_true,if_false];unfold setSearch;refine wpAny_bind (q53 S en tu' px hx Dx hu n2 (λ hm=>?_) (λ hm=>?_) n1 100000 0 none rfl (Nat.zero_le _) (by lia) (λ k hk=>by lia))
 ·exact wpAny_pure (hy (e2.mem_iff.mp hm))
 ·dsimp only;refine wpAny_bind (q1H S ?_);dsimp only;rw[show (t.put (path t.mask (hv (.tup l)) N).j).1.plain=true from S.plain];rw[if_pos rfl];refine wpAny_bind (qFz 8 8 (Nat.le_refl _) px hx Dx ?_);rw[if_pos rfl];generalize hz:(path t.mask (hv (.tup l)) N).j=j;have wf:=S.wf.insert (x:=x) n2 (by have:=S.wf.good;rcases this with h|h|h<;>lia) true;rw[q7b _ _ S.plain] at wf;rw[hz] at wf;have hp:(t.put j).2<=Z.length:=by have:=(q1M (slots Z) S.wf.ris j).1;show SetTable.below t.place j<=_;rw[S.wf.place];simpa[slots] using this
  have ei:SetTable.insertAt (Z.map (·.2)).toArray (t.put j).2 (hv (.tup l),x)=((insZ Z (t.put j).2 (j,hv (.tup l),x)).map (·.2)).toArray:=by rw[q2x _ _ _ (by simpa using hp),q2e]
  have hlz:(insZ Z (t.put j).2 (j,hv (.tup l),x)).length=Z.length+1:=by have:=(q51 Z (t.put j).2 (j,hv (.tup l),x)).length_eq;simpa using this
  rw[ei]
  let P':List ((Int×Value)×D):=P.take (t.put j).2++((hv (.tup l),x),.tup l)::P.drop (t.put j).2
  have pp:P'.Perm (((hv (.tup l),x),.tup l)::P):=by refine List.perm_middle.trans (.cons _ ?_);rw[List.take_append_drop]
  have q1:P'.map (·.1)=(insZ Z (t.put j).2 (j,hv (.tup l),x)).map (·.2):=by rw[q2e,<-e1];simp[P',List.map_take,List.map_drop]
  have q2:(P'.map (·.2)).Perm (.tup l::ds):=List.Perm.trans (pp.map (λ p=>p.2)) (List.Perm.trans (by rw[List.map_cons]) (e2.cons (D.tup l)));have pr':Prs h₀ P':=λ p hp'=>by
   rcases List.mem_cons.mp (pp.mem_iff.mp hp') with h|h
   ·subst h;exact⟨Dx0,rfl,px,hx⟩
   ·exact pr p h
  have mm':∀p∈P',M p.2 p.1.2:=λ p hp'=>by
   rcases List.mem_cons.mp (pp.mem_iff.mp hp') with h|h
   ·subst h;exact mx
   ·exact mm p h
  have hno:D.tup l∉ds:=λ h=>hm (e2.mem_iff.mpr h);refine wpAny_bind (q4W S wf S.plain (by lia) λ h' k S'=>?_);have kp2:=q9i kp nw k;have hf:(t.put j).1.tooFull=decide ((Z.length+1)*5≥t.mask*3):=by unfold SetTable.tooFull;rw[wf.fill,hlz];rfl
  by_cases c:(Z.length+1)*5≥t.mask*3
  ·rw[if_pos (by rw[hf];simpa using c)];have hsz:(Z.map (·.2)).toArray.size+1=Z.length+1:=(by simp);obtain⟨g1,g2,g3⟩:=q5i S.wf.good c (by simpa using tf') (by lia);rw[hsz];refine wpAny_bind (qED S' hlz.symm g1 g2 (by lia) λ h2 Z2 t2 k2 S2 p2 m2 l2=>?_);obtain⟨P2,o1,o2⟩:=q54 (·.1) p2 P' q1;refine wpAny_pure (hq hno h2 (k.trans k2) ⟨⟨Z2,t2,_,P2,S2,λ p hp'=>pr' p (o1.mem_iff.mp hp'),o2,List.Perm.trans (o1.map (λ p=>p.2)) q2,?_,?_,λ p hp'=>mm' p (o1.mem_iff.mp hp')⟩,q9i kp2 nw k2,nw⟩)
   ·unfold SetTable.tooFull;rw[S2.wf.fill,m2];have hz2:Z2.length=Z.length+1:=(by have:=p2.length_eq;simp[hlz] at this;lia);rw[hz2];simpa using g3
   ·rw[l2];exact le
  ·rw[if_neg (by rw[hf];simpa using c)];exact wpAny_pure (hq hno h' k ⟨⟨_,_,_,P',S',pr',q1,q2,by rw[hf];simpa using c,le,mm'⟩,kp2,nw⟩)
end
end Snd
namespace Snd
open PySem PySem.Spec PySem.W PyProof.Rows L2 Ev SetT
theorem q5j {t:SetTable}{Z:List Ent}(wf:WF t Z) {h:Int}{hash:Nat->Int}(hh:∀i,(hash i==h)=false) {N:Nat}(ff:q1j t.mask h (slots Z) N) :
  ∀fuel n,n<=N->N-n<fuel->SetTable.probe.go t hash h fuel (path t.mask h n)=some (.empty (path t.mask h N).j none)
 |0,n,_,hf=>by lia
 |fuel+1,n,hn,hf=>by
  by_cases e:n=N
  ·subst e;unfold SetTable.probe.go;rw[q5f wf.place wf.dum ff.1];simp only[q3s]
  ·have hl:=ff.2 n (by lia);obtain⟨i,hi,ei⟩:=List.getElem_of_mem hl;have hs:(slots Z)[i]? = some (path t.mask h n).j:=(by rw[List.getElem?_eq_getElem hi,ei]);unfold SetTable.probe.go;rw[q21 wf.place wf.ris hs];simp only[hh i,Bool.false_eq_true,if_false];exact q5j wf hh ff fuel (n+1) (by lia) (by lia)
theorem qCD {t:SetTable}{Z:List Ent}(wf:WF t Z) {h:Int}{N:Nat}(ff:q1j t.mask h (slots Z) N) (hN:N<=10*(t.mask+13)):t.freeSlot h=some ((path t.mask h N).j,false):=by unfold SetTable.freeSlot;have:=q5j wf (h:=h) (hash:=λ _=>h+1) (λ i=>by simp;lia) ff (10*SetTable.turns t.mask) 0 (Nat.zero_le _) (by unfold SetTable.turns;lia);rw[show t.probe (λ _=>h+1) h (t.probeStart h)=_ from this];rfl
theorem q7c (t:SetTable) (es:List (Int×Value)) (wanted:Nat) (g:q2O (SetTable.sizeAbove wanted-1)) (few:es.length<=SetTable.sizeAbove wanted-1) {t':SetTable}{order:Array Nat}
  (h:t.relaid (es.toArray.map (·.1)) wanted=some (t',order)):order.toList.Perm (List.range es.length):=by
 obtain⟨owner,As,e,L⟩:=q3W g (es.map (·.1)) (by rw[List.length_map];exact few);have h2:SetTable.laid (SetTable.sizeAbove wanted-1) t.finger (t.movedTo (SetTable.sizeAbove wanted-1)) t.led t.plain (es.toArray.map (·.1))=some (t',order):=h;unfold SetTable.laid at h2;rw[show es.toArray.map (·.1)=(es.map (·.1)).toArray by simp,e] at h2;have h3:order=((q1W (SetTable.sizeAbove wanted-1) owner).map (·.2)).toArray:=(congrArg (·.2) (Option.some.inj h2)).symm;rw[h3];have:=q7a L;rw[List.length_map] at this;exact this
theorem q8e {Z:List Ent}{t:SetTable}{n:Nat}(hn:n=Z.length) (g:q2O (SetTable.sizeAbove (SetTable.grown n)-1)) (few:n<=SetTable.sizeAbove (SetTable.grown n)-1) :
  ∃Z' t',relayAll t (Z.map (·.2)).toArray (SetTable.grown n)=((Z'.map (·.2)).toArray,t',false)/\WF t' Z'/\(Z'.map (·.2)).Perm (Z.map (·.2))/\t'.mask=SetTable.sizeAbove (SetTable.grown n)-1/\t'.led=t.led/\t'.plain=t.plain:=by
 have fw:(Z.map (·.2)).length<=SetTable.sizeAbove (SetTable.grown n)-1:=by rw[List.length_map,<-hn];exact few
 obtain⟨t',order,Z',r1,r2,r3,r4,r5,r6,r7⟩:=q52 t (Z.map (·.2)) (SetTable.grown n) g fw;refine⟨Z',t',?_,r2,r4,r5,r6,r7⟩;have hp:=q7c t (Z.map (·.2)) (SetTable.grown n) g fw r1;unfold relayAll;rw[r1];dsimp only;rw[r3];have c1:coversAll order (Z.map (·.2)).toArray.size=true:=by unfold coversAll;rw[List.isPerm_iff];simpa using hp
 have c2:t'.fits (Z'.map (·.2)).toArray.size=true:=by unfold SetTable.fits;rw[r2.size,r2.fill];have:=r2.few;simp[this]
 rw[c1,c2];rfl
end Snd
namespace Snd
open PySem PySem.Spec PySem.W PyProof.Rows L2 Ev SetT
def Ints (ds:List D):Prop:=∀d∈ds,∃i,d = .int i
section
variable {prog:Program}{w:World}{A:Around}{E:Value->Shared->Prop}{s:Shared}{a:Addr}{ds:List D}{x:Value}{n:Int}{led:Bool}{h₀:Heap}{M:D->Value->Prop}
theorem qCE {M:Model}{Q:Unit->Shared->Prop}(h:Q () s):wpAny M A (match false with|true=>rule "set.scan.the-table-gave-way" | false=>pure ()) Q E s:=wpAny_pure h
theorem add_int (S:SetD M h₀ s.heap a ds led) (tu:Ints ds) (Dx0:Dv h₀ (.int n) x) (mx:M (.int n) x) (hl:ds.length<64) {Q:Bool->Shared->Prop}
  (hy : .int n∈ds->Q false s) (hq : .int n∉ds->∀h',Heap.SameBut a s.heap h'->SetD M h₀ h' a (.int n::ds) led->Q true {s with heap:=h'}):wpAny (model prog w) A (setAddHashed a x (hv (.int n))) Q E s:=by
 obtain⟨⟨Z,t,ep,P,S,pr,e1,e2,tf,le,mm⟩,kp,nw⟩:=S;have en:=(pr.keep kp).ents e1;have px:plN 8 (.int n)=true:=rfl;have hx:q03 (.int n)=true:=rfl;have hlen:Z.length=ds.length:=by have h1:=congrArg List.length e1;have h2:=e2.length_eq;simp at h1 h2;lia
 have tf':Z.length*5<t.mask*3:=by have:=tf;unfold SetTable.tooFull at this;rw[S.wf.fill] at this;simpa using this
 obtain⟨N,n1,n2⟩:=q5g S.wf.good (hv (.int n)) (slots Z) (by have:=S.wf.few;simpa[slots] using this);have fsl:=qCD S.wf n2 n1;obtain⟨tk,rfl⟩:=Dx0;have hel:ElemsOf (intKind prog w) (Z.map (·.2)):=λ e he=>by obtain⟨z,hz,rfl⟩:=List.mem_map.mp he;obtain⟨i,hi,ei⟩:=List.getElem_of_mem hz;obtain⟨d,d1,d2,d3,d4,d5⟩:=en.at (i:=i) (z:=z) (by rw[List.getElem?_eq_getElem hi,ei]);obtain⟨m,rfl⟩:=tu d (e2.mem_iff.mp (List.mem_of_getElem? d1));obtain⟨tk',d6⟩:=d2;rw[d6];exact⟨⟨m,by simp[intKind,Value.isInt],d3.symm⟩,rfl⟩
 have his:∀p∈P,(intKind prog w).is n p.1.2=true↔p.2 = .int n:=λ p hp=>by obtain⟨m,em⟩:=tu p.2 (e2.mem_iff.mp (List.mem_map.mpr ⟨p,hp,rfl⟩));have:=((pr.keep kp) p hp).1;rw[em] at this;obtain⟨tk',q⟩:=this;rw[q,em];simp[intKind,Value.isInt]
 unfold setAddHashed setAddHashedIn;obtain⟨o,ho,hex,hd⟩:=S.obj;refine wpAny_holding (wpAny_bind (q1H S ?_));dsimp only;rw[byScan_of (knd:=intKind prog w) rfl (by show (Z.map (·.2)).toArray.size<4096;simp;lia) (by simpa using hel)];rw[if_pos rfl];unfold setAddByScan;refine wpAny_bind (wpAny_bind (wpAny_rule ?_));refine wpAny_bind (wpAny_setScan_of (knd:=intKind prog w) (k:=n) (by simp[intKind,Value.isInt]) ho hd S.fits (by simpa using hel) ?_);cases hr:List.findIdx? (λ e=>(intKind prog w).is n e.2) (Z.map (·.2)).toArray.toList with
 |some j =>
  dsimp only;obtain⟨hj,hpj,_⟩:=List.findIdx?_eq_some_iff_getElem.mp hr;refine wpAny_pure (wpAny_pure (hy ?_));have hm:(Z.map (·.2)).toArray.toList[j]∈P.map (·.1):=by rw[e1];exact List.getElem_mem hj
  obtain⟨p,hp,ep'⟩:=List.mem_map.mp hm;rw[<-ep'] at hpj;exact e2.mem_iff.mp (List.mem_map.mpr ⟨p,hp,(his p hp).mp hpj⟩)
 |none =>
  dsimp only;have hno:D.int n∉ds:=λ h=>by
   obtain⟨p,hp,ep'⟩:=List.mem_map.mp (e2.mem_iff.mpr h);have h1:=(his p hp).mpr ep';have h2:p.1∈(Z.map (·.2)).toArray.toList:=by have:p.1∈P.map (λ p=>p.1):=List.mem_map.mpr ⟨p,hp,rfl⟩;rw[e1] at this;exact this
   have:=List.findIdx?_eq_none_iff.mp hr _ h2;rw[h1] at this;cases this
  generalize hz:(path t.mask (hv (.int n)) N).j=j at fsl;have wf:=S.wf.insert (x:= .int n tk) n2 (by have:=S.wf.good;rcases this with h|h|h<;>lia) true;rw[q7b _ _ S.plain] at wf;rw[hz] at wf;have hp:(t.put j).2<=Z.length:=by have:=(q1M (slots Z) S.wf.ris j).1;show SetTable.below t.place j<=_;rw[S.wf.place];simpa[slots] using this
  have ei:SetTable.insertAt (Z.map (·.2)).toArray (t.put j).2 (hv (.int n),.int n tk)=((insZ Z (t.put j).2 (j,hv (.int n),.int n tk)).map (·.2)).toArray:=by rw[q2x _ _ _ (by simpa using hp),q2e]
  have hlz:(insZ Z (t.put j).2 (j,hv (.int n),.int n tk)).length=Z.length+1:=by have:=(q51 Z (t.put j).2 (j,hv (.int n),.int n tk)).length_eq;simpa using this
  have hft:(t.put j).1.fits ((insZ Z (t.put j).2 (j,hv (.int n),.int n tk)).map (·.2)).toArray.size=true:=by unfold SetTable.fits;rw[wf.size,wf.fill];have:=wf.few;simp[this]
  have hL:layNew t (Z.map (·.2)).toArray (hv (.int n)) (.int n tk)=(((insZ Z (t.put j).2 (j,hv (.int n),.int n tk)).map (·.2)).toArray,(t.put j).1,false,false):=by unfold layNew;rw[fsl];dsimp only;rw[ei];unfold SetTable.orStandIn;rw[hft];rfl
  let P':List ((Int×Value)×D):=P.take (t.put j).2++((hv (.int n),.int n tk),.int n)::P.drop (t.put j).2
  have pp:P'.Perm (((hv (.int n),.int n tk),.int n)::P):=by refine List.perm_middle.trans (.cons _ ?_);rw[List.take_append_drop]
  have q1:P'.map (·.1)=(insZ Z (t.put j).2 (j,hv (.int n),.int n tk)).map (·.2):=by rw[q2e,<-e1];simp[P',List.map_take,List.map_drop]
  have q2:(P'.map (·.2)).Perm (.int n::ds):=List.Perm.trans (pp.map (λ p=>p.2)) (List.Perm.trans (by rw[List.map_cons]) (e2.cons (D.int n)));have pr':Prs h₀ P':=λ p hp'=>by
   rcases List.mem_cons.mp (pp.mem_iff.mp hp') with h|h
   ·subst h;exact⟨⟨tk,rfl⟩,rfl,px,hx⟩
   ·exact pr p h
  have mm':∀p∈P',M p.2 p.1.2:=λ p hp'=>by
   rcases List.mem_cons.mp (pp.mem_iff.mp hp') with h|h
   ·subst h;exact mx
   ·exact mm p h
  rw[hL];dsimp only;refine wpAny_bind (qCE ?_);rw[show (t.put j).1.plain=true from S.plain];rw[if_pos rfl,hashByValue_scannable 8 (x:= .int n tk) rfl];refine wpAny_bind (wpAny_pure ?_);rw[if_pos (show plainKind (.int n tk)=true from rfl)];refine wpAny_bind (q4W S wf S.plain (by lia) λ h' k S'=>?_);have kp2:=q9i kp nw k;have hf:(t.put j).1.tooFull=decide ((Z.length+1)*5≥t.mask*3):=by unfold SetTable.tooFull;rw[wf.fill,hlz];rfl
  by_cases c:(Z.length+1)*5≥t.mask*3
  ·rw[if_pos (by rw[hf];simpa using c)];obtain⟨g1,g2,g3⟩:=q5i S.wf.good c (by simpa using tf') (by lia);have hsz:((insZ Z (t.put j).2 (j,hv (.int n),.int n tk)).map (·.2)).toArray.size=Z.length+1:=(by simp[hlz]);rw[hsz];obtain⟨Z2,t2,y1,y2,y3,y4,y5,y6⟩:=q8e (Z:=insZ Z (t.put j).2 (j,hv (.int n),.int n tk)) (t:=(t.put j).1) hlz.symm g1 g2;rw[y1];dsimp only;have hz2:Z2.length=Z.length+1:=(by have:=y3.length_eq;simp[hlz] at this;lia);refine wpAny_bind (qCE ?_);refine wpAny_bind (q4W S' y2 (by rw[y6];exact S.plain) (by lia) λ h2 k2 S2=>?_);obtain⟨P2,o1,o2⟩:=q54 (·.1) y3 P' q1;refine wpAny_pure (wpAny_pure (hq hno h2 (k.trans k2) ⟨⟨Z2,t2,_,P2,S2,λ p hp'=>pr' p (o1.mem_iff.mp hp'),o2,List.Perm.trans (o1.map (λ p=>p.2)) q2,?_,?_,λ p hp'=>mm' p (o1.mem_iff.mp hp')⟩,q9i kp2 nw k2,nw⟩))
   ·unfold SetTable.tooFull;rw[S2.wf.fill,y4,hz2];simpa using g3
   ·rw[y5];exact le
  ·rw[if_neg (by rw[hf];simpa using c)];exact wpAny_pure (wpAny_pure (hq hno h' k ⟨⟨_,_,_,P',S',pr',q1,q2,by rw[hf];simpa using c,le,mm'⟩,kp2,nw⟩))
end
end Snd
namespace Snd
open PySem PySem.Spec PySem.W PyProof.Rows L2 Ev SetT
section
variable {prog:Program}{w:World}{A:Around}{E:Value->Shared->Prop}{s:Shared}{a:Addr}{ds xs:List D}{us:List Value}{led:Bool}{h₀:Heap}{M:D->Value->Prop}
def Kin (xs:List D):Prop:=Tups xs\/Ints xs
theorem qLG {d:D}{x:Value}(S:SetD M h₀ s.heap a ds led) (kn:Kin (d::ds)) (px:plN 8 d=true) (hx:q03 d=true) (Dx:Dv h₀ d x) (mx:M d x) (hu:A.units+10<cLine) (hl:ds.length<64) {Q:Bool->Shared->Prop}
  (hy:d∈ds->∀tk,Q false {s with toks:=tk}) (hq:d∉ds->∀h' tk,Heap.SameBut a s.heap h'->SetD M h₀ h' a (d::ds) led->Q true {s with heap:=h',toks:=tk}):wpAny (model prog w) A (setAdd a x) Q E s:=by
 unfold setAdd;refine wpAny_holding (wpAny_bind (qDT 8 px hx ((q4s S.kp).1 _ _ Dx) (by lia) λ tk=>?_));rcases kn with kn|kn
 ·exact qGm (s:={s with toks:=tk}) S kn px hx Dx mx (by lia) hl (λ h=>hy h tk) λ h h' k S'=>hq h h' tk k S'
 ·obtain⟨n,rfl⟩:=kn d List.mem_cons_self;exact add_int (s:={s with toks:=tk}) S (λ e he=>kn e (List.mem_cons_of_mem _ he)) Dx mx hl (λ h=>hy h tk) λ h h' k S'=>hq h h' tk k S'
theorem SetD.move {h h':Heap}{wr:List Addr}(S:SetD M h₀ h a ds led) (ha:a∉wr) (hw:∀b∈wr,h₀.get? b=none) (k:∀b o,b∉wr->h.get? b=some o->h'.get? b=some o):SetD M h₀ h' a ds led:=by obtain⟨⟨Z,t,ep,P,⟨⟨o,ho,r⟩,wf,pl⟩,q⟩,kp,nw⟩:=S;refine⟨⟨Z,t,ep,P,⟨⟨o,k a o ha ho,r⟩,wf,pl⟩,q⟩,λ b o e=>k b o (λ hb=>?_) (kp b o e),nw⟩;rw[hw b hb] at e;cases e
theorem q9j {i:Nat}{d e:D}(h:xs[i]? = some d):e∈xs.take (i+1)↔e=d\/e∈xs.take i:=by rw[List.take_succ,h,List.mem_append];simp;exact Or.comm
theorem q4X {R:Result->Shared->Prop}{I:Addr}{fp wr:List Addr}{n:Nat}{P:Nat->Value->Prop}{St:Nat->Heap->Prop}(W:Walks prog w A.in1 I fp wr n P St) (haf:a∉fp) (hw:∀b∈wr,h₀.get? b=none)
  (dx:DvL h₀ xs us) (mx:∀(i:Nat) d v,xs[i]? = some d->us[i]? = some v->M d v) (hP:∀i v,P i v->us[i]? = some v) (hn:n=us.length) (kn:Kin xs) (hh:q0A xs=true) (hp:∀d∈xs,plN 8 d=true) (hu:A.units+11<cLine) (hl:∀l:List D,l.Nodup->(∀d∈l,d∈xs)->l.length<64) :
  ∀(k i:Nat) (s:Shared) (ds:List D),n-i=k->i<=n->St i s.heap->SetD M h₀ s.heap a ds led->ds.Nodup->(∀d,d∈ds↔d∈xs.take i)->
   (∀h' tk ds',(∀b o,b∉a::wr->s.heap.get? b=some o->h'.get? b=some o)->SetD M h₀ h' a ds' led->ds'.Nodup->(∀d,d∈ds'↔d∈xs)->R (.ok (.ret .none)) {s with heap:=h',toks:=tk})->
   codeAny (model prog w) A (.builtin "set.update.loop" ⟨[.ref a,.ref I],[]⟩) R s:=by
 have haw:a∉wr:=λ h=>haf (W.sub _ h);have hxl:=dx.length;intro k
 induction k with
 |zero =>
  intro i s ds hk hi hst S nd hm hR;have:i=n:=by lia
  subst this;refine codeAny_builtin F.entry_set_update_loop ?_;rw[Around.under_plainId F.plain_set_update_loop _];show wpAny _ A.in1 (pyNext (.ref I) >>= _) _ _ s;refine wpAny_bind (W.done s _ _ hst λ h' tk hm'=>?_);show wpAny _ A.in1 (ret Value.none) _ _ _;refine wpAny_pure (hR h' tk ds (λ b o hb e=>hm' b o (λ h=>hb (List.mem_cons_of_mem _ h)) e) (S.move haw hw hm') nd λ d=>?_);rw[hm d,List.take_of_length_le (by lia)]
 |succ k ih =>
  intro i s ds hk hi hst S nd hm hR;refine codeAny_builtin F.entry_set_update_loop ?_;rw[Around.under_plainId F.plain_set_update_loop _];show wpAny _ A.in1 (pyNext (.ref I) >>= _) _ _ s;refine wpAny_bind (W.item i s _ _ (by lia) hst λ v h1 tk1 hv hst' hm'=>?_);have hv':=hP i v hv;have hix:i<xs.length:=by lia
  have hdi:xs[i]? = some xs[i]:=by simp[hix]
  obtain⟨v',hv2,Dx⟩:=dx.get hdi;rw[hv'] at hv2;cases hv2;have S1:=S.move haw hw hm';have sub:∀d∈ds,d∈xs:=λ d hd=>List.mem_of_mem_take ((hm d).mp hd);have hmem:xs[i]∈xs:=List.getElem_mem hix;have kn':Kin (xs[i]::ds):=by
   rcases kn with kn|kn
   ·exact .inl λ d hd=>(List.mem_cons.mp hd).elim (λ h=>kn d (h▸hmem)) λ h=>kn d (sub d h)
   ·exact .inr λ d hd=>(List.mem_cons.mp hd).elim (λ h=>kn d (h▸hmem)) λ h=>kn d (sub d h)
  show wpAny _ A.in1 (holding [v] (setAdd a v) >>= _) _ _ _;refine wpAny_bind (wpAny_holding (qLG (s:={s with heap:=h1,toks:=tk1}) S1 kn' (hp _ hmem) (q0S.mp hh _ hmem) Dx (mx i _ _ hdi hv') (by rw[Around.in1_units];lia) (hl ds nd sub) (λ hd tk=>?_) λ hd h2 tk k2 S2=>?_))
  ·refine wpAny_pure ⟨plainId_quiet F.plain_set_update_loop _,ih (i+1) _ ds (by lia) (by lia) hst' S1 nd (λ d=>?_) λ h3 tk3 ds3 k3 S3 nd3 m3=>?_⟩
   ·rw[q9j hdi,hm d];exact⟨.inr,λ h=>h.elim (λ e=>e▸(hm _).mp hd) id⟩
   ·exact hR h3 tk3 ds3 (λ b o hb e=>k3 b o hb (hm' b o (λ h=>hb (List.mem_cons_of_mem _ h)) e)) S3 nd3 m3
  ·refine wpAny_pure ⟨plainId_quiet F.plain_set_update_loop _,ih (i+1) _ (xs[i]::ds) (by lia) (by lia) (W.frame _ _ _ hst' λ b hb o e=>?_) S2 (List.nodup_cons.mpr ⟨hd,nd⟩) (λ d=>?_) λ h3 tk3 ds3 k3 S3 nd3 m3=>?_⟩
   ·show h2.get? b=some o;rw[k2.2 b (λ h:b=a=>haf (by rw[<-h];exact hb))];exact e
   ·rw[q9j hdi,List.mem_cons,hm d]
   ·refine hR h3 tk3 ds3 (λ b o hb e=>k3 b o hb ?_) S3 nd3 m3;show h2.get? b=some o;rw[k2.2 b (λ h:b=a=>hb (by rw[h];exact List.mem_cons_self))];exact hm' b o (λ h=>hb (List.mem_cons_of_mem _ h)) e
end
end Snd
namespace Snd
open PySem PySem.Spec PySem.W PyProof.Rows L2 Ev SetT
def byT (w:World):Bool:=w.params.followText "set-order"
def set0 (w:World):Obj:={cls:= .type "set",dict:=none,data:= .set #[] 0 (.fresh 0 0 (!byT w))}
section
variable {prog:Program}{w:World}{A:Around}{E:Value->Shared->Prop}{s:Shared}{a:Addr}{ds xs:List D}{us:List Value}{led:Bool}{h₀:Heap}{M:D->Value->Prop}
theorem qGn (v:Value) {Q₁:Value->Shared->Prop}(h:Q₁ (.ref s.heap.objs.size) {s with heap:=s.heap.push (set0 w)}):codeAny (model prog w) A (.call (.builtin "set.__new__") ⟨[.type "set",v],[]⟩) (wants Q₁ E) s:=by
 refine codeAny_of_tree (show wpAny _ A.in1 (checkBuiltinCall "set.__new__" ⟨[.type "set",v],[]⟩ >>= λ _=>again (.builtin "set.__new__" ⟨[.type "set",v],[]⟩)) _ _ s from ?_);refine wpAny_bind (wpAny_of_eq (F.newCall_set_1 v) (wpAny_pure (And.intro (plainId_quiet F.plain_set_new _) (codeAny_builtin F.entry_set_new ?_))));rw[(Around.under_plainId F.plain_set_new _)];unfold Builtin.«set.__new__»;unfold Builtin.Frozenset.newClass;have hss:=sub_set_self;obtain⟨hp,ge,dr,tk,os⟩:=s;dsimp only
 wp_walk
 refine wpAny_askSetting (wpAny_pure ?_);dsimp only;simp only[newObj];exact wpAny_bind (wpAny_alloc (wpAny_pure (wpAny_pure h)))
theorem qJf (hn:h₀.get? h₀.objs.size=none):SetD M h₀ (h₀.push (set0 w)) h₀.objs.size [] (!byT w):=by refine⟨⟨[],.fresh 0 0 (!byT w),0,[],⟨⟨set0 w,Heap.get?_push_size _ rfl,⟨rfl,rfl,rfl⟩,rfl⟩,⟨rfl,List.Pairwise.nil,rfl,.inl rfl,λ z hz=>by simp at hz,Nat.zero_le _,λ z hz=>by simp at hz⟩,rfl⟩,λ p hp=>by simp at hp,rfl,.nil,rfl,rfl,λ p hp=>by simp at hp⟩,λ b o e=>Heap.get?_push_of_some _ e,hn⟩
structure Src (prog:Program) (w:World) (ty:String) (l:Addr) (us:List Value) (h:Heap) (St:Addr->Nat->Heap->Prop):Prop where
 obj:∃o n,h.get? l=some o/\o.cls = .type ty/\o.data = .seq us.toArray n
 sub1:isSubtype (.type ty) (.type "set")=pure false
 sub2:isSubtype (.type ty) (.type "frozenset")=pure false
 ne:(Value.type ty==Value.type "dict")=false
 walks:∀{A:Around}(I:Addr),A.handled=none->l≠I->Walks prog w A I [I,l] [I] us.length (λ i v=>us[i]? = some v) (St I)
 iter:∀{A:Around}{E:Value->Shared->Prop}{s:Shared}{Q:Value->Shared->Prop},(∀o,h.get? l=some o->s.heap.get? l=some o)->
  (∀o:Obj,St s.heap.objs.size 0 (s.heap.push o)->Q (.ref s.heap.objs.size) {s with heap:=s.heap.push o})->wpAny (model prog w) A (pyIter (.ref l)) Q E s
theorem src_list {l:Addr}{h:Heap}(hl:h.IsList l us.toArray):Src prog w "list" l us h (λ I i h=>h.IsListIter I l i/\h.IsList l us.toArray):=by
 have hl':=hl;obtain⟨o,ho,hc,n,hd⟩:=hl';refine⟨⟨o,n,ho,hc,hd⟩,F.sub_list_set,F.sub_list_frozenset,by decide,λ I hh ne=>by simpa using Walks.list hh I l ne us.toArray,λ k hq=>?_⟩;have hl2:Heap.IsList _ l us.toArray:=⟨o,k o ho,hc,n,hd⟩
 exact wpAny_pyIter_list hl2 (hq _ ⟨⟨_,Heap.get?_push_size _ rfl,rfl,rfl⟩,o,Heap.get?_push_of_some _ (k o ho),hc,n,hd⟩)
theorem src_tuple {l:Addr}{h:Heap}(hl:h.IsTuple l us.toArray):Src prog w "tuple" l us h (λ I i h=>h.IsTupleIter I l i/\h.IsTuple l us.toArray):=by
 have hl':=hl;obtain⟨o,ho,hc,n,hd⟩:=hl';refine⟨⟨o,n,ho,hc,hd⟩,F.sub_tuple_set,F.sub_tuple_frozenset,by decide,λ I hh ne=>by simpa using Walks.tuple hh I l ne us.toArray,λ k hq=>?_⟩;have hl2:Heap.IsTuple _ l us.toArray:=⟨o,k o ho,hc,n,hd⟩
 exact wpAny_pyIter_tuple hl2 (hq _ ⟨⟨_,Heap.get?_push_size _ rfl,rfl,rfl⟩,o,Heap.get?_push_of_some _ (k o ho),hc,n,hd⟩)
end
end Snd
namespace Snd
open PySem PySem.Spec PySem.W PyProof.Rows L2 Ev SetT
section
variable {prog:Program}{w:World}{A:Around}{E:Value->Shared->Prop}{s:Shared}{a:Addr}{ds xs:List D}{us:List Value}{led:Bool}{h₀:Heap}
theorem qAR (h:Heap):h.get? h.objs.size=none:=by
 cases e:h.get? h.objs.size with
 |none=>rfl
 |some o=>exact absurd (Heap.lt_size e) (Nat.lt_irrefl _)
def Made (w:World) (xs:List D) (us:List Value) (s:Shared) (h':Heap):Prop:=∃ds,SetD (λ d v=>∃i:Nat,xs[i]? = some d/\us[i]? = some v) s.heap h' s.heap.objs.size ds (!byT w)/\ds.Nodup/\∀d,d∈ds↔d∈xs
theorem qJg {ty:String}{l:Addr}{St:Addr->Nat->Heap->Prop}{Q:Unit->Shared->Prop}(S:Src prog w ty l us s.heap St) (hh:A.handled=none)
  (dx:DvL s.heap xs us) (kn:Kin xs) (hx:q0A xs=true) (hp:∀d∈xs,plN 8 d=true) (hu:A.units+16<cLine) (hl:∀l:List D,l.Nodup->(∀d∈l,d∈xs)->l.length<64)
  (h:∀(h':Heap) (tk:Nat),Made w xs us s h'->Q () {s with heap:=h',toks:=tk}) :
  wpAny (model prog w) A (pyIter (.ref l)) (λ a s'=>wpAny (model prog w) A (runValue (.builtin "set.update.loop" ⟨[.ref s.heap.objs.size,a],[]⟩) >>= λ _=>pure ()) Q E s') E {s with heap:=s.heap.push (set0 w)}:=by
 obtain⟨ol,nl,hol,_⟩:=S.obj;have hlt:=Heap.lt_size hol;refine S.iter (λ o e=>Heap.get?_push_of_some _ e) λ o hst=>?_;have hsz:(s.heap.push (set0 w)).objs.size=s.heap.objs.size+1:=Heap.size_push _ _;refine wpAny_bind (wpAny_runValue ?_);refine q4X (M:=λ d v=>∃i:Nat,xs[i]? = some d/\us[i]? = some v) (h₀:=s.heap) (led:=!byT w) (S.walks (s.heap.push (set0 w)).objs.size (by simp[hh]) (by rw[hsz];exact Nat.ne_of_lt (Nat.lt_succ_of_lt hlt))) ?_ ?_ dx (λ i d v e1 e2=>⟨i,e1,e2⟩) (λ i v e=>e) rfl kn hx hp (by lia) hl (us.length-0) 0 _ [] rfl (Nat.zero_le _) hst ?_ List.nodup_nil (λ d=>by simp) λ h' tk ds' k S' nd m=>?_
 ·rw[hsz];simp only[List.mem_cons,List.not_mem_nil,or_false,not_or];exact⟨Nat.ne_of_lt (Nat.lt_succ_self _),Nat.ne_of_gt hlt⟩
 ·intro b hb;rw[List.mem_singleton.mp hb,hsz];cases e:s.heap.get? (s.heap.objs.size+1) with
  |none=>rfl
  |some o'=>exact absurd (Heap.lt_size e) (Nat.not_lt.mpr (Nat.le_succ _))
 ·obtain⟨⟨Z,t,ep,P,⟨⟨o',ho,r⟩,wf,pl⟩,q⟩,kp,nw⟩:=qJf (M:=λ d v=>∃i:Nat,xs[i]? = some d/\us[i]? = some v) (w:=w) (qAR s.heap);exact⟨⟨Z,t,ep,P,⟨⟨o',Heap.get?_push_of_some _ ho,r⟩,wf,pl⟩,q⟩,λ b o' e=>Heap.get?_push_of_some _ (kp b o' e),nw⟩
 ·show wpAny _ _ _ _ _ _;exact wpAny_pure (h h' tk ⟨ds',S',nd,m⟩)
end
end Snd
namespace Snd
open PySem PySem.Spec PySem.W PyProof.Rows L2 Ev SetT
section
variable {prog:Program}{w:World}{A:Around}{E:Value->Shared->Prop}{s:Shared}{a:Addr}{ds xs:List D}{us:List Value}{led:Bool}{h₀:Heap}
set_option maxHeartbeats 3200000 in
theorem qJh {ty:String}{l:Addr}{St:Addr->Nat->Heap->Prop}{Q:Value->Shared->Prop}(S:Src prog w ty l us s.heap St) (hh:A.handled=none)
  (dx:DvL s.heap xs us) (kn:Kin xs) (hx:q0A xs=true) (hp:∀d∈xs,plN 8 d=true) (hu:A.units+20<cLine) (hl:∀l:List D,l.Nodup->(∀d∈l,d∈xs)->l.length<64)
  (h:∀(h':Heap) (tk:Nat),Made w xs us s h'->Q (.ref s.heap.objs.size) {s with heap:=h',toks:=tk}):wpAny (model prog w) A (call (.type "set") [.ref l]) Q E s:=by
 obtain⟨c0,tl0,mro0⟩:=F.called_set.mro;have made0:=F.called_set.made;have sub0:=F.called_set.sub;refine wpAny_call (codeAny_of_tree (show wpAny _ _ (callAny (.type "set") _) _ _ _ from ?_));refine wpAny_pure (And.intro (Code.quiet_builtin _ (by decide +kernel)) (codeAny_builtin F.entry_type_call ?_));rw[(Around.under_plain (weight_type_call_type "set" [.ref l] []) rfl)];have ht:=F.called_set.notType;have hcc:=F.called_set.canCreate;have htc:=F.typeCall_set_1 (.ref l)
 repeat (any_goals (first|assumption|wp_step))
 refine codeAny_mono (qGn (.ref l) (E:=E) (Q₁:=λ v s₁=>v = .ref s.heap.objs.size/\s₁={s with heap:=s.heap.push (set0 w)}) ⟨rfl,rfl⟩) λ r s₁ hr=>?_;cases r with
 |error e=>exact hr
 |ok fl =>
  cases fl with
  |ret v =>
   obtain⟨rfl,rfl⟩:=hr;have g0:(s.heap.push (set0 w)).get? s.heap.objs.size=some (set0 w):=Heap.get?_push_size _ rfl;have T0:Shared.TypeIs {s with heap:=s.heap.push (set0 w)} (.ref s.heap.objs.size) "set":=⟨_,g0,rfl⟩
   have li:=F.called_set.init.lookup;have bi:=F.called_set.init.bind (.ref s.heap.objs.size)
   repeat (any_goals (first|assumption|wp_step))
   refine codeAny_mono (codeAny_call_builtin (R:=wants (λ r s₂=>r = .none/\∃h' tk,s₂={s with heap:=h',toks:=tk}/\Made w xs us s h') E) F.called_set.init.plain F.entry_set_init (check_set_init_1 T0 ?_)) λ r₂ s₂ hr₂=>?_
   ·obtain⟨ol,nl,hol,hcl,hdl⟩:=S.obj;have e1:=S.sub1;have e2:=S.sub2;have e3:=S.ne;obtain⟨ocl,odi,oda,osl⟩:=ol;simp only at hcl hdl;subst hcl hdl;have hol':=Heap.get?_push_of_some (set0 w) hol;unfold Builtin.«set.__init__»;unfold noKeywords Builtin.Frozenset.updateFrom;generalize hPI:pyIter=PI
    wp_walk
    subst hPI;exact qJg S (by simp[hh]) dx kn hx hp (by simp;lia) hl λ h' tk m=>wpAny_pure ⟨rfl,h',tk,rfl,m⟩
   ·cases r₂ with
    |error e=>exact hr₂
    |ok fl₂ =>
     cases fl₂ with
     |ret r =>
      obtain⟨rfl,h',tk,rfl,m⟩:=hr₂
      repeat (any_goals (first|assumption|wp_step))
      exact h _ _ m
     |_=>exact hr₂.elim
  |_=>exact hr.elim
end
end Snd
namespace Snd
open PySem PySem.Spec PySem.W PyProof.Rows L2 Ev SetT
theorem q3t:Slot "set_iterator" "__next__" "set_iterator.__next__":=by
 refine .of (owner := "set_iterator") (n := "__next__") ?_ (by decide +kernel) (by decide +kernel) (by decide +kernel) ?_ ?_
 ·rw[typeLookup_type,builtinLookup_eq_fast];kernel_rfl
 ·first
   |exact .inl (by decide +kernel)
   |exact .inr (by decide +kernel)
 ·rw[isSubtype_type];kernel_rfl
theorem qCF:Slot "set_iterator" "__iter__" "set_iterator.__iter__":=by
 refine .of (owner := "set_iterator") (n := "__iter__") ?_ (by decide +kernel) (by decide +kernel) (by decide +kernel) ?_ ?_
 ·rw[typeLookup_type,builtinLookup_eq_fast];kernel_rfl
 ·first
   |exact .inl (by decide +kernel)
   |exact .inr (by decide +kernel)
 ·rw[isSubtype_type];kernel_rfl
theorem q7d:entryFor table "set_iterator.__next__" = some Builtin.«set_iterator.__next__»:=entryFor_of_tree (by kernel_rfl)
theorem qCG:entryFor table "set_iterator.__iter__" = some Builtin.«dict_keyiterator.__iter__»:=entryFor_alias (id' := "dict_keyiterator.__iter__") (by kernel_rfl) (by decide +kernel) (by decide +kernel) (by kernel_rfl)
theorem qAS:entryFor table "set.__iter__" = some Builtin.«frozenset.__iter__»:=entryFor_alias (id' := "frozenset.__iter__") (by kernel_rfl) (by decide +kernel) (by decide +kernel) (by kernel_rfl)
theorem q7e (a:Value):argsOk "set_iterator.__next__" ⟨[a],[]⟩:=by unfold argsOk;kernel_rfl
theorem qCH (a:Value):argsOk "set_iterator.__iter__" ⟨[a],[]⟩:=by unfold argsOk;kernel_rfl
end Snd
namespace Snd
open PySem PySem.Spec PySem.W PyProof.Rows L2 Ev SetT
def wkO (w:World) (a:Addr) (ep:Nat) (Z:List Ent):List (Int×Value):=if byT w then (pickOrder (w.params.setOrder a ep) (Z.map (·.2)).toArray).toList else Z.map (·.2)
def wkS (w:World) (Z:List Ent) (i:Nat):Nat:=if byT w then 0 else match i with
 |0=>0
 |k+1=>match Z[k]? with
  |some z=>z.1+1
  |none=>0
def ItAt (h:Heap) (I a:Addr) (slot i n ep:Nat):Prop:=∃o,h.get? I=some o/\o.cls = .type "set_iterator"/\o.data = .fields #[.int slot 0,.int i 0,.ref a,.int n 0,.int ep 0]
theorem qCI {α:Type}(next:Nat->Nat):∀(n k:Nat) (left:List α) (out:Array α),left.length=n->((pickOrder.go next n k left out).toList).Perm (out.toList++left)
 |0,k,left,out,h=>by have:left=[]:=List.length_eq_zero_iff.mp h;subst this;simp[pickOrder.go]
 |n+1,k,left,out,h=>by unfold pickOrder.go;have hlt:next k % left.length<left.length:=Nat.mod_lt _ (by lia);rw[List.getElem?_eq_getElem hlt];dsimp only;refine (qCI next n (k+1) _ _ (by rw[List.length_eraseIdx];simp[hlt];lia)).trans ?_;rw[Array.toList_push,List.append_assoc];refine List.Perm.append_left _ ?_;rw[List.eraseIdx_eq_take_drop_succ];refine (List.perm_middle (l₁:=left.take (next k % left.length)) (l₂:=left.drop (next k % left.length+1))).symm.trans ?_;rw[<-List.drop_eq_getElem_cons hlt,List.take_append_drop]
theorem q9k (w:World) (a:Addr) (ep:Nat) (Z:List Ent):(wkO w a ep Z).Perm (Z.map (·.2)):=by
 unfold wkO;split
 ·have:=qCI (w.params.setOrder a ep) (Z.map (·.2)).toArray.size 0 (Z.map (·.2)) #[] (by simp);simpa[pickOrder] using this
 ·exact .refl _
theorem below_at {t:SetTable}{Z:List Ent}(wf:WF t Z) {i:Nat}(hi:i<=Z.length) {w:World}(hb:byT w=false):SetTable.below t.place (wkS w Z i)=i:=by
 have hls:(slots Z).length=Z.length:=by simp[slots]
 rw[wf.place];cases i with
 |zero =>
  have e:wkS w Z 0=0:=by unfold wkS;rw[hb];rfl
  rw[e];obtain⟨b1,b2,b3⟩:=q1M (slots Z) wf.ris 0;apply Classical.byContradiction;intro q;have h0:=b2 0 (by lia) (by lia);lia
 |succ k =>
  have hk:k<Z.length:=by lia
  have e:wkS w Z (k+1)=Z[k].1+1:=by unfold wkS;rw[hb];simp[hk]
  rw[e];obtain⟨b1,b2,b3⟩:=q1M (slots Z) wf.ris (Z[k].1+1);have ek:(slots Z)[k]'(by lia)=Z[k].1:=by simp[slots]
  apply Classical.byContradiction;intro q;rcases Nat.lt_or_gt_of_ne q with q|q
  ·have:=b3 k (by lia) (by lia);lia
  ·have h1:=b2 (k+1) q (by lia);have h2:=wf.ris.lt (i:=k) (k:=k+1) (by lia) (by lia);lia
end Snd
namespace Snd
open PySem PySem.Spec PySem.W PyProof.Rows L2 Ev SetT
section
variable {prog:Program}{w:World}{A:Around}{E:Value->Shared->Prop}{s:Shared}{a I:Addr}{Z:List Ent}{t:SetTable}{ep i:Nat}
theorem q8f {Q:Bool->Shared->Prop}(h:Q (byT w) s):wpAny (model prog w) A setsByText Q E s:=by unfold setsByText;exact wpAny_bind (wpAny_askSetting (wpAny_pure h))
theorem q9l (S:SetIn s.heap a Z t ep) (le:t.led=!byT w) (hi:i<=Z.length) {Q:Option (Value×Nat)->Shared->Prop}(h:Q (((wkO w a ep Z)[i]?).map λ e=>(e.2,wkS w Z (i+1))) s):wpAny (model prog w) A (setNext a (wkS w Z i) i ep) Q E s:=by
 unfold setNext;refine wpAny_bind (q1H S (wpAny_bind (q8f ?_)));cases hb:byT w with
 |true =>
  rw[if_pos rfl];have e0:∀j,wkS w Z j=0:=λ j=>by unfold wkS;rw[hb];rfl
  simp only[bne_self_eq_false,Bool.false_eq_true,if_false];unfold setWalk;refine wpAny_bind (wpAny_bind (q1H S (wpAny_bind (q8f ?_))));rw[hb];refine wpAny_bind (wpAny_askSetting (wpAny_pure (wpAny_pure ?_)));unfold wkO at h;rw[hb,e0] at h;rw[e0];simp only[if_true,Array.getElem?_toList] at h;exact h
 |false =>
  rw[if_neg (by decide)];refine wpAny_ite_split (λ hd=>?_) λ _=>?_
  ·exfalso;have:(!t.plain&&decide ((Z.map (·.2)).toArray.size > 1))=true:=hd;rw[S.plain] at this;cases this
  refine wpAny_bind ?_;change wpAny _ _ (if (!t.led&&!(Z.map (·.2)).toArray.isEmpty)=true then unsupported "set:maker-not-led" else pure ()) _ _ _;rw[le,hb];rw[if_neg (by simp)];refine wpAny_pure (wpAny_pure ?_);rw[below_at S.wf hi hb];unfold wkO at h;rw[hb] at h;simp only[Bool.false_eq_true,if_false] at h
  by_cases c:i<Z.length
  ·have e1:(Z.map (·.2)).toArray[i]? = some Z[i].2:=(by simp[c]);have e2:t.place[i]? = some Z[i].1:=(by rw[S.wf.place];simp[slots,c]);have e3:wkS w Z (i+1)=Z[i].1+1:=(by unfold wkS;rw[hb];simp[c]);rw[e1,e2];rw[e3] at h;simpa[c] using h
  ·have e1:(Z.map (·.2)).toArray[i]? = none:=(by simp;lia);rw[e1];have e4:(Z.map (·.2))[i]? = none:=(by simp;lia);rw[e4] at h;exact h
end
end Snd
namespace Snd
open PySem PySem.Spec PySem.W PyProof.Rows L2 Ev SetT
section
variable {prog:Program}{w:World}{A:Around}{E:Value->Shared->Prop}{s:Shared}{a I:Addr}{Z:List Ent}{t:SetTable}{ep i:Nat}
theorem q6W:(wkO w a ep Z).length=Z.length:=by have:=(q9k w a ep Z).length_eq;simpa using this
theorem q3u {Q:Array (Int×Value)->Shared->Prop}(S:SetIn s.heap a Z t ep) (h:Q (Z.map (·.2)).toArray s):wpAny (model prog w) A (setEntries a) Q E s:=by unfold setEntries;exact wpAny_bind (q1H S (wpAny_pure h))
theorem qGo (S:SetIn s.heap a Z t ep) (le:t.led=!byT w) (hit:ItAt s.heap I a (wkS w Z i) i Z.length ep) {e:Int×Value}(he:(wkO w a ep Z)[i]? = some e) {Q:Option Value->Shared->Prop}
  (hQ:∀h',ItAt h' I a (wkS w Z (i+1)) (i+1) Z.length ep->Heap.SameBut I s.heap h'->Q (some e.2) {s with heap:=h'}):wpAny (model prog w) A (pyNext (.ref I)) Q E s:=by
 obtain⟨o,ho,hc,hd⟩:=hit;have hT:s.TypeIs (.ref I) "set_iterator":=⟨o,ho,hc⟩
 have hi:i<Z.length:=by rw[<-q6W (w:=w) (a:=a) (ep:=ep)];exact (List.getElem?_eq_some_iff.mp he).1
 unfold pyNext;refine wpAny_bind (wpAny_attempt (wpAny_callSpecial?_slot (name:=Str.ofString "__next__") hT q3t (wpAny_call_entry q3t hT q7d ?_ (q7e _))));show wpAny _ _ (fieldsOf (.ref I) >>= _) _ _ s;refine wpAny_bind (wpAny_fieldsOf ho hd ?_);show wpAny _ _ (setEntries a >>= _) _ _ s;refine wpAny_bind (q3u S ?_);rw[if_neg (by simp)];show wpAny _ _ (setNext a (wkS w Z i) i ep >>= _) _ _ s;refine wpAny_bind (q9l S le (by lia) ?_);rw[he];dsimp only[Option.map];have g1:=Heap.get?_update_self (Obj.mapFields (·.setIfInBounds 0 (rawInt (wkS w Z (i+1))))) ho (Obj.isFreed_of_fields (Obj.data_mapFields hd _));have d1:=Obj.data_mapFields hd (·.setIfInBounds 0 (rawInt (wkS w Z (i+1))));refine wpAny_bind (wpAny_setField ho hd (by simp) (wpAny_bind (wpAny_setField g1 d1 (by simp) (wpAny_pure ⟨e.2,rfl,wpAny_pure (hQ _ ?_ ?_)⟩))))
 ·refine⟨_,Heap.get?_update_self _ g1 (Obj.isFreed_of_fields (Obj.data_mapFields d1 _)),?_,?_⟩
  ·exact (Obj.cls_mapFields ..).trans ((Obj.cls_mapFields ..).trans hc)
  ·rw[Obj.data_mapFields d1];simp[rawInt]
 ·exact (Heap.SameBut.update ..).trans (Heap.SameBut.update ..)
end
end Snd
namespace Snd
open PySem PySem.Spec PySem.W PyProof.Rows L2 Ev SetT
section
variable {prog:Program}{w:World}{A:Around}{E:Value->Shared->Prop}{s:Shared}{a I:Addr}{Z:List Ent}{t:SetTable}{ep i:Nat}
theorem qJi (hh:A.handled=none) (S:SetIn s.heap a Z t ep) (le:t.led=!byT w) (hit:ItAt s.heap I a (wkS w Z Z.length) Z.length Z.length ep) {Q:Option Value->Shared->Prop}
  (hQ:∀h',Heap.ExtBut I s.heap h'->Q none {s with heap:=h'}):wpAny (model prog w) A (pyNext (.ref I)) Q E s:=by
 obtain⟨o,ho,hc,hd⟩:=hit;have hT:s.TypeIs (.ref I) "set_iterator":=⟨o,ho,hc⟩
 have he:(wkO w a ep Z)[Z.length]? = none:=by rw[List.getElem?_eq_none_iff,q6W];exact Nat.le_refl _
 unfold pyNext;refine wpAny_bind (wpAny_attempt (wpAny_callSpecial?_slot (name:=Str.ofString "__next__") hT q3t (wpAny_call_entry q3t hT q7d ?_ (q7e _))));show wpAny _ _ (fieldsOf (.ref I) >>= _) _ _ s;refine wpAny_bind (wpAny_fieldsOf ho hd ?_);show wpAny _ _ (setEntries a >>= _) _ _ s;refine wpAny_bind (q3u S ?_);rw[if_neg (by simp)];show wpAny _ _ (setNext a (wkS w Z Z.length) Z.length ep >>= _) _ _ s;refine wpAny_bind (q9l S le (Nat.le_refl _) ?_);rw[he];dsimp only[Option.map];refine wpAny_bind (wpAny_setField ho hd (by simp) ?_);refine wpAny_bind (show wpAny _ _ (newExc (.type "StopIteration") []) _ _ _ from ?_);simp only[newExc,newTuple];refine wpAny_bind (wpAny_newObj_type ?_ (by size_fits));refine wpAny_bind (m:=firstArgMember _ _) (wpAny_of_eq (a:=Value.none) (by simp only[firstArgMember];rfl) ?_);refine wpAny_newObj_type ?_ (by size_fits);simp only[raiseNew];refine wpAny_bind (wpAny_handled ?_);rw[show A.in1.handled=none from hh];refine (wpAny_bind (wpAny_pure (wpAny_throw ?_)));refine (wpAny_bind (wpAny_isInstance (b:=true) (T := "StopIteration") ⟨_,Heap.get?_push_size _ rfl,rfl⟩ isSubtype_stop ?_));exact wpAny_pure (hQ _ (((Heap.SameBut.update ..).extBut.push _).push _))
theorem qGp (hit:s.TypeIs (.ref I) "set_iterator") {Q:Value->Shared->Prop}(h:Q (.ref I) s):wpAny (model prog w) A (pyIter (.ref I)) Q E s:=by refine wpAny_pyIter_slot hit qCF (wpAny_call_entry qCF hit qCG ?_ (qCH _));show wpAny _ _ (ret (.ref I)) _ _ s;exact wpAny_pure ⟨_,rfl, "set_iterator",_,hit,q3t.lookup,h⟩
theorem qCJ (S:SetIn s.heap a Z t ep) {Q:Value->Shared->Prop}
  (h:Q (.ref s.heap.objs.size) {s with heap:=s.heap.push {cls:= .type "set_iterator",data:= .fields #[.int 0 0,.int 0 0,.ref a,.int Z.length 0,.int ep 0]}}):wpAny (model prog w) A (pyIter (.ref a)) Q E s:=by
 obtain⟨o,ho,hx,hd⟩:=S.obj;have hT:s.TypeIs (.ref a) "set":=⟨o,ho,hx.1⟩
 refine wpAny_pyIter_slot hT F.slot_set_iter (wpAny_call_entry F.slot_set_iter hT qAS ?_ (F.args_set_iter_1 _));unfold Builtin.«frozenset.__iter__»;show wpAny _ _ (Builtin.Frozenset.sizeOf a >>= _) _ _ s;unfold Builtin.Frozenset.sizeOf;refine wpAny_bind (wpAny_bind (q3u S (wpAny_pure ?_)));unfold setDrawn;refine wpAny_bind (wpAny_bind (q1H S (wpAny_bind (q8f (wpAny_pure ?_)))));have e0:(!byT w&&(!t.plain&&decide ((Z.map (·.2)).toArray.size > 1)))=false:=by rw[S.plain];simp
 refine wpAny_ite_split (λ z=>absurd (show (!byT w&&(!t.plain&&decide ((Z.map (·.2)).toArray.size > 1)))=true from z) (by rw[e0];decide)) λ _=>?_;refine wpAny_bind (wpAny_pure ?_);unfold setEpoch;refine wpAny_bind (wpAny_bind (q1H S (wpAny_pure ?_)));unfold newFields;refine wpAny_bind (wpAny_newObj_type ?_);have T1:Shared.TypeIs {s with heap:=s.heap.push {cls:= .type "set_iterator",data:= .fields #[.int 0 0,.int 0 0,.ref a,.int Z.length 0,.int ep 0]}} (.ref s.heap.objs.size) "set_iterator":=⟨_,Heap.get?_push_size _ rfl,rfl⟩
 rw[show (Z.map (·.2)).toArray.size=Z.length by simp];exact wpAny_pure ⟨_,rfl, "set_iterator",_,T1,q3t.lookup,h⟩
theorem qEE (hT:s.TypeIs (.ref a) "set") {Q:Bool->Shared->Prop}(h:Q false s):wpAny (model prog w) A (Builtin.List.listLengthHint (.ref a)) Q E s:=by
 unfold Builtin.List.listLengthHint;refine wpAny_bind (wpAny_specialOf hT F.slot_set_len.lookup ?_);generalize hid:("set.__len__":String)=id0
 wp_delta
 rw[show splitId id0=some ("set", "__len__") by subst hid;decide +kernel];subst hid;refine wpAny_bind (wpAny_isInstance (T := "set") (b:=true) hT sub_set_self ?_);refine wpAny_ite_split (λ z=>absurd z (by decide)) λ _=>wpAny_ite_split (λ _=>?_) λ z=>absurd (by decide +kernel) z;exact wpAny_bind (wpAny_typeOf hT (wpAny_pure h))
theorem ItAt.at {h h':Heap}{sl n:Nat}(x:ItAt h I a sl i n ep) (k:∀o,h.get? I=some o->h'.get? I=some o):ItAt h' I a sl i n ep:=let ⟨o,e,r⟩:=x;⟨o,k o e,r⟩
theorem SetIn.at {h h':Heap}(S:SetIn h a Z t ep) (k:∀o,h.get? a=some o->h'.get? a=some o):SetIn h' a Z t ep:=let ⟨⟨o,e,r⟩,wf,pl⟩:=S;⟨⟨o,k o e,r⟩,wf,pl⟩
theorem qCK (hh:A.handled=none) (le:t.led=!byT w) (hne:a≠I) :
  Walks prog w A I [I,a] [I] Z.length (λ i v=>∃e,(wkO w a ep Z)[i]? = some e/\v=e.2) (λ i h=>ItAt h I a (wkS w Z i) i Z.length ep/\SetIn h a Z t ep) where
 sub:=λ b hb=>List.mem_cons.mpr (.inl (List.mem_singleton.mp hb))
 frame:=λ i h h' st k=>And.intro (st.1.at λ o e=>k I (by simp) o e) (st.2.at λ o e=>k a (by simp) o e)
 item:=λ i s Q E hi st hQ=>by
  have hl:i<(wkO w a ep Z).length:=by rw[q6W];exact hi
  refine qGo st.2 le st.1 (List.getElem?_eq_getElem hl) λ h' it' k=>hQ _ h' s.toks ⟨_,List.getElem?_eq_getElem hl,rfl⟩ ⟨it',st.2.at λ o e=>?_⟩ λ b o hb e=>?_
  ·rw[k.2 a hne];exact e
  ·rw[k.2 b (λ z=>hb (by simp[z]))];exact e
 done:=λ s Q E st hQ=>qJi hh st.2 le st.1 λ h' k=>hQ h' s.toks λ b o hb e=>k b o (λ z=>hb (by simp[z])) e
 self:=λ i s Q E st hQ=>let ⟨o,ho,hc,_⟩:=st.1;qGp ⟨o,ho,hc⟩ hQ
theorem qGq (le:t.led=!byT w):KdlSrc prog w "set" a a Z.length (λ i v=>∃e,(wkO w a ep Z)[i]? = some e/\v=e.2) (λ h=>SetIn h a Z t ep) where
 type:=λ s S=>let ⟨o,ho,hx,_⟩:=S.obj;⟨o,ho,hx.1⟩
 there:=λ h S=>let ⟨o,ho,_⟩:=S.obj;⟨Heap.lt_size ho,Heap.lt_size ho⟩
 keep:=λ h h' S k=>S.at λ o e=>k a (.inl rfl) o e
 notList:=by decide
 notTuple:=by decide
 hint:=λ A E s Q S hq=>let ⟨o,ho,hx,_⟩:=S.obj;qEE ⟨o,ho,hx.1⟩ hq
 iter:=λ A s hh S=>by
  obtain⟨o,ho,hx,hd⟩:=S.obj;have e0:wkS w Z 0=0:=by unfold wkS;split<;>rfl
  refine⟨{cls:= .type "set_iterator",data:= .fields #[.int 0 0,.int 0 0,.ref a,.int Z.length 0,.int ep 0]},_,λ E Q hq=>qCJ S hq,qCK hh le (Nat.ne_of_lt (Heap.lt_size ho)),⟨_,Heap.get?_push_size _ rfl,rfl,?_⟩,S.at λ o e=>Heap.get?_push_of_some _ e⟩;rw[e0];rfl
end
end Snd
namespace Snd
open PySem PySem.Spec PySem.W PyProof.Rows L2 Ev SetT
theorem q22:∀{l:List D}{d:D},q0A l=true->(d∈dedup l↔d∈l)
 |[],d,_=>by simp[dedup]
 |x::l,d,h=>by
  have hx:=q0S.mp h;have hl:q0A l=true:=q0S.mpr λ e he=>hx e (List.mem_cons_of_mem _ he);unfold dedup;split
  ·rename_i c;obtain⟨y,hy,ey⟩:=List.any_eq_true.mp c;have exy:=(q0Y (hx x List.mem_cons_self) (hx y (List.mem_cons_of_mem _ hy))).mp ey;rw[q22 hl,List.mem_cons];exact⟨.inr,λ q=>q.elim (λ e=>by rw[e,exy];exact hy) id⟩
  ·rw[List.mem_cons,List.mem_cons,q22 hl]
theorem sub_len:∀{a b:List D},a.Nodup->(∀x∈a,x∈b)->a.length<=b.length
 |[],_,_,_=>Nat.zero_le _
 |x::a,b,nd,h=>by
  have nd':=List.nodup_cons.mp nd;obtain⟨b1,b2,rfl⟩:=List.append_of_mem (h x List.mem_cons_self);have:=sub_len (a:=a) (b:=b1++b2) nd'.2 λ y hy=>by
   have hne:y≠x:=λ q=>nd'.1 (q▸hy);have:=h y (List.mem_cons_of_mem _ hy);simp only[List.mem_append,List.mem_cons] at this |-;rcases this with q|q|q
   ·exact .inl q
   ·exact absurd q hne
   ·exact .inr q
  simp only[List.length_append,List.length_cons] at this |-;lia
theorem q5k:∀{a b:List D},a.Nodup->b.Nodup->(∀x,x∈a↔x∈b)->a.Perm b
 |[],b,_,_,h=>by
  cases b with
  |nil=>exact .nil
  |cons y b=>exact absurd ((h y).mpr List.mem_cons_self) (by simp)
 |x::a,b,na,nb,h=>by
  have na':=List.nodup_cons.mp na;obtain⟨b1,b2,rfl⟩:=List.append_of_mem ((h x).mp List.mem_cons_self);have pm:(b1++x::b2).Perm (x::(b1++b2)):=List.perm_middle;have nb':=List.nodup_cons.mp (pm.nodup_iff.mp nb);refine (List.Perm.cons x (q5k na'.2 nb'.2 λ y=>?_)).trans pm.symm;have hy:=h y;rw[pm.mem_iff,List.mem_cons,List.mem_cons] at hy;constructor
  ·intro q;exact (hy.mp (.inr q)).resolve_left λ e=>na'.1 (e▸q)
  ·intro q;exact (hy.mpr (.inr q)).resolve_left λ e=>nb'.1 (e▸q)
theorem SoOk.perm {a b:List D}(h:SoOk a) (p:b.Perm a):SoOk b:=by have m:∀d∈b,d∈a:=λ d hd=>p.mem_iff.mp hd;exact⟨by rw[p.length_eq];exact h.len,λ d hd=>h.hsh d (m d hd),λ d hd=>h.pln d (m d hd),λ x hx y hy=>h.cmp x (m x hx) y (m y hy),p.symm.pairwise h.dif λ e q=>e q.symm⟩
theorem qAT {a b:List D}(h:SoOk a) (p:b.Perm a):q1F b=q1F a:=by have m:∀d∈q1F b,d∈a:=λ d hd=>p.mem_iff.mp ((q0d b).mem_iff.mp hd);exact q3j (((q0d b).trans p).trans (q0d a).symm) (λ d hd=>h.hsh d (m d hd)) (λ x hx y hy=>h.cmp x (m x hx) y (m y hy)) (q1R (h.perm p).hsh) (q1R h.hsh)
theorem qCL {p:Pm}{Hf:Hp}{xs:List D}{vs:List V}{us:List Value}(r:RepL p Hf xs vs) (rv:Vals vs us):∀(P:List ((Int×Value)×D)),(∀q∈P,∃i:Nat,xs[i]? = some q.2/\us[i]? = some q.1.2)->
  ∃vs2,RepL p Hf (P.map (·.2)) vs2/\Vals vs2 (P.map (·.1.2))
 |[],_=>⟨[],rfl,.nil⟩
 |q::P,h=>by obtain⟨vs2,h1,h2⟩:=qCL r rv P λ x hx=>h x (List.mem_cons_of_mem _ hx);obtain⟨i,e1,e2⟩:=h q List.mem_cons_self;obtain⟨v,e3,rp⟩:=r.get e1;obtain⟨u,e4,rl⟩:=rv.get e3;rw[e2] at e4;cases e4;exact⟨v::vs2,⟨v,vs2,rfl,rp,h1⟩,.cons rl h2⟩
end Snd
namespace Snd
open PySem PySem.Spec PySem.W PyProof.Rows L2 Ev SetT
section
variable {X:Cx}{p:Pm}{G:Nat->List D->R D}{sub:Nat->Nat->Bool}
theorem qJj (hK:p.K=X.K) {pins:List (Addr×Obj)}{s:Shared}{σ:L2.St}{H:Hp}{O:List Addr}{d:D}{v:V}{u:Value}{xs:List D}(I:Inv X pins σ H s) (rv:RelV v u) (q:RepB p H (fz O H) d v) (hi:q1r d = .ok xs) :
  ∃l us vs ty St,u = .ref l/\Src X.prog X.w ty l us s.heap St/\RepL p (fz O H) xs vs/\Vals vs us/\vs.length<=sizeLine:=by
 cases d<;>first
  |(exfalso;simpa[q1r] using hi)
  |skip
 ·cases hi;obtain⟨a,vs,rfl,s1,z,r1⟩:=q;cases rv;obtain⟨its,rv,tp,hz⟩:=I.tuple (hK▸q0b.sqT s1:SqT X.K H a vs);exact⟨a,its,vs,_,_,rfl,src_tuple tp,r1,rv,hz⟩
 ·cases hi;obtain⟨a,vs,rfl,s1,r1⟩:=q;cases rv;obtain⟨its,rv,pt,hz⟩:=I.list (hK▸s1:SqL X.K H a vs);exact⟨a,its,vs,_,_,rfl,src_list pt.isList,r1,rv,hz⟩
theorem qGr (hK:p.K=X.K) (hc:X.calm=true) (hu:X.A.units+64<cLine) {E:Value->Shared->Prop}{pins:List (Addr×Obj)}{s:Shared}{σ:L2.St}{H:Hp}{os:List (List Addr)}{d r:D}{v:V}{u:Value}(I:Inv X pins σ H s) (t:Th os.flatten H) (rv:RelV v u) (q:RepB p H (fz os.flatten H) d v) (h:biD sub .sortedSet [d] = .ok r) :
  wpAny (model X.prog X.w) X.A (call (.type "set") [u]) (λ x s2=>wpAny (model X.prog X.w) X.A (call (.builtin "sorted") [x]) (EP (X.wish E) pins σ (Fin p os.flatten H r)) E s2) E s:=by
 cases hi:q1r d with
 |stuck=>exact absurd (show (q1r d).bind _ = .ok r from h) (by rw[hi];intro z;cases z)
 |err c=>exact absurd (show (q1r d).bind _ = .ok r from h) (by rw[hi];intro z;cases z)
 |ok xs =>
  have h':(if q0A xs&&plL xs&&decide (xs.length<=1000)&&q1I (dedup xs) then R.ok (D.lst (q1F (dedup xs))) else .stuck) = .ok r:=by rw[<-h];show _=(q1r d).bind _;rw[hi];rfl
  split at h'
  ·rename_i cs;cases h';simp only[Bool.and_eq_true] at cs;obtain⟨⟨⟨c1,c2⟩,c3⟩,so⟩:=cs;obtain⟨sk,kd⟩:=q8W so;obtain⟨l,us,vs,ty,St,rfl,S,r1,rvs,hz⟩:=qJj hK I rv q hi;have dx:DvL s.heap xs us:=(q2L hK I).2 xs vs us (r1.mono q0b) rvs;have hA:=I.ok.hd hc;have hpl:∀d∈xs,plN 8 d=true:=λ d hd=>q1f.mp c2 d hd;have kn:Kin xs:=by
    rcases kd with kd|kd
    ·refine .inr λ d hd=>?_;have:=kd d ((q22 c1).mpr hd);cases d<;>first|exact⟨_,rfl⟩|cases this
    ·refine .inl λ d hd=>?_;have:=kd d ((q22 c1).mpr hd);cases d<;>first|exact⟨_,rfl⟩|cases this
   have hl:∀l:List D,l.Nodup->(∀d∈l,d∈xs)->l.length<64:=λ l nd hm=>Nat.lt_of_le_of_lt (sub_len nd λ d hd=>(q22 c1).mpr (hm d hd)) sk.len;refine qJh S hA dx kn c1 hpl (by lia) hl λ h1 tk1 ⟨ds,SD,nd,mem⟩=>?_;obtain⟨⟨Z,tb,ep,P,Si,pr,e1,e2,tf,le,mm⟩,kp,nw⟩:=SD;obtain⟨P2,p1,p2⟩:=q54 (·.1) (e1▸q9k X.w s.heap.objs.size ep Z) P rfl;have I1:Inv X pins σ H {s with heap:=h1,toks:=tk1}:=I.kept kp;have pm:(P2.map (·.2)).Perm (dedup xs):=((p1.map (λ q=>q.2)).trans e2).trans (q5k nd sk.dif λ x=>(mem x).trans (q22 c1).symm);have sk2:=sk.perm pm;obtain⟨vs2,w1,w2⟩:=qCL r1 rvs P2 λ q hq=>mm q (p1.mem_iff.mp hq);have hz2:vs2.length<=sizeLine:=by have:=sk2.len;rw[<-w1.length,sizeLine_eq];lia
   have kd2:(∀d∈P2.map (·.2),q1w d=true)\/∀d∈P2.map (·.2),q2m d=true:=by
    rcases kd with kd|kd
    ·exact .inl λ d hd=>kd d (pm.mem_iff.mp hd)
    ·exact .inr λ d hd=>kd d (pm.mem_iff.mp hd)
   have hwl:(wkO X.w s.heap.objs.size ep Z).length=P2.length:=(by rw[<-p2];simp);have hZl:Z.length=P2.length:=(by rw[<-q6W (w:=X.w) (a:=s.heap.objs.size) (ep:=ep)];exact hwl);refine Srt.q7J (s:={s with heap:=h1,toks:=tk1}) (Gv:=λ us'=>us'=P2.map (·.1.2)) sk2.len sk2.ord (λ us' e=>by rw[e];simp) (λ R hR=>?_) (λ us' e h2 h'' tk k=>?_) λ us' q D h'' tk e eu Pq U k nD g=>?_
   ·refine PySem.W.kdu_collect (A:=X.A.in1) (qGq (t:=tb) (Z:=Z) (ep:=ep) le) (by simp[hA]) Si (by rw[hZl,sizeLine_eq];have:=sk2.len;simp at this;lia) λ h3 tk3 acc k3 it=>hR _ h3 tk3 ?_ k3;obtain⟨a1,a2⟩:=it;apply List.ext_getElem?;intro i;cases ea:acc.toList[i]? with
    |none =>
     have:P2.length<=i:=by have:=List.getElem?_eq_none_iff.mp ea;rw[Array.length_toList,a1,hZl] at this;exact this
     rw[List.getElem?_eq_none (by simpa using this)]
    |some v' =>
     rw[Array.getElem?_toList] at ea;obtain⟨e',f1,f2⟩:=a2 i v' ea;rw[<-p2,List.getElem?_map] at f1;rw[List.getElem?_map];cases ep2:P2[i]? with
     |none=>rw[ep2] at f1;cases f1
     |some q'=>rw[ep2] at f1;cases f1;rw[f2];rfl
   ·subst e;exact qBn (s:={s with heap:=h'',toks:=tk}) (by show X.A.units+1+1+8<cLine;lia) sk2 kd2 ((q4s k).2 _ _ ((q2L hK I1).2 _ vs2 _ (w1.mono q0b) w2)) h2
   ·subst eu;rw[<-qAT sk pm,<-q7K sk2 Pq U];exact q4t I1 t w1 w2 hz2 Pq rfl k nD g
  ·cases h'
end
end Snd
namespace Snd
open PySem PySem.Spec PySem.W PyProof.Rows L2 Ev SetT
theorem qCM:bootBuiltins "set" = some (.type "set"):=by kernel_rfl
theorem sset:SSet:=by
 intro X p G sub a la q q2 q3 pos hK hc hu m1 m2 ha oa g1 g2 pins s σ H ρ os I R hs;have hst:starEach [a] X.env=[(false,eval a X.env)]:=q0x oa;have hst2:starEach [.Call (.Name "set" q2) [a] [] q3] X.env=[(false,eval (.Call (.Name "set" q2) [a] [] q3) X.env)]:=q0x rfl;refine wpAny_Call_Name_kw (q1p I g1 m1 PyProof.Rows.boot_sorted ?_);refine PyProof.Rows.callWith_builtin1 ?_ hst2 rfl;rw[hst2];show wpAny _ _ (spliced ((false,eval (.Call (.Name "set" q2) [a] [] q3) X.env)::backTo pos [])) _ _ s;refine Calls.spliced_cons (wpAny_mono (Q:=λ x s2=>wpAny (model X.prog X.w) X.A (call (.builtin "sorted") [x]) (Gd X p pins σ os H (ev G sub (.bi .sortedSet [la]) ρ)) (Er X p pins σ H (ev G sub (.bi .sortedSet [la]) ρ)) s2) (E:=Er X p pins σ H (ev G sub (.bi .sortedSet [la]) ρ)) ?_ (λ x s2 h=>Calls.spliced_nil h) λ _ _ z=>z);refine wpAny_Call_Name_kw (q1p I g2 m2 qCM ?_);refine PyProof.Rows.callWith_type1 (q6I ha hst I R (q5X hs) (λ u s1 h=>?_) (λ _ _=>q5W)) hst rfl;obtain⟨d,v,H1,e1,I1,r1,x1,q1⟩:=h;have e0:ev G sub (.bi .sortedSet [la]) ρ=biD sub .sortedSet [d]:=by rw[q16,q24 (f:=λ d=>biD sub .sortedSet [d]) la ρ _ (λ _=>rfl),e1];rfl
 rw[e0] at hs |-;rcases q6H sub .sortedSet [d] with z|⟨r,z⟩
 ·exact absurd z hs
 ·rw[z];exact wpAny_mono (qGr hK hc hu (E:=Er X p pins σ H (.ok r)) I1 (R.ext x1).th r1 q1 z) (λ x s2 h2=>wpAny_mono h2 (λ w s3 h3=>q8T x1 rfl h3) λ _ _ z=>z) λ _ _ z=>z
end Snd
namespace Mk
open PySem Ev
def q4O (c:Int):Ev.L:= .op .add (.op .add (.op .add (.var 1) (.con (.int c))) (.op .mul (.con (.int 4)) (.var 5))) (.var 7)
def q3v:List Ev.S:=[.aug 2 .bor (.call 0 [(.var 3)]),.set 3 (.call 5 [(.var 0),(.var 2),(.var 1)])]
def qEF:List Ev.S:=[.set 6 (.op .bor (.var 4) (.op .shl (.con (.int 1)) (.var 5))),.ifs (.e (.cm .nmem (.var 6) (.bor 2))) [.put 2 (.var 6) (.con (.bl true)),.app 3 (.var 6)] []]
def qCN:List Ev.S:=[.pop 4 3,.forr 0 [5] (.e (.call 5 [(.var 0),(.var 4),(.var 1)])) qEF]
def q55:List Ev.S:=[.ifs (.or (.not (.e (.call 8 [(.var 3)]))) (.or (.e (.cm .le (.var 3) (.var 2))) (.e (.cm .ge (.var 3) (.var 0))))) [.ret (.con (.bl false))] [],.set 2 (.var 3)]
def q5l:List Ev.S:=[.expr (.call 11 [(.var 1),(.var 3)])]
def q5m:List Ev.S:=[.ifs (.e (.cm .ge (.idx (.var 2) (.op .sub (.var 4) (.con (.int 1)))) (.idx (.var 2) (.var 4)))) [.raise 1] []]
def q9m:Ev.S:= .ifs (.or (.not (.e (.bi .isTup [(.var 0)]))) (.e (.cm .ne (.bi .len [(.var 0)]) (.con (.int 2))))) [.raise 1] []
def q5n:Ev.S:= .ifs (.or (.not (.e (.call 8 [(.var 1)]))) (.or (.e (.cm .lt (.var 1) (.con (.int 0)))) (.e (.cm .gt (.var 1) (.con (.int 10)))))) [.raise 1] []
def q9n:Ev.S:= .ifs (.or (.not (.e (.bi .isLst [(.var 2)]))) (.e (.cm .gt (.bi .len [(.var 2)]) (.con (.int 1300))))) [.raise 1] []
def qCO:List Ev.S:=[.app2 1 (.idx (.var 2) (.con (.int 0))) (.call 0 [(.idx (.var 2) (.con (.int 1)))])]
def qGs:Ev.L:= .comp 2 (.var 1) (.e (.idx (.var 0) (.con (.int 1)))) [(.and (.e (.cm .eq (.var 0) (.var 5))) (.e (.bi .all [(.comp 0 (.cm .mem (.var 0) (.var 4)) (.e (.var 1)) [])])))]
def qAU:List Ev.S:=[.set 4 qGs,.ifs (.and (.e (.cm .nmem (.var 3) (.var 1))) (.e (.cm .ne (.var 4) (.lst [])))) [.app 2 (.var 3)] []]
def qCP:Ev.L:= .comp 0 (.var 0) (.e (.var 2)) [(.e (.cm .ne (.var 0) (.var 4)))]
def qGt:Ev.T:= .and (.e (.cm .nmem (.var 2) (.bor 1))) (.and (.e (.cm .mem (.var 4) (.bor 1))) (.e (.cm .mem (.var 3) (.call 27 [(.var 0),(.var 4)]))))
def qEG:List Ev.S:=[.set 4 (.bi .tuple [qCP]),.ifs qGt [.app 1 (.var 2)] []]
def qAV:List Ev.S:=[.forr 0 [3] (.e (.var 2)) qEG]
def q4I:List Ev.L:=[(.con (.int 1)),(.con (.int 2)),(.con (.int 4)),(.con (.int 8)),(.con (.int 16)),(.con (.int 32)),(.con (.int 64))]
def qGu:Ev.S:= .set 8 (.call 24 [(.var 0),q4O 10,(.var 6)])
def qEH:Ev.S:= .ifs (.e (.cm .gt (.op .mod (.call 22 [(.var 0),q4O 40]) (.con (.int 3))) (.con (.int 0)))) [.set 8 (.sl 0 (.var 8) [] [(.op .add (.con (.int 1)) (.op .mod (.call 22 [(.var 0),q4O 41]) (.con (.int 2))))])] []
def qGv:Ev.S:= .app 4 (.tup [(.var 5),(.ite (.e (.cm .gt (.op .mod (.call 22 [(.var 0),(.op .add (.op .add (.var 1) (.con (.int 70))) (.var 5))]) (.con (.int 4))) (.con (.int 0)))) (.var 8) (.tup []))])
def q7f:List Ev.S:=[qGu,qEH,qGv]
def qGw:Ev.L:= .comp 0 (.var 0) (.rng [(.var 3)]) [(.e (.cm .ne (.var 0) (.var 6)))]
def qEI:Ev.L:= .idx (.lst [(.con (.int 1)),(.con (.int 1)),(.con (.int 2)),(.con (.int 2)),(.con (.int 3)),(.con (.int 0))]) (.op .mod (.call 22 [(.var 0),(.op .add (.op .add (.var 1) (.con (.int 1))) (.var 5))]) (.con (.int 6)))
def q3w:List Ev.S:=[.set 6 qGw,.forr 0 [7] (.rng [qEI]) q7f]
def qEJ:Ev.S:= .set 3 (.op .mod (.call 22 [(.var 0),(.var 1)]) (.op .add (.var 2) (.con (.int 1))))
def q7g:List Ev.S:=[.set 1 (.con (.int 0)),.forr 0 [2] (.e (.var 0)) [.aug 1 .bor (.op .shl (.con (.int 1)) (.var 2))],.ret (.var 1)]
def q56:List Ev.S:=[.ret (.bi .tuple [(.comp 0 (.var 0) (.rng [(.bi .bits [(.var 0)])]) [(.e (.call 2 [(.var 1),(.var 0)]))])])]
def qCQ:List Ev.S:=[.ret (.cm .eq (.op .band (.op .shr (.var 0) (.var 1)) (.con (.int 1))) (.con (.int 1)))]
def q5o:List Ev.S:=[.setE 1 (.idx (.var 0) (.con (.int 0))),.forr 0 [2] (.e (.idx (.var 0) (.con (.int 1)))) qCO,.retO 1]
noncomputable def q57:List Ev.S:=[.ifs (.e (.call 2 [(.var 1),(.var 2)])) [.ret (.con (.bl false))] [],.forr 0 [3] (.e (.idx (.var 0) (.var 2))) [.ifs (.e (.cm .eq (.op .band (.var 3) (.var 1)) (.var 3))) [.ret (.con (.bl true))] []],.ret (.con (.bl false))]
def q3X:List Ev.S:=[.ret (.comp 0 (.var 0) (.e (.call 1 [(.var 2)])) [(.e (.call 4 [(.var 1),(.var 2),(.var 0)]))])]
def q3Y:List Ev.S:=[.set 2 (.con (.int 0)),.set 3 (.call 5 [(.var 0),(.var 2),(.var 1)]),.whl (.e (.var 3)) q3v,.ret (.var 2)]
def q2P:List Ev.S:=[.setO 2 (.dct (.con (.int 0)) (.con (.bl true))),.setO 3 (.lst [(.con (.int 0))]),.whl (.e (.bor 3)) qCN,.retO 2]
def q2f:List Ev.S:=[.ret (.and (.bi .isInt [(.var 0)]) (.not (.bi .isBool [(.var 0)])))]
def q9o:List Ev.S:=[.ifs (.not (.e (.bi .isTup [(.var 1)]))) [.ret (.con (.bl false))] [],.set 2 (.neg (.con (.int 1))),.forr 0 [3] (.e (.var 1)) q55,.ret (.con (.bl true))]
def q4J:List Ev.S:=[q9m,.set 1 (.idx (.var 0) (.con (.int 0))),.set 2 (.idx (.var 0) (.con (.int 1))),q5n,q9n,.forr 0 [3] (.e (.var 2)) q5l,.forr 0 [4] (.rng [(.con (.int 1)),(.bi .len [(.var 2)])]) q5m]
noncomputable def q1A:List Ev.S:=[.ifs (.or (.not (.e (.bi .isTup [(.var 1)]))) (.e (.cm .ne (.bi .len [(.var 1)]) (.con (.int 2))))) [.raise 1] [],.set 2 (.idx (.var 1) (.con (.int 0))),.set 3 (.idx (.var 1) (.con (.int 1))),.ifs (.or (.not (.e (.call 8 [(.var 2)]))) (.or (.e (.cm .lt (.var 2) (.con (.int 0)))) (.e (.cm .ge (.var 2) (.var 0))))) [.raise 1] [],.ifs (.not (.e (.call 9 [(.var 0),(.var 3)]))) [.raise 1] [],.ifs (.e (.cm .mem (.var 2) (.var 3))) [.raise 1] []]
def q1N:List Ev.S:=[.expr (.call 10 [(.var 0)]),.ifs (.not (.e (.call 9 [(.idx (.var 0) (.con (.int 0))),(.var 1)]))) [.raise 2] []]
def q0N:List Ev.S:=[.ifs (.not (.e (.call 14 [(.var 0),(.var 1)]))) [.raise 2] []]
def q1B:List Ev.S:=[.ret (.cm .eq (.call 15 [(.var 0),(.var 1)]) (.var 1))]
def q4K:List Ev.S:=[.expr (.call 12 [(.var 0),(.var 1)]),.ret (.call 1 [(.call 6 [(.call 3 [(.var 0)]),(.call 0 [(.var 1)])])])]
noncomputable def q4Y:List Ev.S:=[.expr (.call 10 [(.var 0)]),.expr (.call 17 [(.idx (.var 0) (.con (.int 0))),(.var 1)]),.set 2 (.call 3 [(.var 0)]),.set 3 (.con (.int 0)),.forr 0 [4] (.e (.var 1)) [.ifs (.not (.e (.call 4 [(.var 2),(.var 3),(.var 4)]))) [.ret (.con (.bl false))] [],.aug 3 .bor (.op .shl (.con (.int 1)) (.var 4))],.ret (.con (.bl true))]
def q3Z:List Ev.S:=[.forr 0 [2] (.e (.var 1)) [.ifs (.or (.e (.cm .lt (.var 2) (.con (.int 0)))) (.e (.cm .ge (.var 2) (.var 0)))) [.raise 2] []]]
def q1C:List Ev.S:=[.expr (.call 13 [(.var 0),(.var 1)]),.ret (.idx (.call 19 [(.call 3 [(.var 0)]),(.call 0 [(.var 1)])]) (.con (.int 0)))]
noncomputable def q7h:List Ev.S:=[.setO 2 (.dct (.var 1) (.con (.int 1))),.forr 0 [3] (.e (.bi .sortedRev [(.call 7 [(.var 0),(.var 1)])])) [.ifs (.e (.cm .ne (.var 3) (.var 1))) [.put 2 (.var 3) (.bi .sum [(.comp 0 (.idx (.bor 3) (.op .bor (.var 4) (.op .shl (.con (.int 1)) (.var 0)))) (.e (.call 5 [(.var 0),(.var 3),(.var 1)])) [])])] []],.retO 2]
noncomputable def q1P:List Ev.S:=[.expr (.call 13 [(.var 0),(.var 1)]),.set 3 (.call 3 [(.var 0)]),.set 4 (.call 0 [(.var 1)]),.set 5 (.call 19 [(.var 3),(.var 4)]),.ifs (.or (.e (.cm .lt (.var 2) (.con (.int 0)))) (.e (.cm .ge (.var 2) (.idx (.var 5) (.con (.int 0)))))) [.raise 4] [],.setO 6 (.lst []),.set 7 (.con (.int 0)),.whl (.e (.cm .ne (.var 7) (.var 4))) [.forr 0 [8] (.e (.call 5 [(.var 3),(.var 7),(.var 4)])) [.set 9 (.idx (.var 5) (.op .bor (.var 7) (.op .shl (.con (.int 1)) (.var 8)))),.ifs (.e (.cm .lt (.var 2) (.var 9))) [.app 6 (.var 8),.aug 7 .bor (.op .shl (.con (.int 1)) (.var 8)),.brk] [],.aug 2 .sub (.var 9)]],.retO 6]
def q1b:List Ev.S:=[.ifs (.e (.var 0)) [.ret (.idx (.var 0) (.op .mod (.var 1) (.bi .len [(.var 0)])))] [],.ret (.con (.int 0))]
noncomputable def q2Q:List Ev.S:=[.set 2 (.op .mod (.op .add (.call 21 [(.var 0),(.var 1)]) (.op .mul (.con (.int 104729)) (.op .add (.var 1) (.con (.int 1))))) (.con (.int 4294967291))),.set 2 (.op .mod (.op .mul (.var 2) (.con (.int 48271))) (.con (.int 4294967279))),.ret (.op .mod (.op .add (.op .mul (.op .fdiv (.var 2) (.con (.int 64))) (.con (.int 69621))) (.var 2)) (.con (.int 4294967231)))]
def q2y:List Ev.S:=[.ret (.and (.bi .isInt [(.var 0)]) (.not (.bi .isBool [(.var 0)])))]
noncomputable def q1u:List Ev.S:=[.set 3 (.op .fdiv (.call 22 [(.var 0),(.var 1)]) (.con (.int 8))),.ret (.bi .tuple [(.comp 0 (.idx (.var 3) (.var 0)) (.rng [(.bi .len [(.var 2)])]) [(.e (.cm .eq (.op .mod (.op .fdiv (.var 4) (.idx (.lst q4I) (.var 0))) (.con (.int 2))) (.con (.int 1))))])])]
def q1k:List Ev.S:=[qEJ,.setO 4 (.lst []),.forr 0 [5] (.rng [(.var 3)]) q3w,.ret (.tup [(.var 3),(.bi .sortedSet [(.bor 4)])])]
noncomputable def q0r:List Ev.S:=[.set 1 (.lst [(.tup [])]),.forr 0 [2] (.rng [(.var 0)]) [.set 1 (.op .add (.var 1) (.comp 0 (.op .add (.var 0) (.tup [(.var 3)])) (.e (.var 1)) []))],.ret (.comp 2 (.var 1) (.e (.bi .sorted [(.comp 0 (.tup [(.bi .len [(.var 0)]),(.var 0)]) (.e (.var 1)) [])])) [])]
def q5p:List Ev.S:=[.setO 2 (.lst []),.forr 0 [3] (.rng [(.idx (.var 0) (.con (.int 0)))]) qAU,.retO 2]
def q4L:List Ev.S:=[.setO 1 (.lst [(.tup [])]),.forr 0 [2] (.e (.sl 0 (.call 26 [(.idx (.var 0) (.con (.int 0)))]) [(.con (.int 1))] [])) qAV,.retO 1]
noncomputable def q0T:List Ev.S:=[.ifs (.e (.cm .isN (.var 0) (.con .non))) [.ret (.con (.str "ok"))] [],.set 1 (.lst [(.bi (.isExc 4) [(.var 0)]),(.bi (.isExc 1) [(.var 0)]),(.bi (.isExc 2) [(.var 0)])]),.set 1 (.op .add (.var 1) (.lst [(.bi (.isExc 5) [(.var 0)]),(.bi (.isExc 3) [(.var 0)])])),.ifs (.or (.e (.cm .ne (.bi .count [(.var 1),(.con (.bl true))]) (.con (.int 1)))) (.not (.e (.bi .isVal [(.var 0)])))) [.ret (.con (.str "wrong"))] [],.ret (.idx (.lst [(.con (.str "number")),(.con (.str "rules")),(.con (.str "state")),(.con (.str "text")),(.con (.str "unlike"))]) (.bi .index [(.var 1),(.con (.bl true))]))]
noncomputable def q5q:List Ev.S:=[.set 2 (.lst [(.lst [])]),.forr 0 [3] (.rng [(.bi .len [(.var 1)])]) [.set 4 (.lst []),.forr 0 [5] (.e (.var 2)) [.set 4 (.op .add (.var 4) (.comp 0 (.op .add (.var 6) (.lst [(.var 0)])) (.e (.var 1)) [(.e (.cm .mem (.var 0) (.call 27 [(.var 1),(.bi .tuple [(.bi .sorted [(.var 6)])])])))]))],.set 2 (.var 4)],.ret (.var 2)]
noncomputable def q1c:List Ev.S:=[.set 4 (.con .non),.set 5 (.con .non),.tryE [.ifs (.e (.cm .eq (.var 0) (.con (.int 0)))) [.set 5 (.call 18 [(.var 1),(.var 2)])] [.set 5 (.ite (.e (.cm .eq (.var 0) (.con (.int 1)))) (.call 20 [(.var 1),(.var 2),(.var 3)]) (.call 16 [(.var 1),(.var 2)]))]] 0 6 4,.ret (.ite (.e (.cm .isN (.var 4) (.con .non))) (.var 5) (.call 29 [(.var 4)]))]
noncomputable def qCR:List Ev.S:=[.set 1 (.call 25 [(.var 0),(.con (.int 0)),(.op .add (.con (.int 4)) (.bi .toInt [(.cm .eq (.op .mod (.call 22 [(.var 0),(.con (.int 99))]) (.con (.int 4))) (.con (.int 0)))]))]),.set 2 (.call 28 [(.var 1)]),.set 3 (.idx (.var 2) (.op .mod (.call 22 [(.var 0),(.con (.int 100))]) (.bi .len [(.var 2)]))),.set 4 (.call 30 [(.var 1),(.var 3)]),.set 5 (.call 31 [(.con (.int 0)),(.var 1),(.var 3),(.con (.int 0))]),.ifs (.or (.not (.e (.call 23 [(.var 5)]))) (.e (.cm .ne (.var 5) (.bi .len [(.var 4)])))) [.ret (.con (.bl false))] [],.ifs (.e (.cm .ne (.comp 0 (.call 31 [(.con (.int 1)),(.var 2),(.var 4),(.var 0)]) (.rng [(.bi .min2 [(.bi .len [(.var 4)]),(.con (.int 24))])]) []) (.sl 0 (.var 4) [] [(.con (.int 24))]))) [.ret (.con (.bl false))] [],.ifs (.e (.cm .ne (.comp 0 (.call 31 [(.con (.int 1)),(.var 2),(.var 4),(.var 0)]) (.e (.tup [(.neg (.con (.int 1))),(.bi .len [(.var 4)])])) []) (.op .mul (.lst [(.con (.str "number"))]) (.con (.int 2))))) [.ret (.con (.bl false))] [],.forr 0 [6] (.rng [(.con (.int 4))]) [.set 8 (.comp 0 (.op .mod (.call 22 [(.var 1),(.op .add (.op .add (.con (.int 110)) (.op .mul (.con (.int 6)) (.var 7))) (.var 0))]) (.bi .max2 [(.con (.int 1)),(.idx (.var 2) (.con (.int 0)))])) (.rng [(.op .mod (.call 22 [(.var 0),(.op .add (.con (.int 101)) (.var 6))]) (.con (.int 5)))]) []),.ifs (.e (.cm .eq (.var 6) (.con (.int 0)))) [.set 8 (.bi .list [(.idx (.var 4) (.op .mod (.call 22 [(.var 0),(.con (.int 105))]) (.bi .len [(.var 4)])))])] [],.ifs (.or (.e (.cm .gt (.idx (.var 1) (.con (.int 0))) (.con (.int 0)))) (.e (.cm .eq (.var 8) (.lst [])))) [.set 9 (.con (.bl true)),.forr 0 [7] (.rng [(.bi .len [(.var 8)])]) [.set 9 (.and (.var 9) (.cm .mem (.idx (.var 8) (.var 7)) (.call 27 [(.var 1),(.bi .tuple [(.bi .sortedSet [(.sl 0 (.var 8) [] [(.var 7)])])])])))],.set 5 (.call 31 [(.con (.int 2)),(.var 1),(.var 8),(.con (.int 0))]),.ifs (.or (.not (.e (.bi .isBool [(.var 5)]))) (.e (.cm .ne (.var 5) (.var 9)))) [.ret (.con (.bl false))] []] []],.set 10 (.op .add (.comp 0 (.var 0) (.e (.call 26 [(.idx (.var 1) (.con (.int 0)))])) [(.e (.cm .nmem (.var 0) (.var 3)))]) (.lst [(.tup [(.idx (.var 1) (.con (.int 0)))])])),.set 11 (.idx (.var 10) (.op .mod (.call 22 [(.var 0),(.con (.int 106))]) (.bi .len [(.var 10)]))),.ifs (.e (.cm .ne (.op .add (.comp 0 (.call 31 [(.var 0),(.var 2),(.var 12),(.con (.int 0))]) (.rng [(.con (.int 2))]) []) (.lst [(.call 31 [(.con (.int 2)),(.var 1),(.lst [(.idx (.var 1) (.con (.int 0)))]),(.con (.int 0))])])) (.op .mul (.lst [(.con (.str "state"))]) (.con (.int 3))))) [.ret (.con (.bl false))] [],.ret (.cm .eq (.comp 0 (.call 31 [(.var 0),(.tup [(.con (.int 1)),(.lst [(.tup [(.con (.int 0)),(.tup [(.con (.int 0))])])])]),(.var 12),(.con (.int 0))]) (.rng [(.con (.int 2))]) []) (.op .mul (.lst [(.con (.str "rules"))]) (.con (.int 2))))]
def subC (a b:Nat):Bool:=a==b || b==0
noncomputable def dsM:List (Nat×Nat×List Ev.S):=[(1,3,q7g),(1,1,q56),(2,2,qCQ),(1,3,q5o),(3,4,q57),(3,3,q3X),(2,4,q3Y),(2,7,q2P),(1,1,q2f),(2,4,q9o),(1,5,q4J),(2,4,q1A),(2,2,q1N),(2,2,q0N),(2,2,q1B),(2,2,q4K),(2,5,q4Y),(2,3,q3Z),(2,2,q1C),(2,4,q7h),(3,10,q1P),(2,2,q1b),(2,3,q2Q),(1,1,q2y),(3,4,q1u),(3,9,q1k),(1,3,q0r),(2,5,q5p),(1,5,q4L),(1,2,q0T),(2,6,q5q),(4,7,q1c),(1,12,qCR)]
def Gm:Nat->Nat->List D->R D
 |0,_,_=> .stuck
 |n+1,f,xs=>match dsM[f]? with
  |some d=>if xs.length=d.1 then Ev.run (Gm n) subC d.2.1 d.2.2 xs else .stuck
  |none=> .stuck
end Mk
namespace Mk
open Ev
variable {a b k t n:Nat}
def ix:Ix:=⟨0,1,2,99,3,4,5,6,7,8,9,10,11,12,99,99,14,99,15,21,22,24,25,26,27,28,29,99,99⟩
theorem q9p (k:Nat) (ts:List Nat) (h:∀t∈ts,t<=1000) (d:D) (hd:d = .tup (nL ts)\/d = .lst (nL ts)):Gm (k+1) 0 [d] = .ok (nI (q01 0 ts)):=q8R ts h d hd
theorem qCS (k m t:Nat):Gm (k+1) 2 [nI m,nI t] = .ok (.bl (m.testBit t)):=qBR (G:=Gm k) (sub:=subC) m t
theorem q9q (k m:Nat) (h:m<2^62):Gm (k+2) 1 [nI m] = .ok (.tup (nL (q02 m))):=q64 (f:=ix) (λ m t=>qCS k m t) m h
theorem qJk (k:Nat) (nd:List (List Nat)) (m t:Nat) (h:t<nd.length):Gm (k+2) 4 [ndD nd,nI m,nI t] = .ok (.bl (mayL nd m t)):=q66 (f:=ix) (λ m t=>qCS k m t) nd m t h
theorem q7i (k:Nat) (nd:List (List Nat)) (m b:Nat) (hb:b<2^nd.length) (hn:nd.length<=60):Gm (k+3) 5 [ndD nd,nI m,nI b] = .ok (.lst (nL (q0G nd m b))) :=
 q4i (f:=ix) (λ m h=>q9q k m h) nd (λ m t h=>qJk k nd m t h) m b hb hn
def Sm (a b:Nat):Prop:=∀i,a.testBit i=true->b.testBit i=true
theorem q58 (a:Nat):Sm a a:=λ _ h=>h
theorem q4Z {c:Nat}(h:Sm a b) (g:Sm b c):Sm a c:=λ i x=>g i (h i x)
theorem q2R (a:Nat):Sm 0 a:=λ i h=>by simp at h
theorem q3x {x:Nat}:x &&& k=x↔Sm x k:=by
 constructor
 ·intro h i hi;rw[<-h,Nat.testBit_and,Bool.and_eq_true] at hi;exact hi.2
 ·intro h;refine Nat.eq_of_testBit_eq λ i=>?_;rw[Nat.testBit_and];cases q:x.testBit i with
  |false=>rfl
  |true=>rw[h i q];rfl
theorem q2z (h:Sm a b) (g:Sm b a):a=b:=Nat.eq_of_testBit_eq λ i=>Bool.eq_iff_iff.mpr ⟨h i,g i⟩
theorem qCT (h:Sm a b):a<=b:=by rw[<-q3x.mpr h];exact Nat.and_le_right
theorem q1O (k t i:Nat):(k ||| 1 <<< t).testBit i=(k.testBit i || decide (t=i)):=by rw[Nat.testBit_or,Nat.one_shiftLeft,Nat.testBit_two_pow]
theorem q3a (ts:List Nat):∀(m i:Nat),(q01 m ts).testBit i=(m.testBit i || decide (i∈ts)):=by
 induction ts with
 |nil=>intro m i;simp[q01]
 |cons t ts ih =>
  intro m i;show (q01 (m ||| 1 <<< t) ts).testBit i=_;rw[ih,q1O,Bool.or_assoc];congr 1
  by_cases h:t=i
  ·subst h;simp
  ·have h':¬i=t:=λ e=>h e.symm;simp[h,h']
theorem q1Q (ts:List Nat) (i:Nat):(q01 0 ts).testBit i=decide (i∈ts):=by rw[q3a];simp
theorem qLH {c:Nat}(h:Sm a c) (g:Sm b c):Sm (a ||| b) c:=λ i x=>by rw[Nat.testBit_or,Bool.or_eq_true] at x;exact x.elim (h i) (g i)
theorem q59 (a b:Nat):Sm a (a ||| b):=λ i x=>by rw[Nat.testBit_or,x];rfl
theorem qGx (h:k.testBit t=true):k ||| 1 <<< t=k:=Nat.eq_of_testBit_eq λ i=>by
 rw[q1O]
 by_cases e:t=i
 ·subst e;simp[h]
 ·simp[e]
theorem q7j (h:a<2^n) (q:a.testBit t=true):t<n:=(Nat.pow_lt_pow_iff_right (by decide:1<2)).mp (Nat.lt_of_le_of_lt (Nat.ge_two_pow_of_testBit q) h)
theorem qAW (h:∀i,a.testBit i=true->i<n):a<2^n:=Nat.lt_pow_two_of_testBit _ λ i hi=>by
 cases q:a.testBit i with
 |false=>rfl
 |true=>exact absurd (h i q) (by lia)
theorem q4x:(2^n-1).testBit t=true↔t<n:=by rw[Nat.testBit_two_pow_sub_one];simp
inductive Rch (nd:List (List Nat)):Nat->Prop
 |z:Rch nd 0
 |s {k t:Nat}:Rch nd k->mayL nd k t=true->Rch nd (k ||| 1 <<< t)
variable {nd:List (List Nat)}
theorem q9r (h:mayL nd k t=true):t<nd.length:=by
 unfold mayL at h;rw[Bool.and_eq_true] at h;refine Nat.lt_of_not_le λ g=>?_;have:nd.getD t []=[]:=by simp[List.getD,g]
 rw[this] at h;simp at h
theorem q9s {j:Nat}(s:Sm j k) (h:mayL nd j t=true):k.testBit t=true\/mayL nd k t=true:=by
 cases q:k.testBit t with
 |true=>exact .inl rfl
 |false =>
  refine .inr ?_;unfold mayL at h |-;rw[Bool.and_eq_true] at h;rw[q,Bool.not_false,Bool.true_and];obtain⟨x,hx,hj⟩:=List.any_eq_true.mp h.2;refine List.any_eq_true.mpr ⟨x,hx,?_⟩;rw[beq_iff_eq] at hj |-;exact q3x.mpr (q4Z (q3x.mp hj) s)
theorem q5A (h:mayL nd k t=true):k.testBit t=false:=by unfold mayL at h;rw[Bool.and_eq_true] at h;simpa using h.1
theorem qEK {j:Nat}(r:Rch nd k) (s:Sm j k) (h:mayL nd j t=true):Rch nd (k ||| 1 <<< t):=by
 rcases q9s s h with q|q
 ·rw[qGx q];exact r
 ·exact .s r q
theorem q9t {k:Nat}:∀(ts:List Nat) (m:Nat),Rch nd m->Sm k m->(∀t∈ts,mayL nd k t=true)->Rch nd (q01 m ts)
 |[],m,r,_,_=>r
 |t::ts,m,r,s,h=>q9t ts (m ||| 1 <<< t) (qEK r s (h t List.mem_cons_self)) (q4Z s (q59 _ _)) λ u hu=>h u (List.mem_cons_of_mem _ hu)
theorem q2G (h:Rch nd k):k<2^nd.length:=by
 refine qAW λ i=>?_
 induction h with
 |z=>simp
 |s hk hm ih =>
  intro q;rw[q1O,Bool.or_eq_true] at q;rcases q with q|q
  ·exact ih q
  ·rw[<-of_decide_eq_true q];exact q9r hm
def q7k (nd:List (List Nat)) (b c:Nat):Prop:=Rch nd c/\Sm c b/\∀j,Rch nd j->Sm j b->Sm j c
theorem q9u (r:Rch nd k) (s:Sm k b) (e:q0G nd k b=[]):q7k nd b k:=by
 refine⟨r,s,λ j hj=>?_⟩
 induction hj with
 |z=>exact λ _=>q2R _
 |@s j t hk hm ih =>
  intro hb;have h1:=ih (q4Z (q59 _ _) hb);have h2:b.testBit t=true:=hb t (by rw[q1O];simp);refine qLH h1 λ i hi=>?_;rw[Nat.one_shiftLeft,Nat.testBit_two_pow] at hi;have:t=i:=of_decide_eq_true hi;subst this;rcases q9s h1 hm with q|q
  ·exact q
  ·have:t∈q0G nd k b:=List.mem_filter.mpr ⟨q09.mpr h2,q⟩;rw[e] at this;cases this
theorem q7l (K b:Nat) (hb:b<2^nd.length) (hn:nd.length<=60):∀(f k:Nat),b-k<f->Rch nd k->Sm k b->
  ∃c x,q7k nd b c/\q1L (tst (Gm (K+3)) subC (.e (.var 3))) (exs (Gm (K+3)) subC q3v) f [some (.val (ndD nd)),some (.val (nI b)),some (.val (nI k)),some (.val (.lst (nL (q0G nd k b))))] =
   .ok [some (.val (ndD nd)),some (.val (nI b)),some (.val (nI c)),x] .nx
 |0,k,h,_,_=>absurd h (by lia)
 |f+1,k,h,r,s=>by
  rw[q2Z]
  by_cases e:q0G nd k b=[]
  ·refine⟨k,some (.val (.lst (nL (q0G nd k b)))),q9u r s e,?_⟩;rw[e];simp[nL]
  ·have hm:∀t∈q0G nd k b,b.testBit t=true/\mayL nd k t=true:=λ t ht=>by obtain⟨h1,h2⟩:=List.mem_filter.mp ht;exact⟨q09.mp h1,h2⟩
   generalize hq:q0G nd k b=ts at e hm;have r':Rch nd (q01 k ts):=q9t ts k r (q58 k) λ t ht=>(hm t ht).2;have s':Sm (q01 k ts) b:=λ i hi=>by
    rw[q3a,Bool.or_eq_true] at hi;rcases hi with hi|hi
    ·exact s i hi
    ·exact (hm i (of_decide_eq_true hi)).1
   have hor:k ||| q01 0 ts=q01 k ts:=Nat.eq_of_testBit_eq λ i=>by rw[Nat.testBit_or,q1Q,q3a]
   have hlt:k<q01 k ts:=by
    obtain⟨t,ts',rfl⟩:∃t ts',ts=t::ts':=by
     cases ts with
     |nil=>exact absurd rfl e
     |cons t l=>exact⟨t,l,rfl⟩
    have hs:Sm k (q01 k (t::ts')):=λ i hi=>by rw[q3a,hi];rfl
    refine Nat.lt_of_le_of_ne (qCT hs) λ z=>?_;have h1:=q5A (hm t List.mem_cons_self).2;rw[z,q3a] at h1;simp at h1
   have hle:q01 k ts<=b:=qCT s';obtain⟨c,x,hc,hw⟩:=q7l K b hb hn f (q01 k ts) (by lia) r' s';refine⟨c,x,hc,Eq.trans ?_ hw⟩;have h1000:∀t∈ts,t<=1000:=λ t ht=>by have:=q9r (hm t ht).2;lia
   have e1:Gm (K+3) 0 [.lst (nL ts)] = .ok (nI (q01 0 ts)):=q9p (K+2) ts h1000 _ (.inr rfl);have e2:ts.isEmpty=false:=(by cases ts<;>simp at e |-);have e3:=q7i K nd (q01 k ts) b hb hn;have e4:(nL ts).isEmpty=false:=(by cases ts<;>simp at e |-);simp[q3v,e1,e3,hor,e4]
theorem qJl (K b:Nat) (hb:b<2^nd.length) (hn:nd.length<=15):∃c,q7k nd b c/\Gm (K+4) 6 [ndD nd,nI b] = .ok (nI c):=by
 have h2:b<2^15:=Nat.lt_of_lt_of_le hb (Nat.pow_le_pow_right (by decide) hn);obtain⟨c,x,hc,hw⟩:=q7l K b hb (by lia) 100000 0 (by lia) .z (q2R b);refine⟨c,hc,?_⟩;have e3:=q7i K nd 0 b hb (by lia);show Ev.run (Gm (K+3)) subC 4 [.set 2 (.con (.int 0)),.set 3 (.call 5 [(.var 0),(.var 2),(.var 1)]),.whl (.e (.var 3)) q3v,.ret (.var 2)] [ndD nd,nI b]=_;generalize hW:ex (Gm (K+3)) subC (.whl (.e (.var 3)) q3v)=W;have hw':W [some (.val (ndD nd)),some (.val (nI b)),some (.val (nI 0)),some (.val (.lst (nL (q0G nd 0 b))))] = .ok [some (.val (ndD nd)),some (.val (nI b)),some (.val (nI c)),x] .nx:=by rw[<-hW,qBJ];exact hw
 have hex:∀ρ,ex (Gm (K+3)) subC (.whl (.e (.var 3)) q3v) ρ=W ρ:=λ ρ=>by rw[hW]
 simp only[Ev.run,q0g,q0C,hex];simp[num0,e3,hw']
end Mk
namespace Mk
open Ev
variable {nd:List (List Nat)}
theorem q1Z:∀(N:Nat) (l:List Nat),l.Nodup->(∀x∈l,x<N)->l.length<=N
 |0,l,_,h=>by
  cases l with
  |nil=>simp
  |cons a l=>exact absurd (h a List.mem_cons_self) (by lia)
 |N+1,l,d,h=>by
  have h1:=q1Z N (l.erase N) (d.erase N) λ x hx=>by have h2:=(d.mem_erase_iff).mp hx;have h3:=h x h2.2;have h4:=h2.1;lia
  by_cases m:N∈l
  ·rw[List.length_erase_of_mem m] at h1;lia
  ·rw[List.erase_of_not_mem m] at h1;lia
def newL (k:Nat):List Nat->List Nat->List Nat
 |_,[]=>[]
 |ks,t::ts=>if k ||| 1 <<< t∈ks then newL k ks ts else (k ||| 1 <<< t)::newL k (ks++[k ||| 1 <<< t]) ts
def trs (n:Nat):List D:=List.replicate n (.bl true)
theorem qCU (i:Nat):∀(ks:List Nat),i∉ks->put (i:Int) (.bl true) (nL ks) (trs ks.length) = .ok (nL (ks++[i]),trs (ks++[i]).length)
 |[],_=>rfl
 |k::ks,h=>by
  have h1:¬((k:Int)=i):=λ e=>h (by have:k=i:=(by lia);subst this;exact List.mem_cons_self)
  have ih:=qCU i ks λ g=>h (List.mem_cons_of_mem _ g);show put (i:Int) (.bl true) (nI k::nL ks) (.bl true::trs ks.length)=_;unfold nI put;rw[if_neg h1,ih];rfl
theorem qEL (l:List Nat) (i:Nat):(nL l).any (λ y=>eqb y (nI i))=decide (i∈l):=by
 induction l with
 |nil=>simp
 |cons a l ih =>
  rw[q0a,List.any_cons,ih,qKs]
  by_cases h:a=i
  ·subst h;simp
  ·have:¬i=a:=λ e=>h e.symm;simp[h,this]
theorem q9v (l:List Nat) (v:List D) (i:Nat):cmD .nmem (nI i) (.dct (nL l) v) = .ok (.bl (!decide (i∈l))):=by have e:memD (nI i) (.dct (nL l) v) = .ok ((nL l).any λ y=>eqb y (nI i)):=rfl;have e2:cmD .nmem (nI i) (.dct (nL l) v)=(memD (nI i) (.dct (nL l) v)).bind λ r=> .ok (.bl (!r)):=rfl;rw[e2,e,qEL];rfl
theorem qCV {G:Nat->List D->R D}(a b:Option Sl) (N k:Nat) (hN:N<=1000):∀(ts ks ws:List Nat) (x y:Option Sl),ks.Nodup->(∀z∈ks,z<N)->(∀t∈ts,t<=1000/\k ||| 1 <<< t<N)->ws.length<=ks.length->
  ∃x' y',q0k (exs G subC qEF) 0 [5] (nL ts) [a,b,some (.own (.dct (nL ks) (trs ks.length))),some (.own (.lst (nL ws))),some (.val (nI k)),x,y] =
   .ok [a,b,some (.own (.dct (nL (ks++newL k ks ts)) (trs (ks++newL k ks ts).length))),some (.own (.lst (nL (ws++newL k ks ts)))),some (.val (nI k)),x',y'] .nx
 |[],ks,ws,x,y,_,_,_,_=>⟨x,y,by simp[newL,q1g]⟩
 |t::ts,ks,ws,x,y,hd,hk,ht,hw=>by
  have ht1:=ht t List.mem_cons_self;have hlen:=q1Z N ks hd hk;have ht':∀u∈ts,u<=1000/\k ||| 1 <<< u<N:=λ u hu=>ht u (List.mem_cons_of_mem _ hu)
  rw[q0a,q0B]
  by_cases q:k ||| 1 <<< t∈ks
  ·obtain⟨x',y',e⟩:=qCV (G:=G) a b N k hN ts ks ws (some (.val (nI t))) (some (.val (nI (k ||| 1 <<< t)))) hd hk ht' hw;refine⟨x',y',?_⟩;have e0:newL k ks (t::ts)=newL k ks ts:=(by rw[newL,if_pos q]);rw[e0,<-e];simp[qEF,num1,ht1.1,q9v,q]
  ·obtain⟨x',y',e⟩:=qCV (G:=G) a b N k hN ts (ks++[k ||| 1 <<< t]) (ws++[k ||| 1 <<< t]) (some (.val (nI t))) (some (.val (nI (k ||| 1 <<< t))))
    (List.nodup_append.mpr ⟨hd,by simp,λ u hu v hv=>by rw[List.mem_singleton] at hv;subst hv;exact λ z=>q (z▸hu)⟩)
    (λ z hz=>by
     rcases List.mem_append.mp hz with h|h
     ·exact hk z h
     ·rw[List.mem_singleton] at h;subst h;exact ht1.2) ht' (by simp;lia)
   refine⟨x',y',?_⟩;have e0:newL k ks (t::ts)=(k ||| 1 <<< t)::newL k (ks++[k ||| 1 <<< t]) ts:=(by rw[newL,if_neg q]);have e1:∀l:List Nat,l++newL k ks (t::ts)=(l++[k ||| 1 <<< t])++newL k (ks++[k ||| 1 <<< t]) ts:=λ l=>by rw[e0];simp
   rw[e1,e1,<-e];have e2:=qCU (k ||| 1 <<< t) ks q;have b1:ks.length<big:=(by rw[q0h];lia);have b2:ws.length<big:=(by rw[q0h];lia);have e3:∀ρ:Env,ρ[2]? = some (some (.own (.dct (nL ks) (trs ks.length))))->ρ[6]? = some (some (.val (nI (k ||| 1 <<< t))))->ex G subC (.put 2 (.var 6) (.con (.bl true))) ρ =
     .ok (ρ.set 2 (some (.own (.dct (nL (ks++[k ||| 1 <<< t])) (trs (ks++[k ||| 1 <<< t]).length))))) .nx:=λ ρ h1 h2=>by
    rw[qBI,h1];simp only[q0F,q05,q1V,q97,h2];show (if (nL ks).length<big then (put ((k ||| 1 <<< t:Nat):Int) (.bl true) (nL ks) (trs ks.length)).go ρ _ else _)=_;rw[q0Q,if_pos b1,e2];rfl
   simp only[qEF,q0g,q0C,q1y];simp[-qBI,num1,ht1.1,q9v,q,e3,b2]
theorem q6X {k x:Nat}:∀(ts ks:List Nat),x∈newL k ks ts->∃t∈ts,x=k ||| 1 <<< t
 |[],ks,h=>by simp[newL] at h
 |t::ts,ks,h=>by
  unfold newL at h;split at h
  ·obtain⟨u,hu,e⟩:=q6X ts ks h;exact⟨u,List.mem_cons_of_mem _ hu,e⟩
  ·rcases List.mem_cons.mp h with h|h
   ·exact⟨t,List.mem_cons_self,h⟩
   ·obtain⟨u,hu,e⟩:=q6X ts _ h;exact⟨u,List.mem_cons_of_mem _ hu,e⟩
theorem q6Y {k:Nat}:∀(ts ks:List Nat) (t:Nat),t∈ts->k ||| 1 <<< t∈ks++newL k ks ts
 |u::ts,ks,t,h=>by
  unfold newL;split
  ·rename_i q;rcases List.mem_cons.mp h with rfl|h
   ·exact List.mem_append_left _ q
   ·exact q6Y ts ks t h
  ·rcases List.mem_cons.mp h with rfl|h
   ·simp
   ·have:=q6Y (k:=k) ts (ks++[k ||| 1 <<< u]) t h;simpa using this
theorem q3y {k:Nat}:∀(ts ks:List Nat),ks.Nodup->(ks++newL k ks ts).Nodup
 |[],ks,h=>by simpa[newL] using h
 |t::ts,ks,h=>by
  unfold newL;split
  ·exact q3y ts ks h
  ·rename_i q;have:=q3y (k:=k) ts (ks++[k ||| 1 <<< t]) (List.nodup_append.mpr ⟨h,by simp,λ u hu v hv=>by rw[List.mem_singleton] at hv;subst hv;exact λ z=>q (z▸hu)⟩);simpa using this
theorem qEM (n:Nat):∀t,t∈q02 (2^n-1)↔t<n:=λ t=>q09.trans q4x
end Mk
namespace Mk
open Ev
variable {nd:List (List Nat)}
def iL (zs:List Int):List D:=zs.map D.int
@[simp] theorem iL_nil:iL []=[]:=rfl
@[simp] theorem q8g (z:Int) (l:List Int):iL (z::l) = .int z::iL l:=rfl
@[simp] theorem qJm (l:List Int):(iL l).length=l.length:=List.length_map _
theorem qJn (l:List Nat):nL l=iL (l.map λ (a:Nat)=>(a:Int)):=by simp[nL,iL,nI]
@[simp] theorem plN_iL (k:Nat) (l:List Int):(iL l).all (plN k)=true:=by simp[iL]
@[simp] theorem pl_ti (l:List Int):pl (.tup (iL l))=true:=by unfold pl;simp
@[simp] theorem plL_i (l:List Int):plL (iL l)=true:=q1f.mpr λ d hd=>by obtain⟨a,_,rfl⟩:=List.mem_map.mp hd;rfl
@[simp] theorem hshL_i (l:List Int):q0A (iL l)=true:=q0S.mpr λ d hd=>by obtain⟨a,_,rfl⟩:=List.mem_map.mp hd;simp[q03]
@[simp] theorem qGy (a b:Int):eqb (.int a) (.int b)=decide (a=b):=by simp[eqb]
theorem qLI (l:List Int) (i:Int):(iL l).any (λ y=>eqb y (.int i))=decide (i∈l):=by
 induction l with
 |nil=>simp
 |cons a l ih =>
  rw[q8g,List.any_cons,ih,qGy]
  by_cases h:a=i
  ·subst h;simp
  ·have:¬i=a:=λ e=>h e.symm;simp[h,this]
theorem qJo (i:Int) (l:List Int):cmD .mem (.int i) (.tup (iL l)) = .ok (.bl (decide (i∈l))):=by have e2:cmD .mem (.int i) (.tup (iL l))=(memD (.int i) (.tup (iL l))).bind λ r=> .ok (.bl r):=rfl;rw[e2,memD];simp[qLI]
@[simp] theorem le_i (a b:Int):cmD .le (.int a) (.int b) = .ok (.bl (decide (a<=b))):=rfl
@[simp] theorem gt_i (a b:Int):cmD .gt (.int a) (.int b) = .ok (.bl (decide (b<a))):=rfl
@[simp] theorem ge_i (a b:Int):cmD .ge (.int a) (.int b) = .ok (.bl (!decide (a<b))):=by simp[cmD,q03,q0o,ltb]
@[simp] theorem lt_i (a b:Int):cmD .lt (.int a) (.int b) = .ok (.bl (decide (a<b))):=by simp[cmD,q03,q0o,ltb]
theorem q5B (k:Nat) (i:Int):Gm (k+1) 8 [.int i] = .ok (.bl true):=by show Ev.run (Gm k) subC 1 q2f [.int i]=_;simp[Ev.run,q2f]
def q0i (c:Int):Int->List Int->Bool
 |_,[]=>true
 |a,t::ts=>decide (a<t)&&decide (t<c)&&q0i c t ts
theorem q4X (k:Nat) (c:Int) (x:Option Sl):∀(zs:List Int) (a:Int) (y:Option Sl),∃a' y',q0k (exs (Gm (k+1)) subC q55) 0 [3] (iL zs) [some (.val (.int c)),x,some (.val (.int a)),y] =
  .ok [some (.val (.int c)),x,a',y'] (if q0i c a zs=true then .nx else .ret (.bl false))
 |[],a,y=>⟨some (.val (.int a)),y,rfl⟩
 |t::zs,a,y=>by
  obtain⟨a',y',e⟩:=q4X k c x zs t (some (.val (.int t)));rw[q8g,q0B]
  by_cases h1:a<t
  ·by_cases h2:t<c
   ·refine⟨a',y',?_⟩;have h3:¬t<=a:=(by lia);have e0:q0i c a (t::zs)=q0i c t zs:=(by simp[q0i,h1,h2]);rw[e0,<-e];simp[q55,q5B,h3,h2]
   ·have h3:¬t<=a:=(by lia);exact⟨some (.val (.int a)),some (.val (.int t)),by simp[q55,q5B,h3,h2,q0i]⟩
  ·have h3:t<=a:=(by lia);exact⟨some (.val (.int a)),some (.val (.int t)),by simp[q55,q5B,h3,h1,q0i]⟩
theorem qCW (k:Nat) (c:Int) (zs:List Int):Gm (k+2) 9 [.int c,.tup (iL zs)] = .ok (.bl (q0i c (-1) zs)):=by obtain⟨a',y',e⟩:=q4X k c (some (.val (.tup (iL zs)))) zs (-1) none;show Ev.run (Gm (k+1)) subC 4 [.ifs (.not (.e (.bi .isTup [(.var 1)]))) [.ret (.con (.bl false))] [],.set 2 (.neg (.con (.int 1))),.forr 0 [3] (.e (.var 1)) q55,.ret (.con (.bl true))] [.int c,.tup (iL zs)]=_;have e':q0k (exs (Gm (k+1)) subC q55) 0 [3] (iL zs) [some (.val (.int c)),some (.val (.tup (iL zs))),some (.val (.int (-1))),none]=_:=e;cases q:q0i c (-1) zs<;>simp[Ev.run,e',q]
abbrev Wy:=Int×Option (List Int)
def wyD:Wy->D
 |(t,some zs)=> .tup [.int t,.tup (iL zs)]
 |(t,none)=> .tup [.int t]
def wyB (c:Int):Wy->Bool
 |(t,some zs)=>decide (0<=t)&&decide (t<c)&&q0i c (-1) zs&&!decide (t∈zs)
 |_=>false
theorem nth0 (a:D) (l:List D):nth (a::l) 0 = .ok a:=by simp[nth]
theorem nth1 (a b:D) (l:List D):nth (a::b::l) 1 = .ok b:=by simp[nth]
theorem idx0 (a:D) (l:List D):idxD (.tup (a::l)) (.int 0) = .ok a:=nth0 a l
theorem idx1 (a b:D) (l:List D):idxD (.tup (a::b::l)) (.int 1) = .ok b:=nth1 a b l
theorem qLJ (k:Nat) (c:Int) (w:Wy):Gm (k+3) 11 [.int c,wyD w]=if wyB c w=true then .ok .non else .err 1:=by
 show Ev.run (Gm (k+2)) subC 4 q1A [.int c,wyD w]=_;obtain⟨t,_|zs⟩:=w
 ·simp[Ev.run,q1A,wyD,wyB,num2]
 ·have e1:=q5B (k+1) t;have e2:=qCW k c zs
  by_cases h1:t<0
  ·have:¬0<=t:=(by lia);simp[Ev.run,q1A,wyD,wyB,num2,idx0,idx1,e1,e2,h1,this]
  ·have h1':0<=t:=by lia
   by_cases h2:t<c
   ·cases q:q0i c (-1) zs
    ·simp[Ev.run,q1A,wyD,wyB,num2,idx0,idx1,e1,e2,h1,h1',h2,q]
    ·by_cases h3:t∈zs<;>simp[Ev.run,q1A,wyD,wyB,num2,idx0,idx1,e1,e2,h1,h1',h2,q,qJo,h3]
   ·simp[Ev.run,q1A,wyD,wyB,num2,idx0,idx1,e1,e2,h1,h1',h2]
theorem q7m (k:Nat) (c:Int) (a b e:Option Sl):∀(ws:List Wy) (x:Option Sl),∃x',q0k (exs (Gm (k+3)) subC q5l) 0 [3] (ws.map wyD) [a,some (.val (.int c)),b,x,e] =
  if ws.all (wyB c)=true then .ok [a,some (.val (.int c)),b,x',e] .nx else .err 1 [a,some (.val (.int c)),b,x',e]
 |[],x=>⟨x,rfl⟩
 |w::ws,x=>by
  have e1:=qLJ k c w;rw[List.map_cons,q0B];cases q:wyB c w
  ·refine⟨some (.val (wyD w)),?_⟩;simp[q5l,e1,q]
  ·obtain⟨x',e2⟩:=q7m k c a b e ws (some (.val (wyD w)));refine⟨x',?_⟩;rw[List.all_cons,q,Bool.true_and,<-e2];simp[q5l,e1,q]
theorem qFD:∀(a b:List Int),q0t (iL a) (iL b)=true
 |[],_=>by simp[q0t]
 |_::_,[]=>by simp[q0t]
 |a::l,b::m=>by
  simp only[q8g,q0t,qGy];split
  ·exact qFD l m
  ·simp[q0o]
def wyW:Wy->Bool
 |(_,some _)=>true
 |_=>false
theorem qJp {c:Int}{w:Wy}(h:wyB c w=true):wyW w=true:=by
 obtain⟨t,_|zs⟩:=w
 ·simp[wyB] at h
 ·rfl
theorem qEN (w:Wy):pl (wyD w)=true:=by
 obtain⟨t,_|zs⟩:=w
 ·rfl
 ·unfold pl wyD;simp
theorem qCX (w:Wy):q03 (wyD w)=true:=by obtain⟨t,_|zs⟩:=w<;>simp[wyD,q03,q0A]
theorem qFE (v w:Wy) (hv:wyW v=true) (hw:wyW w=true):q0o (wyD v) (wyD w)=true:=by
 obtain⟨t,_|zs⟩:=v
 ·cases hv
 obtain⟨u,_|ys⟩:=w
 ·cases hw
 simp only[wyD,q0o,q0t,qGy];split
 ·split
  ·rfl
  ·simp[q0o,qFD]
 ·simp[q0o]
theorem qLK (v w:Wy) (hv:wyW v=true) (hw:wyW w=true):cmD .ge (wyD v) (wyD w) = .ok (.bl (!ltb (wyD v) (wyD w))):=by
 have h:cmD .ge (wyD v) (wyD w)=if pl (wyD v)&&pl (wyD w)&&q03 (wyD v)&&q03 (wyD w)&&q0o (wyD v) (wyD w) then .ok (.bl (!ltb (wyD v) (wyD w))) else .stuck:=rfl
 rw[h,qEN,qEN,qCX,qCX,qFE v w hv hw];rfl
open Classical in
theorem q7n {G:Nat->List D->R D}(a b e:Option Sl) (ws:List Wy) (hw:∀w∈ws,wyW w=true):∀(ps:List Nat) (x:Option Sl),(∀p∈ps,p+1<ws.length)->∃x',q0k (exs G subC q5m) 0 [4] (nL (ps.map (·+1))) [a,b,some (.val (.lst (ws.map wyD))),e,x] =
  if (∀p∈ps,∀v w,ws[p]? = some v->ws[p+1]? = some w->ltb (wyD v) (wyD w)=true) then .ok [a,b,some (.val (.lst (ws.map wyD))),e,x'] .nx else .err 1 [a,b,some (.val (.lst (ws.map wyD))),e,x']
 |[],x,_=>⟨x,by simp[q1g]⟩
 |p::ps,x,hp=>by
  have h1:=hp p List.mem_cons_self;obtain⟨v,hv⟩:∃v,ws[p]? = some v:=⟨_,List.getElem?_eq_getElem (by lia)⟩
  obtain⟨w,hw2⟩:∃w,ws[p+1]? = some w:=⟨_,List.getElem?_eq_getElem h1⟩
  have e1:idxD (.lst (ws.map wyD)) (nI p) = .ok (wyD v):=q65 _ _ _ (by rw[List.getElem?_map,hv];rfl);have e2:idxD (.lst (ws.map wyD)) (nI (p+1)) = .ok (wyD w):=q65 _ _ _ (by rw[List.getElem?_map,hw2];rfl);have e3:=qLK v w (hw v (List.mem_of_getElem? hv)) (hw w (List.mem_of_getElem? hw2));have e4:opD .sub (nI (p+1)) (nI 1) = .ok (nI p):=qIO _ _ (by lia);rw[List.map_cons,q0a,q0B]
  by_cases q:ltb (wyD v) (wyD w)=true
  ·obtain⟨x',e5⟩:=q7n (G:=G) a b e ws hw ps (some (.val (nI (p+1)))) λ r hr=>hp r (List.mem_cons_of_mem _ hr);refine⟨x',?_⟩;have e6:(∀r∈p::ps,∀v w,ws[r]? = some v->ws[r+1]? = some w->ltb (wyD v) (wyD w)=true)↔(∀r∈ps,∀v w,ws[r]? = some v->ws[r+1]? = some w->ltb (wyD v) (wyD w)=true):=by rw[List.forall_mem_cons];exact⟨λ h=>h.2,λ h=>⟨λ v' w' a1 a2=>by rw[hv] at a1;rw[hw2] at a2;cases a1;cases a2;exact q,h⟩⟩
   simp only[e6];rw[<-e5];simp[q5m,num1,e4,e1,e2,e3,q]
  ·refine⟨some (.val (nI (p+1))),?_⟩;rw[if_neg λ h=>q (h p List.mem_cons_self v w hv hw2)];simp[q5m,num1,e4,e1,e2,e3,q]
def rulD (n:Int) (ws:List Wy):D:= .tup [.int n,.lst (ws.map wyD)]
def Rise (ws:List Wy):Prop:=∀p,p+1<ws.length->∀v w,ws[p]? = some v->ws[p+1]? = some w->ltb (wyD v) (wyD w)=true
theorem rng2 (l:Nat) (h:l<2^60):rngD [.int 1,nI l] = .ok (nL ((List.range (l-1)).map (·+1))):=by
 unfold rngD nI;simp only;rw[if_pos (by lia)];congr 1;have:((l:Int)-1).toNat=l-1:=by lia
 rw[this];simp only[nL,List.map_map];refine List.map_congr_left λ a _=>?_;simp only[Function.comp,nI];congr 1;lia
theorem len_eq (ws:List Wy):(ws.map wyD).length=ws.length:=List.length_map _
section
variable {G:Nat->List D->R D}
theorem qLL (a b:D) (ρ:Env):ex G subC q9m (some (.val (.tup [a,b]))::ρ) = .ok (some (.val (.tup [a,b]))::ρ) .nx:=by simp[q9m,num2]
theorem qLM (h9:∀i,G 8 [.int i] = .ok (.bl true)) (x:Option Sl) (n:Int) (ρ:Env):ex G subC q5n (x::some (.val (.int n))::ρ)=if 0<=n/\n<=10 then .ok (x::some (.val (.int n))::ρ) .nx else .err 1 (x::some (.val (.int n))::ρ):=by
 by_cases h0:n<0
 ·have:¬0<=n:=by lia
  simp[q5n,h9,h0,this]
 have h0':0<=n:=by lia
 by_cases h1:10<n
 ·have:¬n<=10:=by lia
  simp[q5n,h9,h0,h0',h1,this]
 have h1':n<=10:=by lia
 simp[q5n,h9,h0,h0',h1,h1']
theorem qLN (x y:Option Sl) (l:List D) (ρ:Env) (h:l.length<=1300):ex G subC q9n (x::y::some (.val (.lst l))::ρ) = .ok (x::y::some (.val (.lst l))::ρ) .nx:=by
 have h3:decide ((1300:Int)<(l.length:Int))=false:=decide_eq_false (by lia);have e:cmD .gt (nI l.length) (.int 1300) = .ok (.bl false):=by rw[nI,gt_i,h3]
 simp[q9n,e]
end
open Classical in
theorem qJq {G:Nat->List D->R D}(a b e:Option Sl) (ws:List Wy) (hl:ws.length<=1300) (hw:∀w∈ws,wyW w=true):∃x',ex G subC (.forr 0 [4] (.rng [(.con (.int 1)),(.bi .len [(.var 2)])]) q5m) [a,b,some (.val (.lst (ws.map wyD))),e,none] =
  if Rise ws then .ok [a,b,some (.val (.lst (ws.map wyD))),e,x'] .nx else .err 1 [a,b,some (.val (.lst (ws.map wyD))),e,x']:=by
 obtain⟨x2,e3⟩:=q7n (G:=G) a b e ws hw (List.range (ws.length-1)) none (λ p hp=>by rw[List.mem_range] at hp;lia);refine⟨x2,?_⟩;have e4:=rng2 ws.length (Nat.lt_of_le_of_lt hl (by decide));have e5:(∀p∈List.range (ws.length-1),∀v w,ws[p]? = some v->ws[p+1]? = some w->ltb (wyD v) (wyD w)=true)↔Rise ws :=
  ⟨λ h p hp=>h p (List.mem_range.mpr (by lia)),λ h p hp=>h p (by rw[List.mem_range] at hp;lia)⟩
 have e7:evi G subC (.rng [(.con (.int 1)),(.bi .len [(.var 2)])]) [a,b,some (.val (.lst (ws.map wyD))),e,none] = .ok (nL ((List.range (ws.length-1)).map (·+1))):=by have e8:evs G subC [(.con (.int 1)),(.bi .len [(.var 2)])] [a,b,some (.val (.lst (ws.map wyD))),e,none] = .ok [.int 1,nI (ws.map wyD).length]:=rfl;rw[q0l,e8,q00,len_eq,e4]
 rw[q0w,e7,q05,e3]
 by_cases r:Rise ws
 ·rw[if_pos (e5.mpr r),if_pos r]
 ·rw[if_neg (λ g=>r (e5.mp g)),if_neg r]
open Classical in
theorem qFF (k:Nat) (n:Int) (ws:List Wy) (hl:ws.length<=1300):Gm (k+4) 10 [rulD n ws]=if (0<=n/\n<=10)/\ws.all (wyB n)=true/\Rise ws then .ok .non else .err 1:=by
 have e1:=q5B (k+2);show Ev.run (Gm (k+3)) subC 5 [q9m,.set 1 (.idx (.var 0) (.con (.int 0))),.set 2 (.idx (.var 0) (.con (.int 1))),q5n,q9n,.forr 0 [3] (.e (.var 2)) q5l,.forr 0 [4] (.rng [(.con (.int 1)),(.bi .len [(.var 2)])]) q5m] [rulD n ws]=_;have hl':(ws.map wyD).length<=1300:=by rw[len_eq];exact hl
 simp only[Ev.run,q0g,q0C,rulD,qBO,qDQ,List.cons_append,List.nil_append,qLL,q5L,q0P,q1d,q1V,q0F,q97,List.getElem?_cons_zero,q00,idx0,idx1,q05,List.length_cons,List.length_nil,List.replicate,List.set_cons_succ,List.set_cons_zero,Nat.reduceAdd,Nat.reduceSub,qLM e1]
 by_cases h:0<=n/\n<=10
 ·simp only[if_pos h,q5L,qLN _ _ _ _ hl'];obtain⟨x1,e2⟩:=q7m k n (some (.val (rulD n ws))) (some (.val (.lst (ws.map wyD)))) none ws none;unfold rulD at e2;have e8:ex (Gm (k+3)) subC (.forr 0 [3] (.e (.var 2)) q5l) [some (.val (.tup [.int n,.lst (ws.map wyD)])),some (.val (.int n)),some (.val (.lst (ws.map wyD))),none,none]=_:=e2;rw[e8];cases q:ws.all (wyB n)
  ·simp
  ·have hw:∀w∈ws,wyW w=true:=λ w hw=>qJp (List.all_eq_true.mp q w hw);obtain⟨x2,e3⟩:=qJq (G:=Gm (k+3)) (some (.val (rulD n ws))) (some (.val (.int n))) x1 ws hl hw;unfold rulD at e3;rw[if_pos rfl,q5L,e3]
   by_cases r:Rise ws
   ·rw[if_pos r,if_pos ⟨h,rfl,r⟩,q5L]
   ·rw[if_neg r,if_neg λ g=>r g.2.2,qB3]
 ·rw[if_neg h,if_neg λ g=>h g.1,qB3]
end Mk
namespace Mk
open Ev
abbrev Wn:=Nat×List Nat
def toW (w:Wn):Wy:=((w.1:Int),some (w.2.map λ (a:Nat)=>(a:Int)))
def wD (w:Wn):D:= .tup [nI w.1,.tup (nL w.2)]
theorem q3z (w:Wn):wyD (toW w)=wD w:=by unfold wyD toW wD;rw[qJn];rfl
theorem q8h (ws:List Wn):(ws.map toW).map wyD=ws.map wD:=by rw[List.map_map];exact List.map_congr_left λ w _=>q3z w
def rD (n:Nat) (ws:List Wn):D:= .tup [nI n,.lst (ws.map wD)]
theorem qLO (n:Nat) (ws:List Wn):rD n ws=rulD n (ws.map toW):=by unfold rD rulD;rw[q8h];rfl
structure Good (n:Nat) (ws:List Wn):Prop where
 n5:n<=5
 len:ws.length<=60
 ok:∀w∈ws,wyB n (toW w)=true
 rise:Rise (ws.map toW)
theorem q7o {c:Int}:∀{zs:List Int}{a:Int},q0i c a zs=true↔(a::zs).Pairwise (· < ·)/\∀z∈zs,z<c
 |[],a=>by simp[q0i]
 |t::zs,a=>by
  rw[q0i,Bool.and_eq_true,Bool.and_eq_true,q7o (zs:=zs) (a:=t),decide_eq_true_eq,decide_eq_true_eq];constructor
  ·rintro⟨⟨h1,h2⟩,h3,h4⟩;refine⟨List.pairwise_cons.mpr ⟨λ z hz=>?_,h3⟩,λ z hz=>?_⟩
   ·rcases List.mem_cons.mp hz with rfl|hz
    ·exact h1
    ·exact Int.lt_trans h1 ((List.pairwise_cons.mp h3).1 z hz)
   ·rcases List.mem_cons.mp hz with rfl|hz
    ·exact h2
    ·exact h4 z hz
  ·rintro⟨h1,h2⟩;have h3:=List.pairwise_cons.mp h1;exact⟨⟨h3.1 t List.mem_cons_self,h2 t List.mem_cons_self⟩,h3.2,λ z hz=>h2 z (List.mem_cons_of_mem _ hz)⟩
def Ris (n:Nat) (l:List Nat):Prop:=l.Pairwise (· < ·)/\∀x∈l,x<n
theorem qCY {n:Nat}{l:List Nat}:q0i n (-1) (l.map λ (a:Nat)=>(a:Int))=true↔Ris n l:=by
 rw[q7o,List.pairwise_cons,List.pairwise_map];constructor
 ·rintro⟨⟨_,h1⟩,h2⟩;exact⟨h1.imp λ h=>by lia,λ x hx=>by have:=h2 x (List.mem_map.mpr ⟨x,hx,rfl⟩);lia⟩
 ·rintro⟨h1,h2⟩;refine⟨⟨λ z hz=>?_,h1.imp λ h=>by lia⟩,λ z hz=>?_⟩
  ·obtain⟨x,hx,rfl⟩:=List.mem_map.mp hz;show (-1:Int)<(x:Int);lia
  ·obtain⟨x,hx,rfl⟩:=List.mem_map.mp hz;have:=h2 x hx;show (x:Int)<(n:Int);lia
theorem qEO {n:Nat}{w:Wn}:wyB n (toW w)=true↔w.1<n/\Ris n w.2/\w.1∉w.2:=by
 unfold wyB toW;simp only[Bool.and_eq_true,qCY,decide_eq_true_eq,Bool.not_eq_true',decide_eq_false_iff_not,List.mem_map];constructor
 ·rintro⟨⟨⟨h1,h2⟩,h3⟩,h4⟩;exact⟨by lia,h3,λ h=>h4 ⟨w.1,h,rfl⟩⟩
 ·rintro⟨h1,h2,h3⟩;refine⟨⟨⟨by lia,by lia⟩,h2⟩,λ⟨x,hx,e⟩=>h3 ?_⟩;have:x=w.1:=by lia
  exact this▸hx
section
variable {n:Nat}{ws:List Wn}(g:Good n ws)
include g
theorem q5C (k:Nat):Gm (k+4) 10 [rD n ws] = .ok .non:=by rw[qLO,qFF k n (ws.map toW) (by rw[List.length_map];have:=g.len;lia)];have:=g.n5;refine if_pos ⟨⟨by lia,by lia⟩,?_,g.rise⟩;rw[List.all_map];exact List.all_eq_true.mpr λ w hw=>g.ok w hw
end
theorem q6Z {n m:Nat}(h:m<2^n):Ris n (q02 m) :=
 ⟨List.Pairwise.filter _ List.pairwise_lt_range,λ x hx=>q7j h (q09.mp hx)⟩
theorem q3b (m:Nat):q01 0 (q02 m)=m:=Nat.eq_of_testBit_eq λ i=>by
 rw[q1Q];cases q:m.testBit i with
 |false=>exact decide_eq_false λ h=>by rw[q09,q] at h;cases h
 |true=>exact decide_eq_true (q09.mpr q)
theorem q9w {a b:Nat}(h:q02 a=q02 b):a=b:=by rw[<-q3b a,h,q3b]
def q40 (xss:List (List Nat)) (w:Wn):List (List Nat):=xss.set w.1 (xss.getD w.1 []++[q01 0 w.2])
def nds (n:Nat) (ws:List Wn):List (List Nat):=ws.foldl q40 (List.replicate n [])
theorem q5D (xss:List (List Nat)) (w:Wn):(q40 xss w).length=xss.length:=List.length_set
theorem q7p:∀(ws:List Wn) (xss:List (List Nat)),(ws.foldl q40 xss).length=xss.length
 |[],_=>rfl
 |w::ws,xss=>by rw[List.foldl_cons,q7p ws,q5D]
theorem q1l (n:Nat) (ws:List Wn):(nds n ws).length=n:=by unfold nds;rw[q7p,List.length_replicate]
theorem q7q (t x:Nat):∀(ws:List Wn) (xss:List (List Nat)),(∀w∈ws,w.1<xss.length)->(x∈(ws.foldl q40 xss).getD t []↔x∈xss.getD t []\/∃w∈ws,w.1=t/\x=q01 0 w.2)
 |[],xss,_=>by simp
 |w::ws,xss,h=>by
  have h1:=h w List.mem_cons_self;rw[List.foldl_cons,q7q t x ws (q40 xss w) λ v hv=>by rw[q5D];exact h v (List.mem_cons_of_mem _ hv)];have e:x∈(q40 xss w).getD t []↔x∈xss.getD t []\/(w.1=t/\x=q01 0 w.2):=by
   unfold q40
   by_cases q:w.1=t
   ·subst q;simp[List.getD,h1]
   ·simp[List.getD,List.getElem?_set_ne q,q]
  rw[e];simp only[List.mem_cons,exists_eq_or_imp,or_assoc]
theorem qGz {n:Nat}{ws:List Wn}(h:∀w∈ws,w.1<n) (k t:Nat):mayL (nds n ws) k t=(!k.testBit t&&ws.any λ w=>decide (w.1=t)&&w.2.all k.testBit):=by
 unfold mayL;congr 1;rw[Bool.eq_iff_iff,List.any_eq_true,List.any_eq_true];have hm:∀x,x∈(nds n ws).getD t []↔∃w∈ws,w.1=t/\x=q01 0 w.2:=λ x=>by
  unfold nds;rw[q7q t x ws _ λ w hw=>by rw[List.length_replicate];exact h w hw];have:(List.replicate n ([]:List Nat)).getD t []=[]:=by
   by_cases q:t<n<;>simp[List.getD,q]
  rw[this];simp
 have hs:∀s:List Nat,Sm (q01 0 s) k↔s.all k.testBit=true:=λ s=>by rw[List.all_eq_true];exact⟨λ g e he=>g e (by rw[q1Q];exact decide_eq_true he),λ g i hi=>g i (by rw[q1Q] at hi;exact of_decide_eq_true hi)⟩
 constructor
 ·rintro⟨x,hx,e⟩;obtain⟨w,hw,h1,h2⟩:=(hm x).mp hx;refine⟨w,hw,?_⟩;rw[beq_iff_eq,q3x,h2,hs] at e;simp[h1,e]
 ·rintro⟨w,hw,e⟩;rw[Bool.and_eq_true,decide_eq_true_eq] at e;exact⟨q01 0 w.2,(hm _).mpr ⟨w,hw,e.1,rfl⟩,by rw[beq_iff_eq,q3x,hs];exact e.2⟩
theorem qCZ {G:Nat->List D->R D}{ρ:Env}{i:Nat}{a b:L}{xss:List (List D)}{t:Nat}{ys:List D}{d:D}(h1:ρ[i]? = some (some (.own2 xss))) (h2:ev G subC a ρ = .ok (nI t)) (h3:xss[t]? = some ys) (h4:ev G subC b ρ = .ok d) (h5:ys.length<big) :
  ex G subC (.app2 i a b) ρ = .ok (ρ.set i (some (.own2 (xss.set t (ys++[d]))))) .nx:=by
 rw[qFu,h1];simp only[h2,q05];show (if 0<=(t:Int) then (match xss[((t:Int)).toNat]? with
       |some ys=>(ev G subC b ρ).go ρ λ d=>if ys.length<big then .ok (ρ.set i (some (.own2 (xss.set ((t:Int)).toNat (ys++[d]))))) .nx else .stuck
       |none=> .stuck) else .stuck)=_
 rw[if_pos (by lia)];simp only[Int.toNat_natCast,h3,h4,q05];rw[if_pos h5]
theorem q9x (k:Nat) (x:Option Sl):∀(ws:List Wn) (xss:List (List Nat)) (y:Option Sl),(∀w∈ws,w.1<xss.length/\∀e∈w.2,e<=1000)->(∀l∈xss,l.length+ws.length<=1000)->
  ∃y',q0k (exs (Gm (k+1)) subC qCO) 0 [2] (ws.map wD) [x,some (.own2 (xss.map nL)),y] = .ok [x,some (.own2 ((ws.foldl q40 xss).map nL)),y'] .nx
 |[],xss,y,_,_=>⟨y,rfl⟩
 |w::ws,xss,y,h,hl=>by
  have h1:=h w List.mem_cons_self;have hg:xss.getD w.1 []=xss[w.1]'h1.1:=by simp[List.getD,h1.1]
  have hm:xss.getD w.1 []∈xss:=by rw[hg];exact List.getElem_mem _
  have hl2:=hl _ hm;simp only[List.length_cons] at hl hl2;obtain⟨y',e⟩:=q9x k x ws (q40 xss w) (some (.val (wD w))) (λ v hv=>by rw[q5D];exact h v (List.mem_cons_of_mem _ hv)) (λ l hm2=>by
   unfold q40 at hm2;rcases List.mem_or_eq_of_mem_set hm2 with q|q
   ·have:=hl l q;lia
   ·rw[q,List.length_append,List.length_singleton];lia)
  refine⟨y',?_⟩;rw[List.map_cons,q0B,List.foldl_cons,<-e];have e1:=q9p k w.2 h1.2 (.tup (nL w.2)) (.inl rfl);have e2:=qCZ (G:=Gm (k+1)) (ρ:=[x,some (.own2 (xss.map nL)),some (.val (wD w))]) (i:=1) (a:= .idx (.var 2) (.con (.int 0))) (b:= .call 0 [(.idx (.var 2) (.con (.int 1)))]) (xss:=xss.map nL) (t:=w.1) (ys:=nL (xss.getD w.1 [])) (d:=nI (q01 0 w.2)) rfl (by simp[wD,idx0]) (by rw[List.getElem?_map,List.getElem?_eq_getElem h1.1,hg];rfl) (by simp[wD,idx1,e1]) (by rw[q0Q,q0h];lia);have e3:(xss.map nL).set w.1 (nL (xss.getD w.1 [])++[nI (q01 0 w.2)])=(q40 xss w).map nL:=by unfold q40;rw[List.map_set];simp
  rw[e3] at e2;simp only[qCO,q0g,q0C,List.set_cons_succ,List.set_cons_zero] at e2 |-;rw[e2];rfl
section
variable {n:Nat}{ws:List Wn}(g:Good n ws)
include g
theorem qH0:∀w∈ws,w.1<n:=λ w hw=>(qEO.mp (g.ok w hw)).1
theorem q41 (k:Nat):Gm (k+2) 3 [rD n ws] = .ok (ndD (nds n ws)):=by
 have hn:=g.n5;obtain⟨y',e⟩:=q9x k (some (.val (rD n ws))) ws (List.replicate n []) none (λ w hw=>by
  have h:=qEO.mp (g.ok w hw);rw[List.length_replicate];exact⟨h.1,λ e he=>by have:=h.2.1.2 e he;lia⟩) (λ l hl=>by
  rw[List.eq_of_mem_replicate hl];have:=g.len;simp;lia)
 have e0:((List.replicate n ([]:List Nat)).map nL)=List.replicate n []:=by rw[List.map_replicate];rfl
 rw[e0] at e;show Ev.run (Gm (k+1)) subC 3 [.setE 1 (.idx (.var 0) (.con (.int 0))),.forr 0 [2] (.e (.idx (.var 0) (.con (.int 1)))) qCO,.retO 1] [rD n ws]=_;have e1:ex (Gm (k+1)) subC (.setE 1 (.idx (.var 0) (.con (.int 0)))) [some (.val (rD n ws)),none,none] = .ok [some (.val (rD n ws)),some (.own2 (List.replicate n [])),none] .nx:=by
  have:ev (Gm (k+1)) subC (.idx (.var 0) (.con (.int 0))) [some (.val (rD n ws)),none,none] = .ok (nI n):=by simp[rD,idx0]
  rw[qFt,this,q05];show (if 0<=(n:Int)/\(n:Int)<=1000 then _ else _)=_;rw[if_pos (by lia)];rfl
 have e2:ex (Gm (k+1)) subC (.forr 0 [2] (.e (.idx (.var 0) (.con (.int 1)))) qCO) [some (.val (rD n ws)),some (.own2 (List.replicate n [])),none] = .ok [some (.val (rD n ws)),some (.own2 ((ws.foldl q40 (List.replicate n [])).map nL)),y'] .nx:=by
  have:evi (Gm (k+1)) subC (.e (.idx (.var 0) (.con (.int 1)))) [some (.val (rD n ws)),some (.own2 (List.replicate n [])),none] = .ok (ws.map wD):=by simp[rD,idx1]
  rw[q0w,this,q05,e]
 have e3:vals [rD n ws]++List.replicate (3 - [rD n ws].length) none=[some (.val (rD n ws)),none,none]:=rfl;simp only[Ev.run,q0g,q0C,e3,e1,e2,q5L];simp[nds,ndD]
theorem q4M (k:Nat) (zs:List Int):Gm (k+5) 12 [rD n ws,.tup (iL zs)]=if q0i n (-1) zs=true then .ok .non else .err 2:=by show Ev.run (Gm (k+4)) subC 2 q1N [rD n ws,.tup (iL zs)]=_;have e1:=q5C g k;have e2:=qCW (k+2) n zs;have e3:idxD (rD n ws) (.int 0) = .ok (.int n):=idx0 _ _;cases q:q0i n (-1) zs<;>simp[Ev.run,q1N,e1,e2,e3,q]
theorem qEP (k m:Nat) (hm:m<2^n):Gm (k+5) 12 [rD n ws,.tup (nL (q02 m))] = .ok .non:=by rw[qJn,q4M g,if_pos (qCY.mpr (q6Z hm))]
theorem q5r {m:Nat}(hm:m<2^n):∀t∈q02 m,t<=1000:=λ t ht=>by have:=q7j hm (q09.mp ht);have:=g.n5;lia
theorem qCa (k m:Nat) (hm:m<2^n):∃c,q7k (nds n ws) m c/\Gm (k+6) 15 [rD n ws,.tup (nL (q02 m))] = .ok (.tup (nL (q02 c))):=by have hn:=g.n5;obtain⟨c,hc,e5⟩:=qJl (nd:=nds n ws) (k+1) m (by rw[q1l];exact hm) (by rw[q1l];lia);refine⟨c,hc,?_⟩;show Ev.run (Gm (k+5)) subC 2 q4K [rD n ws,.tup (nL (q02 m))]=_;have e1:=qEP g k m hm;have e2:=q41 g (k+3);have e3:=q9p (k+4) (q02 m) (q5r g hm) _ (.inl rfl);rw[q3b] at e3;have hc2:=q2G hc.1;rw[q1l] at hc2;have e4:=q9q (k+3) c (Nat.lt_of_lt_of_le hc2 (Nat.pow_le_pow_right (by decide) (by lia)));simp[Ev.run,q4K,e1,e2,e3,e4,e5]
theorem q4N (k m:Nat) (hm:m<2^n):∃c,q7k (nds n ws) m c/\Gm (k+7) 14 [rD n ws,.tup (nL (q02 m))] = .ok (.bl (decide (c=m))):=by
 obtain⟨c,hc,e⟩:=qCa g k m hm;refine⟨c,hc,?_⟩;show Ev.run (Gm (k+6)) subC 2 q1B [rD n ws,.tup (nL (q02 m))]=_;have e1:cmD .eq (.tup (nL (q02 c))) (.tup (nL (q02 m))) = .ok (.bl (decide (c=m))):=by
  have:cmD .eq (.tup (nL (q02 c))) (.tup (nL (q02 m)))=if pl (.tup (nL (q02 c)))&&pl (.tup (nL (q02 m))) then .ok (.bl (eqb (.tup (nL (q02 c))) (.tup (nL (q02 m))))) else .stuck:=by simp[cmD]
  rw[this,qDO,qDO,qEw];have:decide (q02 c=q02 m)=decide (c=m):=decide_eq_decide.mpr ⟨q9w,λ h=>by rw[h]⟩;rw[this];rfl
 simp[Ev.run,q1B,e,e1]
end
end Mk
namespace Mk
open Ev
variable {n:Nat}
noncomputable def q12:Nat->List Nat
 |0=>[0]
 |1=>[0,1]
 |2=>[0,1,2,3]
 |3=>[0,1,2,4,3,5,6,7]
 |4=>[0,1,2,4,8,3,5,9,6,10,12,7,11,13,14,15]
 |5=>[0,1,2,4,8,16,3,5,9,17,6,10,18,12,20,24,7,11,19,13,21,25,14,22,26,28,15,23,27,29,30,31]
 |_=>[]
def tD (m:Nat):D:= .tup (nL (q02 m))
theorem le5 {P:Nat->Prop}(h:n<=5) (h0:P 0) (h1:P 1) (h2:P 2) (h3:P 3) (h4:P 4) (h5:P 5):P n:=by
 match n,h with
 |0,_=>exact h0
 |1,_=>exact h1
 |2,_=>exact h2
 |3,_=>exact h3
 |4,_=>exact h4
 |5,_=>exact h5
theorem q2g (h:n<=5):∀m,m∈q12 n↔m<2^n:=by have a:∀x∈q12 n,x<2^n:=le5 (P:=λ n=>∀x∈q12 n,x<2^n) h (by decide) (by decide) (by decide) (by decide) (by decide) (by decide);have b:∀x,x<2^n->x∈q12 n:=le5 (P:=λ n=>∀x,x<2^n->x∈q12 n) h (by decide) (by decide) (by decide) (by decide) (by decide +kernel) (by decide +kernel);exact λ m=>⟨a m,b m⟩
theorem q42 (h:n<=5):(q12 n).Nodup :=
 le5 (P:=λ n=>(q12 n).Nodup) h (by decide) (by decide) (by decide) (by decide +kernel) (by decide +kernel) (by decide +kernel)
theorem qEQ (h:n<=5):(q12 n).Pairwise λ a b=>¬b &&& a=b :=
 le5 (P:=λ n=>(q12 n).Pairwise λ a b=>¬b &&& a=b) h (by decide) (by decide) (by decide) (by decide +kernel) (by decide +kernel) (by decide +kernel)
theorem qCb (h:n<=5):∃ms,q12 n=0::ms :=
 le5 (P:=λ n=>∃ms,q12 n=0::ms) h ⟨_,rfl⟩ ⟨_,rfl⟩ ⟨_,rfl⟩ ⟨_,rfl⟩ ⟨_,rfl⟩ ⟨_,rfl⟩
theorem qCc (G:Nat->List D->R D):Ev.run G subC 3 q0r [nI 0] = .ok (.lst ((q12 0).map tD)):=by kernel_rfl
theorem qCd (G:Nat->List D->R D):Ev.run G subC 3 q0r [nI 1] = .ok (.lst ((q12 1).map tD)):=by kernel_rfl
theorem qCe (G:Nat->List D->R D):Ev.run G subC 3 q0r [nI 2] = .ok (.lst ((q12 2).map tD)):=by kernel_rfl
theorem qCf (G:Nat->List D->R D):Ev.run G subC 3 q0r [nI 3] = .ok (.lst ((q12 3).map tD)):=by kernel_rfl
theorem qCg (G:Nat->List D->R D):Ev.run G subC 3 q0r [nI 4] = .ok (.lst ((q12 4).map tD)):=by kernel_rfl
theorem qCh (G:Nat->List D->R D):Ev.run G subC 3 q0r [nI 5] = .ok (.lst ((q12 5).map tD)):=by kernel_rfl
theorem q0s (k f:Nat) (xs:List D) (a b:Nat) (l:List S) (h:dsM[f]? = some (a,b,l)) (hl:xs.length=a):Gm (k+1) f xs=Ev.run (Gm k) subC b l xs:=by rw[Gm,h];exact if_pos hl
theorem qFG (k:Nat) (h:n<=5):Gm (k+1) 26 [nI n] = .ok (.lst ((q12 n).map tD)):=by
 have e:Gm (k+1) 26 [nI n]=Ev.run (Gm k) subC 3 q0r [nI n]:=q0s k 26 _ 1 3 _ rfl rfl;refine e.trans ?_;clear e
 match n,h with
 |0,_=>exact qCc _
 |1,_=>exact qCd _
 |2,_=>exact qCe _
 |3,_=>exact qCf _
 |4,_=>exact qCg _
 |5,_=>exact qCh _
end Mk
namespace Mk
open Ev
variable {G:Nat->List D->R D}{s:S}{l:List S}{ρ ρ':Env}
theorem q04 (h:ex G subC s ρ = .ok ρ' .nx):exs G subC (s::l) ρ=exs G subC l ρ':=by rw[q0g,h,q5L]
theorem q17 {d:D}(h:ex G subC s ρ = .ok ρ' (.ret d)):exs G subC (s::l) ρ = .ok ρ' (.ret d):=by rw[q0g,h,qID]
theorem q5E {c:Nat}(h:ex G subC s ρ = .err c ρ'):exs G subC (s::l) ρ = .err c ρ':=by rw[q0g,h,qB3]
theorem q1m {n:Nat}{ds:List D}{d:D}(h0:vals ds++List.replicate (n-ds.length) none=ρ) (h:exs G subC l ρ = .ok ρ' (.ret d)):Ev.run G subC n l ds = .ok d:=by unfold Ev.run;rw[h0,h]
theorem qCi {n:Nat}{ds:List D}{c:Nat}(h0:vals ds++List.replicate (n-ds.length) none=ρ) (h:exs G subC l ρ = .err c ρ'):Ev.run G subC n l ds = .err c:=by unfold Ev.run;rw[h0,h]
theorem q1D {α:Type}{elt:Env->R D}{cond:Env->R Bool}{k:Nat}{ρ:Env}{f g:α->D}{us:α->List D}{p:α->Bool}:∀{xs:List α},
  (∀x∈xs,unp k (f x) = .ok (us x)/\cond (vals (us x)++ρ) = .ok (p x)/\(p x=true->elt (vals (us x)++ρ) = .ok (g x)))->q0c elt cond k ρ (xs.map f) = .ok ((xs.filter p).map g)
 |[],_=>rfl
 |x::xs,h=>by
  obtain⟨h1,h2,h3⟩:=h x List.mem_cons_self;have ih:=q1D (elt:=elt) (cond:=cond) (k:=k) (ρ:=ρ) (f:=f) (g:=g) (us:=us) (p:=p) (xs:=xs) λ e he=>h e (List.mem_cons_of_mem _ he);rw[List.map_cons,q0c,h1,q00,h2,q00];cases hp:p x with
  |true=>rw[if_pos rfl,h3 hp,q00,ih];simp[List.filter_cons,hp]
  |false=>rw[if_neg (by simp),ih];simp[List.filter_cons,hp]
theorem qJr (i:Nat) (l:List Nat):cmD .mem (nI i) (.tup (nL l)) = .ok (.bl (decide (i∈l))):=by have e2:cmD .mem (nI i) (.tup (nL l))=(memD (nI i) (.tup (nL l))).bind λ r=> .ok (.bl r):=rfl;rw[e2,memD];simp[qEL]
theorem qCj (i:Nat) (l:List Nat):cmD .mem (nI i) (.lst (nL l)) = .ok (.bl (decide (i∈l))):=by have e2:cmD .mem (nI i) (.lst (nL l))=(memD (nI i) (.lst (nL l))).bind λ r=> .ok (.bl r):=rfl;rw[e2,memD];simp[qEL]
theorem qH1 (i:Nat) (l:List Nat):cmD .nmem (nI i) (.tup (nL l)) = .ok (.bl (!decide (i∈l))):=by have e2:cmD .nmem (nI i) (.tup (nL l))=(memD (nI i) (.tup (nL l))).bind λ r=> .ok (.bl (!r)):=rfl;rw[e2,memD];simp[qEL]
theorem q7r {α:Type}(f:α->Bool):∀l:List α,bools? (l.map λ x=>D.bl (f x))=some (l.map f)
 |[]=>rfl
 |x::l=>by simp[bools?,q7r f l]
theorem filter_tt {α:Type}(l:List α):l.filter (λ _=>true)=l:=List.filter_eq_self.mpr λ _ _=>rfl
theorem qJs (l:List Nat):nL l=l.map nI:=rfl
theorem qER (i j:Nat) (l s:List Nat) (hl:l.length<=1000) (h1:ρ[i]? = some (some (.val (.tup (nL l))))) (h2:ρ[j]? = some (some (.val (.tup (nL s))))) :
  ev G subC (.bi .all [(.comp 0 (.cm .mem (.var 0) (.var (j+1))) (.e (.var i)) [])]) ρ = .ok (.bl (l.all λ e=>decide (e∈s))):=by
 have e0:evi G subC (.e (.var i)) ρ = .ok (nL l):=by simp[h1]
 have e1:q0c (ev G subC (.cm .mem (.var 0) (.var (j+1)))) (tsts G subC []) 0 ρ (l.map nI) = .ok ((l.filter λ _=>true).map λ e=> .bl (decide (e∈s))) :=
  q1D (us:=λ e=>[nI e]) λ e _=>⟨rfl,rfl,λ _=>by simp[h2,qJr]⟩
 rw[filter_tt] at e1;have hb:(l.map λ e=>D.bl (decide (e∈s))).length<=big:=by rw[List.length_map,q0h];lia
 rw[q16,q0J,q1U,e0,q00,qJs,e1,q14,q00,if_pos hb,q00,q0Z,q00,q00,qIU,q7r];simp
variable {n:Nat}{ws:List Wn}
theorem qH2 (g:Good n ws) (s:List Nat) (x y:Option Sl) (t:Nat):ev G subC qGs [some (.val (rD n ws)),some (.val (.tup (nL s))),x,some (.val (nI t)),y] =
  .ok (.lst ((ws.filter λ w=>decide (w.1=t)&&w.2.all λ e=>decide (e∈s)).map λ w=> .tup (nL w.2))):=by
 have e0:evi G subC (.e (.idx (.var 0) (.con (.int 1)))) [some (.val (rD n ws)),some (.val (.tup (nL s))),x,some (.val (nI t)),y] = .ok (ws.map wD):=by simp[rD,idx1]
 have e1:q0c (ev G subC (.var 1)) (tsts G subC [(.and (.e (.cm .eq (.var 0) (.var 5))) (.e (.bi .all [(.comp 0 (.cm .mem (.var 0) (.var 4)) (.e (.var 1)) [])])))]) 2 [some (.val (rD n ws)),some (.val (.tup (nL s))),x,some (.val (nI t)),y] (ws.map wD) =
   .ok ((ws.filter λ w=>decide (w.1=t)&&w.2.all λ e=>decide (e∈s)).map λ w=> .tup (nL w.2)) :=
  q1D (us:=λ w=>[nI w.1,.tup (nL w.2)]) λ w hw=>by
   have h5:=g.n5;have hr:=(qEO.mp (g.ok w hw)).2.1;have hl:w.2.length<=1000:=by have:=q1Z n w.2 (hr.1.imp λ h=>by lia) hr.2;lia
   have ha:=qER (G:=G) (ρ:=[some (.val (nI w.1)),some (.val (.tup (nL w.2))),some (.val (rD n ws)),some (.val (.tup (nL s))),x,some (.val (nI t)),y]) 1 3 w.2 s hl rfl rfl;refine⟨rfl,?_,λ _=>rfl⟩;show tsts G subC _ [some (.val (nI w.1)),some (.val (.tup (nL w.2))),some (.val (rD n ws)),some (.val (.tup (nL s))),x,some (.val (nI t)),y]=_;simp only[q1x,q2Y,qBF,q8N];rw[ha];generalize (w.2.all λ e=>decide (e∈s))=bb
   by_cases q:w.1=t<;>cases bb<;>simp[q]
 have hb:=g.len;have hb2:((ws.filter λ w=>decide (w.1=t)&&w.2.all λ e=>decide (e∈s)).map λ w=>D.tup (nL w.2)).length<=big:=by rw[List.length_map,q0h];exact Nat.le_trans (List.length_filter_le _ _) (by lia)
 rw[qGs,q1U,e0,q00,e1,q14,q00,if_pos hb2]
theorem ne_nil (l:List D) (h:plL l=true) (h2:∀d∈l,plN 7 d=true):cmD .ne (.lst l) (.lst []) = .ok (.bl (!l.isEmpty)):=by
 have h3:pl (.lst l)=true:=by unfold pl;rw[q3k];exact List.all_eq_true.mpr h2
 have e:cmD .ne (.lst l) (.lst [])=if pl (.lst l)&&pl (.lst []) then .ok (.bl (!eqb (.lst l) (.lst []))) else .stuck:=rfl
 rw[e,h3];have:pl (.lst [])=true:=rfl;rw[this];cases l<;>simp[eqb,eqbL]
theorem q8i {G:Nat->List D->R D}(g:Good n ws) (m:Nat):∀(ts acc:List Nat) (x y:Option Sl),acc.length+ts.length<=1000->
  ∃x' y',q0k (exs G subC qAU) 0 [3] (nL ts) [some (.val (rD n ws)),some (.val (tD m)),some (.own (.lst (nL acc))),x,y] =
   .ok [some (.val (rD n ws)),some (.val (tD m)),some (.own (.lst (nL (acc++ts.filter (mayL (nds n ws) m))))),x',y'] .nx
 |[],acc,x,y,_=>⟨x,y,by simp[q1g]⟩
 |t::ts,acc,x,y,hl=>by
  simp only[List.length_cons] at hl;have e1:=qH2 (G:=G) g (q02 m) (some (.own (.lst (nL acc)))) y t;have hm:=qGz (qH0 g) m t;have hall:∀s:List Nat,s.all (λ e=>decide (e∈q02 m))=s.all m.testBit:=λ s=>by rw[Bool.eq_iff_iff];simp[List.all_eq_true,q09]
  simp only[hall] at e1;have hn:decide (t∈q02 m)=m.testBit t:=by rw[Bool.eq_iff_iff,decide_eq_true_eq,q09]
  generalize hgl:(ws.filter λ w=>decide (w.1=t)&&w.2.all m.testBit)=gl at e1;have hany:(ws.any λ w=>decide (w.1=t)&&w.2.all m.testBit)=!gl.isEmpty:=by
   rw[<-hgl,Bool.eq_iff_iff,List.any_eq_true];cases q:(ws.filter λ w=>decide (w.1=t)&&w.2.all m.testBit) with
   |nil =>
    simp only[List.isEmpty_nil,Bool.not_true,Bool.false_eq_true,iff_false];rintro⟨w,hw,h⟩;have:=(List.mem_filter (p:=λ w:Wn=>decide (w.1=t)&&w.2.all m.testBit)).mpr ⟨hw,h⟩;rw[q] at this;cases this
   |cons w l =>
    have:w∈(ws.filter λ w=>decide (w.1=t)&&w.2.all m.testBit):=(by rw[q];exact List.mem_cons_self);have:=List.mem_filter.mp this;simp only[List.isEmpty_cons,Bool.not_false,iff_true];exact⟨w,this.1,this.2⟩
  rw[hany] at hm;have e2:cmD .ne (.lst (gl.map λ w=>D.tup (nL w.2))) (.lst []) = .ok (.bl (!gl.isEmpty)):=by rw[ne_nil _ (q1f.mpr λ d hd=>by obtain⟨w,_,rfl⟩:=List.mem_map.mp hd;exact qDO _) (λ d hd=>by obtain⟨w,_,rfl⟩:=List.mem_map.mp hd;simp)];cases gl<;>rfl
  have e3:=qH1 t (q02 m);rw[hn] at e3;have b1:acc.length<big:=by rw[q0h];lia
  rw[q0a,q0B];cases q:mayL (nds n ws) m t with
  |true =>
   obtain⟨x',y',e⟩:=q8i (G:=G) g m ts (acc++[t]) (some (.val (nI t))) (some (.val (.lst (gl.map λ w=>D.tup (nL w.2))))) (by simp;lia);refine⟨x',y',?_⟩;rw[List.filter_cons,if_pos q];have:acc++t::ts.filter (mayL (nds n ws) m)=acc++[t]++ts.filter (mayL (nds n ws) m):=(by simp);rw[this,<-e];rw[q] at hm;have hm1:=hm.symm;rw[Bool.and_eq_true] at hm1;unfold tD at *;simp only[qAU,q0g,q0C,q0P,List.set_cons_succ,List.set_cons_zero,e1,q05,q5L];have hb:(0:Nat)<=big:=Nat.zero_le _;simp[e3,e2,hm1.1,hm1.2,b1]
  |false =>
   obtain⟨x',y',e⟩:=q8i (G:=G) g m ts acc (some (.val (nI t))) (some (.val (.lst (gl.map λ w=>D.tup (nL w.2))))) (by lia);refine⟨x',y',?_⟩;rw[List.filter_cons,if_neg (by simp[q]),<-e];rw[q] at hm;have hb:(0:Nat)<=big:=Nat.zero_le _;unfold tD at *;simp only[qAU,q0g,q0C,q0P,List.set_cons_succ,List.set_cons_zero,e1,q05,q5L];cases q1:m.testBit t with
   |true=>simp[e3,q1]
   |false =>
    have q2:gl.isEmpty=true:=(by rw[q1] at hm;simpa using hm.symm);simp[e3,q1,e2,q2]
theorem q5F:∀{l m:List Nat},l.Pairwise (· < ·)->m.Pairwise (· < ·)->(∀x,x∈l↔x∈m)->l=m
 |[],[],_,_,_=>rfl
 |[],b::m,_,_,h=>absurd ((h b).mpr List.mem_cons_self) List.not_mem_nil
 |a::l,[],_,_,h=>absurd ((h a).mp List.mem_cons_self) List.not_mem_nil
 |a::l,b::m,hl,hm,h=>by
  obtain⟨l1,l2⟩:=List.pairwise_cons.mp hl;obtain⟨m1,m2⟩:=List.pairwise_cons.mp hm;have e:a=b:=by
   have ha:=(h a).mp List.mem_cons_self;have hb:=(h b).mpr List.mem_cons_self;rcases List.mem_cons.mp ha with e|ha
   ·exact e
   ·rcases List.mem_cons.mp hb with e|hb
    ·exact e.symm
    ·have:=m1 a ha;have:=l1 b hb;lia
  subst e;rw[q5F l2 m2 λ x=>?_];have hx:=h x;simp only[List.mem_cons] at hx;constructor
  ·intro hxl;exact (hx.mp (.inr hxl)).resolve_left λ z=>by have:=l1 x hxl;lia
  ·intro hxm;exact (hx.mpr (.inr hxm)).resolve_left λ z=>by have:=m1 x hxm;lia
theorem q8j {l:List Nat}(h:l.Pairwise (· < ·)):q02 (q01 0 l)=l :=
 q5F (List.Pairwise.filter _ List.pairwise_lt_range) h λ x=>by rw[q09,q1Q,decide_eq_true_eq]
theorem q7s (n:Nat):q02 (2^n-1)=List.range n :=
 q5F (List.Pairwise.filter _ List.pairwise_lt_range) List.pairwise_lt_range λ x=>by rw[qEM,List.mem_range]
theorem q8k (g:Good n ws) (k m:Nat):Gm (k+1) 27 [rD n ws,tD m] = .ok (.lst (nL (q0G (nds n ws) m (2^n-1)))):=by
 have h5:=g.n5;obtain⟨x',y',e⟩:=q8i (G:=Gm k) g m (List.range n) [] none none (by simp;lia);have h0:=q0s k 27 [rD n ws,tD m] 2 5 [.setO 2 (.lst []),.forr 0 [3] (.rng [(.idx (.var 0) (.con (.int 0)))]) qAU,.retO 2] rfl rfl;rw[h0];unfold q0G;rw[q7s];have e6:idxD (rD n ws) (.int 0) = .ok (nI n):=idx0 _ _;have e7:evi (Gm k) subC (.rng [(.idx (.var 0) (.con (.int 0)))]) [some (.val (rD n ws)),some (.val (tD m)),some (.own (.lst [])),none,none] = .ok (nL (List.range n)):=by
  have:evs (Gm k) subC [(.idx (.var 0) (.con (.int 0)))] [some (.val (rD n ws)),some (.val (tD m)),some (.own (.lst [])),none,none] = .ok [nI n]:=by simp[e6]
  rw[q0l,this,q00,q2F n (by lia)]
 have e8:ex (Gm k) subC (.forr 0 [3] (.rng [(.idx (.var 0) (.con (.int 0)))]) qAU) [some (.val (rD n ws)),some (.val (tD m)),some (.own (.lst [])),none,none] = .ok [some (.val (rD n ws)),some (.val (tD m)),some (.own (.lst (nL (List.filter (mayL (nds n ws) m) (List.range n))))),x',y'] .nx:=by rw[q0w,e7,q05];exact e
 have e9:vals [rD n ws,tD m]++List.replicate (5 - [rD n ws,tD m].length) none=[some (.val (rD n ws)),some (.val (tD m)),none,none,none]:=rfl;have hb:([]:List D).length<=big:=Nat.zero_le _;have e10:ex (Gm k) subC (.setO 2 (.lst [])) [some (.val (rD n ws)),some (.val (tD m)),none,none,none] = .ok [some (.val (rD n ws)),some (.val (tD m)),some (.own (.lst [])),none,none] .nx:=by rw[q63,q76,q0Z,q00,if_pos hb,q05];rfl
 exact q1m e9 (by rw[q04 e10,q04 e8];exact q17 (by rw[qBK];rfl))
end Mk
namespace Mk
open Ev
variable {m:Nat}{G:Nat->List D->R D}
variable {n:Nat}{ws:List Wn}
noncomputable def rB (nd:List (List Nat)) (m:Nat):Bool:=@decide (Rch nd m) (Classical.propDecidable _)
theorem q5s {nd:List (List Nat)}:rB nd m=true↔Rch nd m:=@decide_eq_true_iff _ (Classical.propDecidable _)
noncomputable def due (n:Nat) (ws:List Wn):List Nat:=(q12 n).filter (rB (nds n ws))
def wo (m t:Nat):Nat:=q01 0 ((q02 m).filter λ e=>!decide (e=t))
theorem qH3 (m t:Nat):q02 (wo m t)=(q02 m).filter λ e=>!decide (e=t) :=
 q8j (List.Pairwise.filter _ (List.Pairwise.filter _ List.pairwise_lt_range))
theorem qFH (m t i:Nat):(wo m t).testBit i=(m.testBit i&&!decide (i=t)):=by rw[wo,q1Q,Bool.eq_iff_iff,decide_eq_true_eq,List.mem_filter,q09,Bool.and_eq_true]
theorem qH4 {t:Nat}(h:m.testBit t=true):wo m t ||| 1 <<< t=m:=Nat.eq_of_testBit_eq λ i=>by
 rw[q1O,qFH]
 by_cases e:t=i
 ·subst e;simp[h]
 ·have:¬i=t:=λ z=>e z.symm;simp[e,this]
theorem qLP {k t:Nat}(h:k.testBit t=false):wo (k ||| 1 <<< t) t=k:=Nat.eq_of_testBit_eq λ i=>by
 rw[qFH,q1O]
 by_cases e:t=i
 ·subst e;simp[h]
 ·have:¬i=t:=λ z=>e z.symm;simp[e,this]
theorem qLQ (l:List Nat) (i:Nat):(l.map tD).any (λ y=>eqb y (tD i))=decide (i∈l):=by
 induction l with
 |nil=>simp
 |cons a l ih =>
  have e:eqb (tD a) (tD i)=decide (a=i):=by unfold tD;rw[qEw];exact decide_eq_decide.mpr ⟨q9w,λ h=>by rw[h]⟩
  rw[List.map_cons,List.any_cons,ih,e]
  by_cases h:a=i
  ·subst h;simp
  ·have:¬i=a:=λ e=>h e.symm;simp[h,this]
theorem pl_t (m:Nat):pl (tD m)=true:=qDO _
theorem qLR (l:List Nat):plL (l.map tD)=true:=q1f.mpr λ d hd=>by obtain⟨a,_,rfl⟩:=List.mem_map.mp hd;exact pl_t a
theorem qFI (i:Nat) (l:List Nat):memD (tD i) (.lst (l.map tD)) = .ok (decide (i∈l)):=by rw[memD,pl_t,qLR,qLQ];rfl
theorem qJt (i:Nat) (l:List Nat):cmD .mem (tD i) (.lst (l.map tD)) = .ok (.bl (decide (i∈l))):=by have e2:cmD .mem (tD i) (.lst (l.map tD))=(memD (tD i) (.lst (l.map tD))).bind λ r=> .ok (.bl r):=rfl;rw[e2,qFI];rfl
theorem qCk (i:Nat) (l:List Nat):cmD .nmem (tD i) (.lst (l.map tD)) = .ok (.bl (!decide (i∈l))):=by have e2:cmD .nmem (tD i) (.lst (l.map tD))=(memD (tD i) (.lst (l.map tD))).bind λ r=> .ok (.bl (!r)):=rfl;rw[e2,qFI];rfl
theorem q2h (h:m<2^5):(q02 m).length<=5 :=
 q1Z 5 _ ((q6Z h).1.imp λ h=>by lia) (q6Z h).2
theorem qH5 (r f y:Option Sl) (m t:Nat) (hm:m<2^5):ex G subC (.set 4 (.bi .tuple [qCP])) [r,f,some (.val (tD m)),some (.val (nI t)),y] = .ok [r,f,some (.val (tD m)),some (.val (nI t)),some (.val (tD (wo m t)))] .nx:=by
 have e0:evi G subC (.e (.var 2)) [r,f,some (.val (tD m)),some (.val (nI t)),y] = .ok (nL (q02 m)):=rfl;have e1:=q1X (elt:=ev G subC (.var 0)) (cond:=tsts G subC [(.e (.cm .ne (.var 0) (.var 4)))]) (ρ:=[r,f,some (.val (tD m)),some (.val (nI t)),y]) (p:=λ e=>!decide (e=t)) (l:=q02 m)
  (λ a _=>by by_cases q:a=t<;>simp[q]) (λ a _=>rfl)
 have hb:(nL ((q02 m).filter λ e=>!decide (e=t))).length<=big:=by rw[q0Q,q0h];exact Nat.le_trans (List.length_filter_le _ _) (Nat.le_trans (q2h hm) (by decide))
 have e2:ev G subC qCP [r,f,some (.val (tD m)),some (.val (nI t)),y] = .ok (.lst (nL ((q02 m).filter λ e=>!decide (e=t)))):=by rw[qCP,q1U,e0,q00,e1,q14,q00,if_pos hb]
 have e3:ev G subC (.bi .tuple [qCP]) [r,f,some (.val (tD m)),some (.val (nI t)),y] = .ok (tD (wo m t)):=by rw[q16,q0J,e2,q00,q0Z,q00,q00,q1s,<-qH3];rfl
 rw[q0P,e3,q05];rfl
theorem q6a (g:Good n ws) (j t:Nat):decide (t∈q0G (nds n ws) j (2^n-1))=mayL (nds n ws) j t:=by rw[Bool.eq_iff_iff,decide_eq_true_eq];unfold q0G;rw[List.mem_filter,q7s,List.mem_range];exact⟨λ h=>h.2,λ h=>⟨by have:=q9r h;rwa [q1l] at this,h⟩⟩
theorem qH6 (g:Good n ws) (m t:Nat) (fd:List Nat) (j:Nat) (e1:G 27 [rD n ws,tD j] = .ok (.lst (nL (q0G (nds n ws) j (2^n-1))))):tst G subC qGt [some (.val (rD n ws)),some (.own (.lst (fd.map tD))),some (.val (tD m)),some (.val (nI t)),some (.val (tD j))] =
  .ok (!decide (m∈fd)&&(decide (j∈fd)&&mayL (nds n ws) j t)):=by
 have e2:=qCj t (q0G (nds n ws) j (2^n-1));rw[q6a g] at e2;have e3:=qCk m fd;have e4:=qJt j fd;rw[qGt]
 by_cases q1:m∈fd
 ·simp[e3,q1]
 ·by_cases q2:j∈fd
  ·cases q3:mayL (nds n ws) j t<;>rw[q3] at e2<;>simp[e3,q1,e4,q2,e1,e2]
  ·simp[e3,q1,e4,q2]
noncomputable def addS (nd:List (List Nat)) (m:Nat) (ts fd:List Nat):List Nat :=
 if m∈fd then fd else if ts.any (λ t=>decide (wo m t∈fd)&&mayL nd (wo m t) t)=true then fd++[m] else fd
theorem q6b (g:Good n ws) (k m:Nat) (hm:m<2^5):∀(ts fd:List Nat) (x y:Option Sl),(m∉fd->fd.length<1000)->
  ∃x' y',q0k (exs (Gm (k+1)) subC qEG) 0 [3] (nL ts) [some (.val (rD n ws)),some (.own (.lst (fd.map tD))),some (.val (tD m)),x,y] =
   .ok [some (.val (rD n ws)),some (.own (.lst ((addS (nds n ws) m ts fd).map tD))),some (.val (tD m)),x',y'] .nx
 |[],fd,x,y,_=>⟨x,y,by simp[q1g,addS]⟩
 |t::ts,fd,x,y,hl=>by
  rw[q0a,q0B];have e1:=qH5 (G:=Gm (k+1)) (some (.val (rD n ws))) (some (.own (.lst (fd.map tD)))) y m t hm;have e2:=qH6 g m t fd (wo m t) (q8k g k (wo m t));simp only[List.set_cons_succ,List.set_cons_zero,qEG] at e1 |-;rw[q04 e1,q0g,q1y,e2,q05];cases q:(!decide (m∈fd)&&(decide (wo m t∈fd)&&mayL (nds n ws) (wo m t) t)) with
  |true =>
   have q0:=q;rw[Bool.and_eq_true] at q0;have q1:m∉fd:=(by simpa using q0.1);obtain⟨x',y',e⟩:=q6b g k m hm ts (fd++[m]) (some (.val (nI t))) (some (.val (tD (wo m t)))) (λ h=>absurd (by simp) h);refine⟨x',y',?_⟩;have ea:addS (nds n ws) m (t::ts) fd=fd++[m]:=by unfold addS;rw[if_neg q1,List.any_cons,q0.2];rfl
   have eb:addS (nds n ws) m ts (fd++[m])=fd++[m]:=(by unfold addS;rw[if_pos (by simp)]);rw[eb] at e;rw[ea,<-e];have b1:(fd.map tD).length<big:=(by rw[List.length_map,q0h];have:=hl q1;lia);have e5:exs (Gm (k+1)) subC [.app 1 (.var 2)] [some (.val (rD n ws)),some (.own (.lst (fd.map tD))),some (.val (tD m)),some (.val (nI t)),some (.val (tD (wo m t)))] = .ok [some (.val (rD n ws)),some (.own (.lst ((fd++[m]).map tD))),some (.val (tD m)),some (.val (nI t)),some (.val (tD (wo m t)))] .nx:=by rw[q04 (ρ':=[some (.val (rD n ws)),some (.own (.lst ((fd++[m]).map tD))),some (.val (tD m)),some (.val (nI t)),some (.val (tD (wo m t)))]),q0C];rw[qBH];show (if (fd.map tD).length<big then _ else _)=_;rw[if_pos b1,List.map_append];rfl
   rw[if_pos rfl,e5,q5L,q0C,q0u];rfl
  |false =>
   obtain⟨x',y',e⟩:=q6b g k m hm ts fd (some (.val (nI t))) (some (.val (tD (wo m t)))) hl;refine⟨x',y',?_⟩;have ea:addS (nds n ws) m (t::ts) fd=addS (nds n ws) m ts fd:=by
    unfold addS
    by_cases q1:m∈fd
    ·rw[if_pos q1,if_pos q1]
    ·have q2:(decide (wo m t∈fd)&&mayL (nds n ws) (wo m t) t)=false:=(by simpa[q1] using q);rw[if_neg q1,if_neg q1,List.any_cons,q2,Bool.false_or]
   rw[ea,<-e,if_neg (by simp),q0C,q5L,q0C,q0u];rfl
theorem qH7 (g:Good n ws) {pre ms:List Nat}(hs:q12 n=pre++m::ms) (h0:0∈pre) :
  addS (nds n ws) m (q02 m) (pre.filter (rB (nds n ws)))=(pre++[m]).filter (rB (nds n ws)):=by
 have hnd:=q42 g.n5;have hord:=qEQ g.n5;rw[hs] at hnd hord;have hmp:m∉pre:=λ h=>(List.nodup_append.mp hnd).2.2 m h m List.mem_cons_self rfl;have hmf:m∉pre.filter (rB (nds n ws)):=λ h=>hmp (List.mem_filter.mp h).1;unfold addS;rw[if_neg hmf,List.filter_append];have key:(q02 m).any (λ t=>decide (wo m t∈pre.filter (rB (nds n ws)))&&mayL (nds n ws) (wo m t) t)=true↔Rch (nds n ws) m:=by
  rw[List.any_eq_true];constructor
  ·rintro⟨t,ht,h⟩;rw[Bool.and_eq_true,decide_eq_true_eq] at h;have hr:=q5s.mp (List.mem_filter.mp h.1).2;have:=Rch.s hr h.2
   rwa [qH4 (q09.mp ht)] at this
  ·intro h;cases h with
   |z=>exact absurd h0 hmp
   |@s j t hj ht =>
    have hjt:=q5A ht;refine⟨t,q09.mpr (by rw[q1O];simp),?_⟩;rw[qLP hjt,Bool.and_eq_true,decide_eq_true_eq];refine⟨List.mem_filter.mpr ⟨?_,q5s.mpr hj⟩,ht⟩;have hlt:=q2G hj;rw[q1l] at hlt;have hin:=(q2g g.n5 j).mpr hlt;rw[hs] at hin;rcases List.mem_append.mp hin with h|h
    ·exact h
    ·rcases List.mem_cons.mp h with h|h
     ·have:(j ||| 1 <<< t).testBit t=true:=(by rw[q1O];simp);rw[<-h,hjt] at this;cases this
     ·have h2:=(List.pairwise_append.mp hord).2.1;exact absurd (q3x.mpr (q59 j _)) ((List.pairwise_cons.mp h2).1 j h)
 by_cases q:Rch (nds n ws) m
 ·rw[if_pos (key.mpr q)];have:rB (nds n ws) m=true:=q5s.mpr q;simp[this]
 ·rw[if_neg λ h=>q (key.mp h)];have:rB (nds n ws) m=false:=by
   cases e:rB (nds n ws) m with
   |false=>rfl
   |true=>exact absurd (q5s.mp e) q
  simp[this]
theorem q9y (g:Good n ws) (k:Nat):∀(ms pre:List Nat) (x y z:Option Sl),q12 n=pre++ms->0∈pre->
  ∃x' y' z',q0k (exs (Gm (k+1)) subC qAV) 0 [2] (ms.map tD) [some (.val (rD n ws)),some (.own (.lst ((pre.filter (rB (nds n ws))).map tD))),x,y,z] =
   .ok [some (.val (rD n ws)),some (.own (.lst ((due n ws).map tD))),x',y',z'] .nx
 |[],pre,x,y,z,hs,_=>⟨x,y,z,by rw[List.map_nil,q1g,due,hs,List.append_nil]⟩
 |m::ms,pre,x,y,z,hs,h0=>by
  have hn:=g.n5;have hm:m<2^n:=(q2g hn m).mp (by rw[hs];simp);have hm5:m<2^5:=Nat.lt_of_lt_of_le hm (Nat.pow_le_pow_right (by decide) hn);have hlen:(q12 n).length<=32:=Nat.le_trans (q1Z (2^n) _ (q42 hn) λ x hx=>(q2g hn x).mp hx) (Nat.le_trans (Nat.pow_le_pow_right (by decide) hn) (by decide));have hl:(pre.filter (rB (nds n ws))).length<1000:=by rw[hs,List.length_append] at hlen;exact Nat.lt_of_le_of_lt (List.length_filter_le _ _) (by lia)
  obtain⟨x1,y1,e1⟩:=q6b g k m hm5 (q02 m) (pre.filter (rB (nds n ws))) y z λ _=>hl;rw[qH7 g hs h0] at e1;obtain⟨x2,y2,z2,e2⟩:=q9y g k ms (pre++[m]) (some (.val (tD m))) x1 y1 (by rw[hs];simp) (by simp[h0]);refine⟨x2,y2,z2,?_⟩;rw[<-e2,List.map_cons,q0B];have e3:ex (Gm (k+1)) subC (.forr 0 [3] (.e (.var 2)) qEG) [some (.val (rD n ws)),some (.own (.lst ((pre.filter (rB (nds n ws))).map tD))),some (.val (tD m)),y,z] = .ok [some (.val (rD n ws)),some (.own (.lst (((pre++[m]).filter (rB (nds n ws))).map tD))),some (.val (tD m)),x1,y1] .nx:=by have:evi (Gm (k+1)) subC (.e (.var 2)) [some (.val (rD n ws)),some (.own (.lst ((pre.filter (rB (nds n ws))).map tD))),some (.val (tD m)),y,z] = .ok (nL (q02 m)):=rfl;rw[q0w,this,q05,e1]
  have e4:exs (Gm (k+1)) subC qAV [some (.val (rD n ws)),some (.own (.lst ((pre.filter (rB (nds n ws))).map tD))),some (.val (tD m)),y,z] = .ok [some (.val (rD n ws)),some (.own (.lst (((pre++[m]).filter (rB (nds n ws))).map tD))),some (.val (tD m)),x1,y1] .nx:=by rw[qAV,q04 e3,q0C]
  simp only[List.set_cons_succ,List.set_cons_zero];rw[e4,q0u]
theorem qLS {y:Option Sl}{d:D}{ms:List Nat}(e1:G 26 [nI n] = .ok (.lst (d::ms.map tD))):evi G subC (.e (.sl 0 (.call 26 [(.idx (.var 0) (.con (.int 0)))]) [(.con (.int 1))] [])) [some (.val (rD n ws)),y,none,none,none] = .ok (ms.map tD):=by have e6:idxD (rD n ws) (.int 0) = .ok (nI n):=idx0 _ _;rw[q8M,qBE];simp[e6,e1,optI,slD,cutL,bnd,List.take_of_length_le]
theorem qCl (g:Good n ws) (k:Nat):Gm (k+2) 28 [rD n ws] = .ok (.lst ((due n ws).map tD)):=by
 have hn:=g.n5;obtain⟨ms,hz⟩:=qCb hn;obtain⟨x,y,z,e⟩:=q9y g k ms [0] none none none (by rw[hz];rfl) (by simp);have r0:rB (nds n ws) 0=true:=q5s.mpr .z;have f0:[0].filter (rB (nds n ws))=[0]:=by simp[r0]
 rw[f0] at e;have e1:=qFG k hn;rw[hz,List.map_cons] at e1;have e6:idxD (rD n ws) (.int 0) = .ok (nI n):=idx0 _ _;refine (q0s (k+1) 28 [rD n ws] 1 5 [.setO 1 (.lst [(.tup [])]),.forr 0 [2] (.e (.sl 0 (.call 26 [(.idx (.var 0) (.con (.int 0)))]) [(.con (.int 1))] [])) qAV,.retO 1] rfl rfl).trans ?_;have e2:ex (Gm (k+1)) subC (.setO 1 (.lst [(.tup [])])) [some (.val (rD n ws)),none,none,none,none] = .ok [some (.val (rD n ws)),some (.own (.lst ([0].map tD))),none,none,none] .nx:=by
  have b0:([]:List D).length<=big:=by decide
  have b1:([D.tup []]:List D).length<=big:=by decide
  rw[q63,q76,q0J,qBD,q0Z,q00,if_pos b0,q00,q00,q00,if_pos b1,q05];rfl
 have e3:=qLS (G:=Gm (k+1)) (n:=n) (ws:=ws) (y:=some (.own (.lst ([0].map tD)))) e1;have e4:ex (Gm (k+1)) subC (.forr 0 [2] (.e (.sl 0 (.call 26 [(.idx (.var 0) (.con (.int 0)))]) [(.con (.int 1))] [])) qAV) [some (.val (rD n ws)),some (.own (.lst ([0].map tD))),none,none,none] = .ok [some (.val (rD n ws)),some (.own (.lst ((due n ws).map tD))),x,y,z] .nx:=by rw[q0w,e3,q05,e]
 exact q1m (ρ:=[some (.val (rD n ws)),none,none,none,none]) rfl (by rw[q04 e2,q04 e4];exact q17 (by rw[qBK];rfl))
end Mk
namespace Mk
open Ev
variable {n:Nat}{ws:List Wn}
theorem q6c:∀{l:List D},l.Pairwise (λ a b=>eqb a b=false)->dedup l=l
 |[],_=>rfl
 |x::l,h=>by
  obtain⟨h1,h2⟩:=List.pairwise_cons.mp h;have:l.any (eqb x)=false:=by rw[List.any_eq_false];intro d hd;simp[h1 d hd]
  rw[dedup,this,q6c h2];rfl
theorem qH8 {l m:List Nat}(h1:l.Nodup) (h2:m.Nodup) (h:∀x,x∈l↔x∈m):l.Perm m:=(List.perm_ext_iff_of_nodup h1 h2).mpr h
theorem q27 (g:Good n ws) (m:Nat):m∈due n ws↔Rch (nds n ws) m:=by unfold due;rw[List.mem_filter,q2g g.n5,q5s];exact⟨λ h=>h.2,λ h=>⟨by have:=q2G h;rwa [q1l] at this,h⟩⟩
end Mk
namespace Mk
open Ev
variable {c:Nat}
theorem num3:D.int 3=nI 3:=rfl
theorem num4:D.int 4=nI 4:=rfl
theorem num5:D.int 5=nI 5:=rfl
theorem qLT:cmD .isN .non .non = .ok (.bl true):=rfl
theorem qLU (c:Nat):cmD .isN (.exc c) .non = .ok (.bl false):=rfl
theorem sub0 (c:Nat):subC c 0=true:=by simp[subC]
section
variable {G:Nat->List D->R D}{r th:D}
def onc (G:Nat->List D->R D) (i:Nat) (x:R D):Nat->List D->R D:=λ f xs=>cond (Nat.beq f i) x (G f xs)
def subD:Nat->Nat->Bool:=λ e c=>cond (Nat.beq c 0) true (subC e c)
theorem sub_eq:subC=subD:=by
 funext e c;cases c with
 |zero=>exact sub0 e
 |succ c=>rfl
theorem run2 {x z d:R D}{s:Nat->Nat->Bool}{n:Nat}{l:List S}{as:List D}(i:Nat) (e:Ev.run G s n l as=Ev.run (onc G i x) s n l as) (h:x=z) (f:Ev.run (onc G i z) s n l as=d):Ev.run G s n l as=d:=by subst h;exact e.trans f
theorem run1 {x z d:R D}{n:Nat}{l:List S}{as:List D}(i:Nat) (e:Ev.run G subC n l as=Ev.run (onc G i x) subC n l as) (h:x=z) (f:Ev.run (onc G i z) subC n l as=d):Ev.run G subC n l as=d:=by subst h;exact e.trans f
theorem e_13 (h:G 10 [r] = .err c):Ev.run G subC 2 q1N [r,th] = .err c:=by simp[Ev.run,q1N,h]
theorem e_18 (h:G 15 [r,th] = .err c):Ev.run G subC 2 q1B [r,th] = .err c:=by simp[Ev.run,q1B,h]
theorem e_20 (h:G 12 [r,th] = .err c):Ev.run G subC 2 q4K [r,th] = .err c:=by simp[Ev.run,q4K,h]
end
theorem q7t (G:Nat->List D->R D):Ev.run G subC 2 q0T [.exc 1] = .ok (.str (PySem.Str.ofString "rules")):=by kernel_rfl
theorem q7u (G:Nat->List D->R D):Ev.run G subC 2 q0T [.exc 2] = .ok (.str (PySem.Str.ofString "state")):=by kernel_rfl
def q2H:D:= .str (PySem.Str.ofString "rules")
def q0j:D:= .str (PySem.Str.ofString "state")
theorem qJu (k:Nat):Gm (k+1) 29 [.exc 1] = .ok q2H:=(q0s k 29 [.exc 1] 1 2 q0T rfl rfl).trans (q7t _)
theorem qCm (k:Nat):Gm (k+1) 29 [.exc 2] = .ok q0j:=(q0s k 29 [.exc 2] 1 2 q0T rfl rfl).trans (q7u _)
end Mk
namespace Mk
open Ev
variable {ρ:Env}
variable {n:Nat}{ws:List Wn}{G:Nat->List D->R D}
theorem q2S {xs:List L}{ds:List D}(h:evs G subC xs ρ = .ok ds) (hl:ds.length<=1000):ev G subC (.tup xs) ρ = .ok (.tup ds):=by rw[qBD,h,q00,if_pos (by rw[q0h];lia)]
theorem q0y {xs:List L}{ds:List D}(h:evs G subC xs ρ = .ok ds) (hl:ds.length<=1000):ev G subC (.lst xs) ρ = .ok (.lst ds):=by rw[q76,h,q00,if_pos (by rw[q0h];lia)]
theorem evs2 {a b:L}{x y:D}(h1:ev G subC a ρ = .ok x) (h2:ev G subC b ρ = .ok y):evs G subC [a,b] ρ = .ok [x,y]:=by rw[q0J,h1,q00,q0J,h2,q00,q0Z];rfl
theorem evs1 {a:L}{x:D}(h1:ev G subC a ρ = .ok x):evs G subC [a] ρ = .ok [x]:=by rw[q0J,h1,q00,q0Z];rfl
def BadR (r:D):Prop:=∃(c:Int) (vs:List Wy),r=rulD c vs/\vs.length<=1300/\¬((0<=c/\c<=10)/\vs.all (wyB c)=true/\Rise vs)
theorem qES {r:D}(h:BadR r) (k:Nat):Gm (k+4) 10 [r] = .err 1:=by obtain⟨c,vs,rfl,hl,hb⟩:=h;rw[qFF k c vs hl,if_neg hb]
theorem qH9 {c:Int}{vs:List Wy}{w:Wy}(hl:vs.length<=1300) (hw:w∈vs) (hb:wyB c w=false):BadR (rulD c vs) :=
 ⟨c,vs,rfl,hl,λ h=>by rw[List.all_eq_true.mp h.2.1 w hw] at hb;cases hb⟩
theorem qHA (n:Nat):BadR (rulD n [(0,some [0])]):=qH9 (w:=(0,some [0])) (by simp) (by simp) (by simp[wyB])
end Mk
namespace Mk
open Ev
variable {n:Nat}{ws:List Wn}{G:Nat->List D->R D}
theorem qET (zs:List Int) (i:Nat):∃c:Int,Ev.run G subC 2 q1b [.lst (iL zs),nI i] = .ok (.int c):=by
 cases zs with
 |nil=>exact⟨0,by simp[Ev.run,q1b]⟩
 |cons z zs =>
  have hl:0<(z::zs).length:=by simp
  have hlt:=Nat.mod_lt i hl;have h1:opD .mod (nI i) (nI (z::zs).length) = .ok (nI (i % (z::zs).length)):=qAJ _ _ hl;generalize hA:i % (z::zs).length=A at h1 hlt;refine⟨(z::zs)[A],?_⟩;have h2:idxD (.lst (iL (z::zs))) (nI A) = .ok (.int ((z::zs)[A])):=q65 _ _ _ (by unfold iL;rw[List.getElem?_map,List.getElem?_eq_getElem hlt];rfl)
  have t:tst G subC (.e (.var 0)) [some (.val (.lst (iL (z::zs)))),some (.val (nI i))] = .ok true:=rfl;refine q1m (ρ:=[some (.val (.lst (iL (z::zs)))),some (.val (nI i))]) (ρ':=[some (.val (.lst (iL (z::zs)))),some (.val (nI i))]) rfl ?_;rw[q1b];refine q17 ?_;rw[q1y,t,q05,if_pos rfl];refine q17 ?_;have h3:biD subC .len [.lst (iL (z::zs))] = .ok (nI (z::zs).length):=by rw[q2a,qJm]
  rw[q77,q1d,q1V,q0O,q1V,q16,q0J,q1V,q0Z];show (((R.ok (D.lst (iL (z::zs)))).bind λ x=>((R.ok (nI i)).bind λ x=>((((R.ok (D.lst (iL (z::zs)))).bind λ x=>(R.ok ([]:List D)).bind λ xs=>R.ok (x::xs)).bind λ ds=>biD subC .len ds).bind λ y=>opD .mod x y)).bind λ y=>idxD x y).go _ _)=_;simp only[q00];rw[h3,q00,h1,q00,h2,q05]
theorem qHB (a b:Int):opD .add (.int a) (.int b) = .ok (.int (a+b)):=rfl
theorem qJv (a b:Int) (h:-(2^62)<a/\a<2^62):opD .mul (.int a) (.int b) = .ok (.int (a*b)):=by unfold opD;exact if_pos (.inl h)
theorem mul_r (a b:Int) (h:-(2^62)<b/\b<2^62):opD .mul (.int a) (.int b) = .ok (.int (a*b)):=by unfold opD;exact if_pos (.inr h)
theorem qHC (a b:Int) (h:0<b):∃N:Nat,opD .mod (.int a) (.int b) = .ok (.int N):=⟨(a % b).toNat,by have:=Int.emod_nonneg a (Int.ne_of_gt h);unfold opD;dsimp only[intD,opI];rw[if_pos h];congr 2;lia⟩
theorem qJw (a b:Int) (h:0<b/\b<1073741824):opD .fdiv (.int a) (.int b) = .ok (.int (a / b)):=by unfold opD;exact if_pos h
theorem qHD (s:D) (i:Nat) (hc:∃c:Int,G 21 [s,nI i] = .ok (.int c)):∃N:Nat,Ev.run G subC 3 q2Q [s,nI i] = .ok (nI N):=by
 obtain⟨c,hc⟩:=hc;obtain⟨N1,e1⟩:=qHC (c+104729*((i:Int)+1)) 4294967291 (by decide);obtain⟨N2,e2⟩:=qHC ((N1:Int)*48271) 4294967279 (by decide);obtain⟨N3,e3⟩:=qHC ((N2:Int) / 64*69621+N2) 4294967231 (by decide);refine⟨N3,?_⟩;have a1:ev G subC (.op .mod (.op .add (.call 21 [(.var 0),(.var 1)]) (.op .mul (.con (.int 104729)) (.op .add (.var 1) (.con (.int 1))))) (.con (.int 4294967291))) [some (.val s),some (.val (nI i)),none] = .ok (nI N1):=by have v0:getV [some (.val s),some (.val (nI i)),none] 0 = .ok s:=rfl;have v1:getV [some (.val s),some (.val (nI i)),none] 1 = .ok (nI i):=rfl;rw[q0O,q0O,q1G,evs2 (G:=G) (by rw[q1V,v0]) (by rw[q1V,v1]),q00,hc,q00,q0O,q0F,q00,q0O,q1V,v1,q00,q0F,q00,nI,qHB,q00,qJv _ _ (by decide),q00,qHB,q00,q0F,q00,e1];rfl
 have a2:ev G subC (.op .mod (.op .mul (.var 2) (.con (.int 48271))) (.con (.int 4294967279))) [some (.val s),some (.val (nI i)),some (.val (nI N1))] = .ok (nI N2):=by have v2:getV [some (.val s),some (.val (nI i)),some (.val (nI N1))] 2 = .ok (.int N1):=rfl;rw[q0O,q0O,q1V,v2,q00,q0F,q00,mul_r _ _ (by decide),q00,q0F,q00,e2];rfl
 have a3:ev G subC (.op .mod (.op .add (.op .mul (.op .fdiv (.var 2) (.con (.int 64))) (.con (.int 69621))) (.var 2)) (.con (.int 4294967231))) [some (.val s),some (.val (nI i)),some (.val (nI N2))] = .ok (nI N3):=by have v2:getV [some (.val s),some (.val (nI i)),some (.val (nI N2))] 2 = .ok (.int N2):=rfl;rw[q0O,q0O,q0O,q0O,q1V,v2,q00,q0F,q00,qJw _ _ (by decide),q00,q0F,q00,mul_r _ _ (by decide),q00,q00,qHB,q00,q0F,q00,e3];rfl
 refine q1m (ρ:=[some (.val s),some (.val (nI i)),none]) (ρ':=[some (.val s),some (.val (nI i)),some (.val (nI N2))]) rfl ?_;rw[q2Q,q04 (ρ':=[some (.val s),some (.val (nI i)),some (.val (nI N1))]) (by rw[q0P,a1,q05];rfl),q04 (ρ':=[some (.val s),some (.val (nI i)),some (.val (nI N2))]) (by rw[q0P,a2,q05];rfl)];exact q17 (by rw[q77,a3,q05])
theorem sub_sub (o:List Nat) (p:Nat->Bool):(((List.range o.length).filter p).map λ j=>o.getD j 0).Sublist o:=by
 have h:(List.range o.length).map (λ j=>o.getD j 0)=o:=by refine List.ext_getElem (by simp) λ i h1 h2=>?_;simp at h1;simp[List.getD,h1]
 have:=(List.filter_sublist (p:=p) (l:=List.range o.length)).map λ j=>o.getD j 0
 rwa [h] at this
theorem qAX (s:D) (i:Nat) (o:List Nat) (ho:o.length<=7) (hm:∃N:Nat,G 22 [s,nI i] = .ok (nI N)):∃l:List Nat,l.Sublist o/\Ev.run G subC 4 q1u [s,nI i,.lst (nL o)] = .ok (.tup (nL l)):=by
 obtain⟨N,hm⟩:=hm;have a1:ev G subC (.op .fdiv (.call 22 [(.var 0),(.var 1)]) (.con (.int 8))) [some (.val s),some (.val (nI i)),some (.val (.lst (nL o))),none] = .ok (nI (N / 8)):=by have:opD .fdiv (nI N) (.int 8) = .ok (nI (N / 8)):=qEu N 8 (by decide) (by decide);rw[q0O,q1G,evs2 (G:=G) (x:=s) (y:=nI i) rfl rfl,q00,hm,q00,q0F,q00,this]
 generalize N / 8=M at a1;have pw:∀j,j<7->∀ρ:Env,ρ[0]? = some (some (.val (nI j)))->∃P:Nat,0<P/\P<1073741824/\ev G subC (.idx (.lst q4I) (.var 0)) ρ = .ok (nI P):=λ j hj ρ hρ=>by
  have h1:ev G subC (.lst q4I) ρ = .ok (.lst (nL [1,2,4,8,16,32,64])):=q0y rfl (by simp);have h2:ev G subC (.var 0) ρ = .ok (nI j):=by rw[q1V,getV,hρ]
  have h3:∃P:Nat,0<P/\P<1073741824/\[1,2,4,8,16,32,64][j]? = some P:=by
   match j,hj with
   |0,_=>exact⟨1,by decide,by decide,rfl⟩
   |1,_=>exact⟨2,by decide,by decide,rfl⟩
   |2,_=>exact⟨4,by decide,by decide,rfl⟩
   |3,_=>exact⟨8,by decide,by decide,rfl⟩
   |4,_=>exact⟨16,by decide,by decide,rfl⟩
   |5,_=>exact⟨32,by decide,by decide,rfl⟩
   |6,_=>exact⟨64,by decide,by decide,rfl⟩
  obtain⟨P,p1,p2,p3⟩:=h3;refine⟨P,p1,p2,?_⟩;rw[q1d,h1,q00,h2,q00];exact q65 _ _ _ (by unfold nL;rw[List.getElem?_map,p3];rfl)
 have hp:∀j,j<7->∃b:Bool,tsts G subC [(.e (.cm .eq (.op .mod (.op .fdiv (.var 4) (.idx (.lst q4I) (.var 0))) (.con (.int 2))) (.con (.int 1))))] [some (.val (nI j)),some (.val s),some (.val (nI i)),some (.val (.lst (nL o))),some (.val (nI M))] = .ok b:=λ j hj=>by obtain⟨P,p1,p2,p3⟩:=pw j hj [some (.val (nI j)),some (.val s),some (.val (nI i)),some (.val (.lst (nL o))),some (.val (nI M))] rfl;have h4:ev G subC (.var 4) [some (.val (nI j)),some (.val s),some (.val (nI i)),some (.val (.lst (nL o))),some (.val (nI M))] = .ok (nI M):=rfl;have h5:opD .mod (nI (M / P)) (.int 2) = .ok (nI (M / P % 2)):=qAJ _ 2 (by decide);have h6:cmD .eq (nI (M / P % 2)) (.int 1) = .ok (.bl (decide (M / P % 2=1))):=eq_n _ 1;refine⟨decide (M / P % 2=1),?_⟩;rw[q1x,q8N,qAI,q0O,q0O,h4,q00,p3,q00,qEu M P p1 p2,q00,q0F,q00,h5,q00,q0F,q00,h6,q00,qDP,q00,q2Y];cases decide (M / P % 2=1)<;>rfl
 have hp2:∃p:Nat->Bool,∀j,j<7->tsts G subC [(.e (.cm .eq (.op .mod (.op .fdiv (.var 4) (.idx (.lst q4I) (.var 0))) (.con (.int 2))) (.con (.int 1))))] [some (.val (nI j)),some (.val s),some (.val (nI i)),some (.val (.lst (nL o))),some (.val (nI M))] = .ok (p j):=by refine⟨λ j=>if h:j<7 then (hp j h).choose else false,λ j hj=>?_⟩;simp only[hj,dif_pos];exact (hp j hj).choose_spec
 obtain⟨p,hp3⟩:=hp2;refine⟨_,sub_sub o p,?_⟩;have a2:q0c (ev G subC (.idx (.var 3) (.var 0))) (tsts G subC [(.e (.cm .eq (.op .mod (.op .fdiv (.var 4) (.idx (.lst q4I) (.var 0))) (.con (.int 2))) (.con (.int 1))))]) 0 [some (.val s),some (.val (nI i)),some (.val (.lst (nL o))),some (.val (nI M))] ((List.range o.length).map nI) = .ok (((List.range o.length).filter p).map λ j=>nI (o.getD j 0)) :=
  q1D (us:=λ j=>[nI j]) λ j hj=>by have hj2:=List.mem_range.mp hj;refine⟨rfl,hp3 j (by lia),λ _=>?_⟩;have h1:idxD (.lst (nL o)) (nI j) = .ok (nI (o.getD j 0)):=q65 _ _ _ (by unfold nL;rw[List.getElem?_map,List.getElem?_eq_getElem hj2];simp[List.getD,hj2]);exact h1
 have b1:(((List.range o.length).filter p).map λ j=>nI (o.getD j 0)).length<=big:=by rw[List.length_map,q0h];refine Nat.le_trans (List.length_filter_le _ _) ?_;rw[List.length_range];lia
 have a3:evi G subC (.rng [(.bi .len [(.var 2)])]) [some (.val s),some (.val (nI i)),some (.val (.lst (nL o))),some (.val (nI M))] = .ok ((List.range o.length).map nI):=by
  have h1:evs G subC [(.bi .len [(.var 2)])] [some (.val s),some (.val (nI i)),some (.val (.lst (nL o))),some (.val (nI M))] = .ok [nI o.length]:=evs1 (by have:biD subC .len [.lst (nL o)] = .ok (nI o.length):=(by rw[q2a,q0Q]);rw[q16,evs1 (G:=G) (x:= .lst (nL o)) rfl,q00,this])
  rw[q0l,h1,q00,q2F _ (by lia)];rfl
 have a4:ev G subC (.comp 0 (.idx (.var 3) (.var 0)) (.rng [(.bi .len [(.var 2)])]) [(.e (.cm .eq (.op .mod (.op .fdiv (.var 4) (.idx (.lst q4I) (.var 0))) (.con (.int 2))) (.con (.int 1))))]) [some (.val s),some (.val (nI i)),some (.val (.lst (nL o))),some (.val (nI M))] = .ok (.lst (nL (((List.range o.length).filter p).map λ j=>o.getD j 0))):=by rw[q1U,a3,q00,a2,q14,q00,if_pos b1];unfold nL;rw[List.map_map];rfl
 refine q1m (ρ:=[some (.val s),some (.val (nI i)),some (.val (.lst (nL o))),none]) (ρ':=[some (.val s),some (.val (nI i)),some (.val (.lst (nL o))),some (.val (nI M))]) rfl ?_;show exs G subC [.set 3 (.op .fdiv (.call 22 [(.var 0),(.var 1)]) (.con (.int 8))),.ret (.bi .tuple [(.comp 0 (.idx (.var 3) (.var 0)) (.rng [(.bi .len [(.var 2)])]) [(.e (.cm .eq (.op .mod (.op .fdiv (.var 4) (.idx (.lst q4I) (.var 0))) (.con (.int 2))) (.con (.int 1))))])])] _=_;rw[q04 (ρ':=[some (.val s),some (.val (nI i)),some (.val (.lst (nL o))),some (.val (nI M))]) (by rw[q0P,a1,q05];rfl)];exact q17 (by rw[q77,q16,evs1 a4,q00,q1s,q05])
end Mk
namespace Mk
open Ev
variable {s:D}{acc:List Wn}{t:Nat}{y:Option Sl}{ρ:Env}{a:L}
variable {n:Nat}{ws:List Wn}{G:Nat->List D->R D}{M:Nat}
theorem qJx (a b:Nat) (h:a<2^62):opD .mul (nI a) (nI b) = .ok (nI (a*b)):=by unfold nI;rw[qJv _ _ (by lia)];congr 2
def GoodW (n:Nat) (w:Wn):Prop:=w.1<n/\Ris n w.2/\w.1∉w.2
structure Draw (G:Nat->List D->R D) (s:D):Prop where
 mix:∀i:Nat,∃N:Nat,G 22 [s,nI i] = .ok (nI N)
 sub:∀(i:Nat) (o:List Nat),o.length<=7->∃l:List Nat,l.Sublist o/\G 24 [s,nI i,.lst (nL o)] = .ok (.tup (nL l))
noncomputable def ruE (M:Nat) (s:D) (n:Nat) (acc:List Wn) (t:Nat) (o:List Nat) (x y:Option Sl):Env :=
 [some (.val s),some (.val (nI 0)),some (.val (nI M)),some (.val (nI n)),some (.own (.lst (acc.map wD))),some (.val (nI t)),some (.val (.lst (nL o))),x,y]
theorem ev_k (c:Nat) {j:Nat}{o:List Nat}:ev G subC (q4O c) (ruE M s n acc t o (some (.val (nI j))) y) = .ok (nI (0+c+4*t+j)):=by have h1:opD .mul (.int 4) (nI t) = .ok (nI (4*t)):=qJx 4 t (by decide);have h2:opD .add (nI 0) (.int c) = .ok (nI (0+c)):=add_n 0 c;have v1:getV (ruE M s n acc t o (some (.val (nI j))) y) 1 = .ok (nI 0):=rfl;have v5:getV (ruE M s n acc t o (some (.val (nI j))) y) 5 = .ok (nI t):=rfl;have v7:getV (ruE M s n acc t o (some (.val (nI j))) y) 7 = .ok (nI j):=rfl;rw[q4O,q0O,q0O,q0O,q1V,v1,q00,q0F,q00,h2,q00,q0O,q0F,q00,q1V,v5,q00,h1,q00,add_n,q00,q1V,v7,q00,add_n]
theorem q0V {f:Nat}{b:L}{x y d:D}(h1:ev G subC a ρ = .ok x) (h2:ev G subC b ρ = .ok y) (h:G f [x,y] = .ok d):ev G subC (.call f [a,b]) ρ = .ok d:=by rw[q1G,evs2 h1 h2,q00,h]
theorem q5t {N c:Nat}(hc:0<c) (h:ev G subC a ρ = .ok (nI N)):ev G subC (.op .mod a (.con (.int c))) ρ = .ok (nI (N % c)):=by rw[q0O,h,q00,q0F,q00];exact qAJ N c hc
theorem q8l {N:Nat}(h:ev G subC a ρ = .ok (nI N)):tst G subC (.e (.cm .gt a (.con (.int 0)))) ρ = .ok (decide (0<N)):=by rw[q8N,qAI,h,q00,q0F,q00,num0,gt_n,q00,qDP]
theorem qHE (d:Draw G s) {j:Nat}{o:List Nat}(ho:o.length<=7) (hon:∀l:List Nat,l.Sublist o->GoodW n (t,l)) (hl:acc.length<1000) :
  ∃(w:Wn) (y':Option Sl),GoodW n w/\exs G subC q7f (ruE M s n acc t o (some (.val (nI j))) y) = .ok (ruE M s n (acc++[w]) t o (some (.val (nI j))) y') .nx:=by
 obtain⟨l,hlo,e23⟩:=d.sub (0+10+4*t+j) o ho;obtain⟨N1,m1⟩:=d.mix (0+40+4*t+j);obtain⟨N2,m2⟩:=d.mix (0+41+4*t+j);obtain⟨N3,m3⟩:=d.mix (0+70+t);have e1:ex G subC qGu (ruE M s n acc t o (some (.val (nI j))) y) = .ok (ruE M s n acc t o (some (.val (nI j))) (some (.val (.tup (nL l))))) .nx:=by
  have h3:evs G subC [(.var 0),q4O 10,(.var 6)] (ruE M s n acc t o (some (.val (nI j))) y) = .ok [s,nI (0+10+4*t+j),.lst (nL o)]:=by have k10:=ev_k (M:=M) (G:=G) (n:=n) 10 (s:=s) (acc:=acc) (t:=t) (j:=j) (o:=o) (y:=y);have v0:ev G subC (.var 0) (ruE M s n acc t o (some (.val (nI j))) y) = .ok s:=rfl;have v6:ev G subC (.var 6) (ruE M s n acc t o (some (.val (nI j))) y) = .ok (.lst (nL o)):=rfl;rw[q0J,v0,q00,q0J];rw[show q4O 10=q4O ((10:Nat):Int) from rfl,k10,q00,evs1 v6];rfl
  rw[qGu,q0P,q1G,h3,q00,e23,q05];rfl
 have e2:∃l2:List Nat,l2.Sublist o/\ex G subC qEH (ruE M s n acc t o (some (.val (nI j))) (some (.val (.tup (nL l))))) = .ok (ruE M s n acc t o (some (.val (nI j))) (some (.val (.tup (nL l2))))) .nx:=by
  have k40:=ev_k (M:=M) (G:=G) (n:=n) 40 (s:=s) (acc:=acc) (t:=t) (j:=j) (o:=o) (y:=some (.val (.tup (nL l))));have k41:=ev_k (M:=M) (G:=G) (n:=n) 41 (s:=s) (acc:=acc) (t:=t) (j:=j) (o:=o) (y:=some (.val (.tup (nL l))));have v0:ev G subC (.var 0) (ruE M s n acc t o (some (.val (nI j))) (some (.val (.tup (nL l))))) = .ok s:=rfl;have t1:=q8l (q5t (c:=3) (by decide) (q0V v0 k40 m1))
  by_cases q:0<N1 % 3
  ·rw[decide_eq_true q] at t1;refine⟨l.take (1+N2 % 2),(List.take_sublist _ _).trans hlo,?_⟩;have c1:=q5t (c:=2) (by decide) (q0V v0 k41 m2);have c2:ev G subC (.op .add (.con (.int 1)) (.op .mod (.call 22 [(.var 0),q4O 41]) (.con (.int 2)))) (ruE M s n acc t o (some (.val (nI j))) (some (.val (.tup (nL l))))) = .ok (nI (1+N2 % 2)):=by rw[q0O,q0F,q00];refine (congrArg (λ z:R D=>z.bind λ y=>opD .add (.int 1) y) c1).trans ?_;exact add_n 1 _
   have v8:ev G subC (.var 8) (ruE M s n acc t o (some (.val (nI j))) (some (.val (.tup (nL l))))) = .ok (.tup (nL l)):=rfl;have a6:optI [nI (1+N2 % 2)] = .ok (some ((1+N2 % 2:Nat):Int)):=rfl;have a8:optI [] = .ok none:=rfl;have a4:slD 0 none (some ((1+N2 % 2:Nat):Int)) (.tup (nL l)) = .ok (.tup (nL (l.take (1+N2 % 2)))):=by
    generalize 1+N2 % 2=A;have:¬((A:Int)<0):=(by lia);simp only[slD,cutL,bnd,if_true,if_neg this,Int.toNat_natCast,List.drop_zero,Nat.sub_zero];congr 2;unfold nL;rw[List.map_take,List.length_map];rcases Nat.le_total A l.length with h|h
    ·rw[Nat.min_eq_left h]
    ·rw[Nat.min_eq_right h,List.take_of_length_le (by simp),List.take_of_length_le (by simp;lia)]
   have c3:ev G subC (.sl 0 (.var 8) [] [(.op .add (.con (.int 1)) (.op .mod (.call 22 [(.var 0),q4O 41]) (.con (.int 2))))]) (ruE M s n acc t o (some (.val (nI j))) (some (.val (.tup (nL l))))) = .ok (.tup (nL (l.take (1+N2 % 2)))):=by rw[qBE,v8,q00,q0Z,q00,evs1 c2,q00,a8,q00,a6,q00,a4]
   have t1':tst G subC (.e (.cm .gt (.op .mod (.call 22 [(.var 0),q4O 40]) (.con (.int 3))) (.con (.int 0)))) (ruE M s n acc t o (some (.val (nI j))) (some (.val (.tup (nL l))))) = .ok true:=t1;rw[qEH,q1y,t1',q05,if_pos rfl,q04 (ρ':=ruE M s n acc t o (some (.val (nI j))) (some (.val (.tup (nL (l.take (1+N2 % 2))))))) (by rw[q0P,c3,q05];rfl),q0C]
  ·rw[decide_eq_false q] at t1;have t1':tst G subC (.e (.cm .gt (.op .mod (.call 22 [(.var 0),q4O 40]) (.con (.int 3))) (.con (.int 0)))) (ruE M s n acc t o (some (.val (nI j))) (some (.val (.tup (nL l))))) = .ok false:=t1;exact⟨l,hlo,by rw[qEH,q1y,t1',q05,if_neg (by simp),q0C]⟩
 obtain⟨l2,hl2,e2⟩:=e2;have e3:∃l3:List Nat,l3.Sublist o/\ex G subC qGv (ruE M s n acc t o (some (.val (nI j))) (some (.val (.tup (nL l2))))) = .ok (ruE M s n (acc++[(t,l3)]) t o (some (.val (nI j))) (some (.val (.tup (nL l2))))) .nx:=by
  have v0:ev G subC (.var 0) (ruE M s n acc t o (some (.val (nI j))) (some (.val (.tup (nL l2))))) = .ok s:=rfl;have v5:ev G subC (.var 5) (ruE M s n acc t o (some (.val (nI j))) (some (.val (.tup (nL l2))))) = .ok (nI t):=rfl;have v1:ev G subC (.var 1) (ruE M s n acc t o (some (.val (nI j))) (some (.val (.tup (nL l2))))) = .ok (nI 0):=rfl;have v8:ev G subC (.var 8) (ruE M s n acc t o (some (.val (nI j))) (some (.val (.tup (nL l2))))) = .ok (.tup (nL l2)):=rfl;have k70:ev G subC (.op .add (.op .add (.var 1) (.con (.int 70))) (.var 5)) (ruE M s n acc t o (some (.val (nI j))) (some (.val (.tup (nL l2))))) = .ok (nI (0+70+t)):=by have h2:opD .add (nI 0) (.int 70) = .ok (nI (0+70)):=add_n 0 70;rw[q0O,q0O,v1,q00,q0F,q00,h2,q00,v5,q00,add_n]
  have t1:=q8l (q5t (c:=4) (by decide) (q0V v0 k70 m3));have key:∃l3:List Nat,l3.Sublist o/\ev G subC (.ite (.e (.cm .gt (.op .mod (.call 22 [(.var 0),(.op .add (.op .add (.var 1) (.con (.int 70))) (.var 5))]) (.con (.int 4))) (.con (.int 0)))) (.var 8) (.tup [])) (ruE M s n acc t o (some (.val (nI j))) (some (.val (.tup (nL l2))))) = .ok (.tup (nL l3)):=by
   by_cases q:0<N3 % 4
   ·rw[decide_eq_true q] at t1;have t1':tst G subC (.e (.cm .gt (.op .mod (.call 22 [(.var 0),(.op .add (.op .add (.var 1) (.con (.int 70))) (.var 5))]) (.con (.int 4))) (.con (.int 0)))) (ruE M s n acc t o (some (.val (nI j))) (some (.val (.tup (nL l2))))) = .ok true:=t1;exact⟨l2,hl2,by rw[qBC,t1',q00,if_pos rfl,v8]⟩
   ·rw[decide_eq_false q] at t1;have t1':tst G subC (.e (.cm .gt (.op .mod (.call 22 [(.var 0),(.op .add (.op .add (.var 1) (.con (.int 70))) (.var 5))]) (.con (.int 4))) (.con (.int 0)))) (ruE M s n acc t o (some (.val (nI j))) (some (.val (.tup (nL l2))))) = .ok false:=t1;exact⟨[],List.nil_sublist _,by rw[qBC,t1',q00,if_neg (by simp)];exact q2S (q0Z _) (by simp)⟩
  obtain⟨l3,hl3,key⟩:=key;refine⟨l3,hl3,?_⟩;have b1:(acc.map wD).length<big:=by rw[List.length_map,q0h];lia
  rw[qGv,qBH];show (ev G subC _ _).go _ _=_;rw[q2S (evs2 v5 key) (by simp),q05];show (if (acc.map wD).length<big then _ else _)=_;rw[if_pos b1];unfold ruE;rw[List.map_append];rfl
 obtain⟨l3,hl3,e3⟩:=e3;exact⟨(t,l3),_,hon l3 hl3,by rw[q7f,q04 e1,q04 e2,q04 e3,q0C]⟩
theorem q9z {s:D}(d:Draw G s) {t:Nat}{o:List Nat}(ho:o.length<=7) (hon:∀l:List Nat,l.Sublist o->GoodW n (t,l)):∀(js:List Nat) (acc:List Wn) (x y:Option Sl),acc.length+js.length<=1000->
  ∃(vs:List Wn) (x' y':Option Sl),(∀w∈vs,GoodW n w)/\vs.length=js.length/\q0k (exs G subC q7f) 0 [7] (nL js) (ruE M s n acc t o x y) = .ok (ruE M s n (acc++vs) t o x' y') .nx
 |[],acc,x,y,_=>⟨[],x,y,by simp,rfl,by simp[q1g]⟩
 |j::js,acc,x,y,hl=>by simp only[List.length_cons] at hl;obtain⟨w,y1,hw,e1⟩:=qHE d (j:=j) (y:=y) ho hon (acc:=acc) (by lia);obtain⟨vs,x2,y2,hv,hvl,e2⟩:=q9z d ho hon js (acc++[w]) (some (.val (nI j))) y1 (by simp;lia);refine⟨w::vs,x2,y2,List.forall_mem_cons.mpr ⟨hw,hv⟩,by simp[hvl],?_⟩;rw[q0a,q0B];have:List.set (ruE M s n acc t o x y) 7 (some (.val (nI j)))=ruE M s n acc t o (some (.val (nI j))) y:=rfl;rw[this,e1,q0u,e2];simp
def ruE2 (M:Nat) (s:D) (n:Nat) (acc:List Wn) (t:Option Sl) (o x y:Option Sl):Env :=
 [some (.val s),some (.val (nI 0)),some (.val (nI M)),some (.val (nI n)),some (.own (.lst (acc.map wD))),t,o,x,y]
theorem qHF (d:Draw G s) (hn:n<=5) (ht:t<n) {o x:Option Sl}(hl:acc.length+3<=1000) :
  ∃(vs:List Wn) (o' x' y':Option Sl),(∀w∈vs,GoodW n w)/\vs.length<=3/\exs G subC q3w (ruE2 M s n acc (some (.val (nI t))) o x y) = .ok (ruE2 M s n (acc++vs) (some (.val (nI t))) o' x' y') .nx:=by
 generalize ho:(List.range n).filter (λ e=>!decide (e=t))=os;have hol:os.length<=7:=by rw[<-ho];refine Nat.le_trans (List.length_filter_le _ _) ?_;rw[List.length_range];lia
 have hon:∀l:List Nat,l.Sublist os->GoodW n (t,l):=λ l h=>by
  have hm:∀x∈l,x<n/\¬x=t:=λ x hx=>by have:=h.subset hx;rw[<-ho] at this;simpa using this
  refine⟨ht,⟨?_,λ x hx=>(hm x hx).1⟩,λ h=>(hm t h).2 rfl⟩;refine List.Pairwise.sublist h ?_;rw[<-ho];exact List.Pairwise.filter _ List.pairwise_lt_range
 have e1:ex G subC (.set 6 qGw) (ruE2 M s n acc (some (.val (nI t))) o x y) = .ok (ruE M s n acc t os x y) .nx:=by
  have a1:=q1X (elt:=ev G subC (.var 0)) (cond:=tsts G subC [(.e (.cm .ne (.var 0) (.var 6)))]) (ρ:=ruE2 M s n acc (some (.val (nI t))) o x y) (p:=λ e=>!decide (e=t)) (l:=List.range n)
   (λ a _=>by have v0:ev G subC (.var 0) (some (.val (nI a))::ruE2 M s n acc (some (.val (nI t))) o x y) = .ok (nI a):=rfl;have v6:ev G subC (.var 6) (some (.val (nI a))::ruE2 M s n acc (some (.val (nI t))) o x y) = .ok (nI t):=rfl;rw[q1x,q8N,qAI,v0,q00,v6,q00,ne_n,q00,qDP,q00,q2Y];cases !decide (a=t)<;>rfl) (λ a _=>rfl)
  have a2:evi G subC (.rng [(.var 3)]) (ruE2 M s n acc (some (.val (nI t))) o x y) = .ok (nL (List.range n)):=by rw[q0l,evs1 (G:=G) (x:=nI n) rfl,q00,q2F n (by lia)]
  have b1:(nL os).length<=big:=by rw[q0Q,q0h];lia
  rw[ho] at a1;rw[qGw,q0P,q1U,a2,q00,a1,q14,q00,if_pos b1,q05];rfl
 obtain⟨N,m⟩:=d.mix (0+1+t);have e2:∃c:Nat,c<=3/\ev G subC qEI (ruE M s n acc t os x y) = .ok (nI c):=by
  have v0:ev G subC (.var 0) (ruE M s n acc t os x y) = .ok s:=rfl;have v5:ev G subC (.var 5) (ruE M s n acc t os x y) = .ok (nI t):=rfl;have v1:ev G subC (.var 1) (ruE M s n acc t os x y) = .ok (nI 0):=rfl;have k1:ev G subC (.op .add (.op .add (.var 1) (.con (.int 1))) (.var 5)) (ruE M s n acc t os x y) = .ok (nI (0+1+t)):=by have h2:opD .add (nI 0) (.int 1) = .ok (nI (0+1)):=add_n 0 1;rw[q0O,q0O,v1,q00,q0F,q00,h2,q00,v5,q00,add_n]
  have c1:=q5t (c:=6) (by decide) (q0V v0 k1 m);have h1:ev G subC (.lst [(.con (.int 1)),(.con (.int 1)),(.con (.int 2)),(.con (.int 2)),(.con (.int 3)),(.con (.int 0))]) (ruE M s n acc t os x y) = .ok (.lst (nL [1,1,2,2,3,0])):=q0y rfl (by simp);have h3:∃P:Nat,P<=3/\[1,1,2,2,3,0][N % 6]? = some P:=by
   have h6:N % 6<6:=Nat.mod_lt _ (by decide)
   match N % 6,h6 with
   |0,_=>exact⟨1,by decide,rfl⟩
   |1,_=>exact⟨1,by decide,rfl⟩
   |2,_=>exact⟨2,by decide,rfl⟩
   |3,_=>exact⟨2,by decide,rfl⟩
   |4,_=>exact⟨3,by decide,rfl⟩
   |5,_=>exact⟨0,by decide,rfl⟩
  obtain⟨P,p1,p3⟩:=h3;refine⟨P,p1,?_⟩;rw[qEI,q1d,h1,q00];refine (congrArg (λ z:R D=>z.bind λ y=>idxD (.lst (nL [1,1,2,2,3,0])) y) c1).trans ?_;exact q65 _ _ _ (by unfold nL;rw[List.getElem?_map,p3];rfl)
 obtain⟨c,hc,e2⟩:=e2;obtain⟨vs,x2,y2,hv,hvl,e3⟩:=q9z d hol hon (List.range c) acc x y (by rw[List.length_range];lia);refine⟨vs,some (.val (.lst (nL os))),x2,y2,hv,by rw[hvl,List.length_range];lia,?_⟩;have e4:ex G subC (.forr 0 [7] (.rng [qEI]) q7f) (ruE M s n acc t os x y) = .ok (ruE M s n (acc++vs) t os x2 y2) .nx:=by rw[q0w,q0l,evs1 e2,q00,q2F c (by lia),q05,e3]
 rw[q3w,q04 e1,q04 e4,q0C];rfl
theorem qA0 {s:D}(d:Draw G s) (hn:n<=5):∀(ts:List Nat) (acc:List Wn) (t o x y:Option Sl),(∀u∈ts,u<n)->acc.length+3*ts.length<=1000->
  ∃(vs:List Wn) (t' o' x' y':Option Sl),(∀w∈vs,GoodW n w)/\vs.length<=3*ts.length/\q0k (exs G subC q3w) 0 [5] (nL ts) (ruE2 M s n acc t o x y) = .ok (ruE2 M s n (acc++vs) t' o' x' y') .nx
 |[],acc,t,o,x,y,_,_=>⟨[],t,o,x,y,by simp,by simp,by simp[q1g]⟩
 |u::ts,acc,t,o,x,y,hu,hl=>by
  simp only[List.length_cons] at hl;obtain⟨vs,o1,x1,y1,hv,hvl,e1⟩:=qHF d hn (hu u List.mem_cons_self) (acc:=acc) (o:=o) (x:=x) (y:=y) (by lia);obtain⟨vs2,t2,o2,x2,y2,hv2,hvl2,e2⟩:=qA0 d hn ts (acc++vs) (some (.val (nI u))) o1 x1 y1 (λ v hv=>hu v (List.mem_cons_of_mem _ hv)) (by simp;lia);refine⟨vs++vs2,t2,o2,x2,y2,λ w hw=>?_,by simp;lia,?_⟩
  ·rcases List.mem_append.mp hw with h|h
   ·exact hv w h
   ·exact hv2 w h
  ·rw[q0a,q0B];have:List.set (ruE2 M s n acc t o x y) 5 (some (.val (nI u)))=ruE2 M s n acc (some (.val (nI u))) o x y:=rfl;rw[this,e1,q0u,e2,List.append_assoc]
end Mk
namespace Mk
open Ev
variable {n:Nat}{ws:List Wn}{G:Nat->List D->R D}
theorem q3c:∀{l:List D}{d:D},d∈dedup l->d∈l
 |[],_,h=>h
 |x::l,d,h=>by
  rw[dedup] at h;split at h
  ·exact List.mem_cons_of_mem _ (q3c h)
  ·rcases List.mem_cons.mp h with rfl|h
   ·exact List.mem_cons_self
   ·exact List.mem_cons_of_mem _ (q3c h)
theorem q6d:∀{l:List D},(dedup l).Pairwise λ a b=>eqb a b=false
 |[]=>List.Pairwise.nil
 |x::l=>by
  rw[dedup];split
  ·exact q6d
  ·rename_i h;refine List.pairwise_cons.mpr ⟨λ d hd=>?_,q6d⟩;cases q:eqb x d with
   |false=>rfl
   |true=>exact absurd (List.any_eq_true.mpr ⟨d,q3c hd,q⟩) h
theorem q7v:∀l:List D,(dedup l).length<=l.length
 |[]=>Nat.le_refl _
 |x::l=>by
  have:=q7v l;rw[dedup];split
  ·simp;lia
  ·simp;lia
theorem qJy (w:Wn):q03 (wD w)=true:=by rw[<-q3z];exact qCX _
theorem qFJ {n:Nat}:∀{l:List D},(∀d∈l,∃w,GoodW n w/\d=wD w)->∃ws:List Wn,(∀w∈ws,GoodW n w)/\l=ws.map wD
 |[],_=>⟨[],by simp,rfl⟩
 |d::l,h=>by obtain⟨w,hw,rfl⟩:=h d List.mem_cons_self;obtain⟨ws,hws,rfl⟩:=qFJ λ e he=>h e (List.mem_cons_of_mem _ he);exact⟨w::ws,List.forall_mem_cons.mpr ⟨hw,hws⟩,rfl⟩
theorem qFK {α:Type}{R:α->α->Prop}:∀{l:List α},l.Pairwise R->∀(p:Nat) (a b:α),l[p]? = some a->l[p+1]? = some b->R a b
 |[],_,p,a,b,h,_=>by simp at h
 |x::l,h,0,a,b,h1,h2=>by obtain⟨h3,_⟩:=List.pairwise_cons.mp h;simp at h1;subst h1;rw[List.getElem?_cons_succ] at h2;exact h3 b (List.mem_of_getElem? h2)
 |x::l,h,p+1,a,b,h1,h2=>by obtain⟨_,h4⟩:=List.pairwise_cons.mp h;rw[List.getElem?_cons_succ] at h1 h2;exact qFK h4 p a b h1 h2
theorem qEU (hn:n<=5) {acc:List Wn}(h:∀w∈acc,GoodW n w) (hl:acc.length<=60):∃ws:List Wn,Good n ws/\biD subC .sortedSet [.lst (acc.map wD)] = .ok (.lst (ws.map wD)):=by
 generalize hd:dedup (acc.map wD)=dd;have hdm:∀d∈dd,∃w,GoodW n w/\d=wD w:=λ d hx=>by rw[<-hd] at hx;obtain⟨w,hw,rfl⟩:=List.mem_map.mp (q3c hx);exact⟨w,h w hw,rfl⟩
 have hp:=q0d dd;have hhd:∀d∈dd,q03 d=true:=λ d hx=>by obtain⟨w,_,rfl⟩:=hdm d hx;exact qJy w
 have hcd:∀a∈dd,∀b∈dd,q0o a b=true:=λ a ha b hb=>by obtain⟨v,_,rfl⟩:=hdm a ha;obtain⟨w,_,rfl⟩:=hdm b hb;rw[<-q3z,<-q3z];exact qFE _ _ rfl rfl
 have hpw:dd.Pairwise λ a b=>eqb a b=false:=by rw[<-hd];exact q6d
 have hnd:dd.Nodup:=by refine List.Pairwise.imp_of_mem (λ {a b} ha hb hab e=>?_) hpw;subst e;rw[(q0Y (hhd a ha) (hhd a ha)).mpr rfl] at hab;cases hab
 have hlen:dd.length<=60:=by rw[<-hd];exact Nat.le_trans (q7v _) (by rw[List.length_map];exact hl)
 obtain⟨ws,hws,hwe⟩:=qFJ (l:=q1F dd) λ d hx=>hdm d (hp.mem_iff.mp hx);have hrise:(ws.map wD).Pairwise λ a b=>ltb a b=true:=by
  rw[<-hwe];have h1:(q1F dd).Nodup:=hp.nodup_iff.mpr hnd;have h2:=q1R hhd;refine List.Pairwise.imp_of_mem (λ {a b} ha hb hab=>?_) (List.Pairwise.and h1 h2);rcases q8L (hhd a (hp.mem_iff.mp ha)) (hhd b (hp.mem_iff.mp hb)) (hcd a (hp.mem_iff.mp ha) b (hp.mem_iff.mp hb)) with t|t|t
  ·exact t
  ·exact absurd t hab.1
  ·rw[hab.2] at t;cases t
 refine⟨ws,⟨hn,?_,λ w hw=>qEO.mpr (hws w hw),λ p hpl v w h1 h2=>?_⟩,?_⟩
 ·have:(ws.map wD).length=dd.length:=by rw[<-hwe];exact hp.length_eq
  rw[List.length_map] at this;lia
 ·refine qFK hrise p (wyD v) (wyD w) ?_ ?_
  ·rw[<-q8h,List.getElem?_map,h1];rfl
  ·rw[<-q8h,List.getElem?_map,h2];rfl
 ·have s1:q0A (acc.map wD)=true:=q0S.mpr λ d hx=>by obtain⟨w,_,rfl⟩:=List.mem_map.mp hx;exact qJy w
  have s2:plL (acc.map wD)=true:=q1f.mpr λ d hx=>by obtain⟨w,_,rfl⟩:=List.mem_map.mp hx;rw[<-q3z];exact qEN _
  have s3:decide ((acc.map wD).length<=1000)=true:=decide_eq_true (by rw[List.length_map];lia);have t1:q0A dd=true:=q0S.mpr hhd;have t2:plL dd=true:=q1f.mpr λ d hx=>by obtain⟨w,_,rfl⟩:=hdm d hx;rw[<-q3z];exact qEN _
  have t3:q3D q0o dd=true:=List.all_eq_true.mpr λ a ha=>List.all_eq_true.mpr λ b hb=>hcd a ha b hb;have t4:dedup dd=dd:=q6c hpw;have t5:dd.all q2m=true:=List.all_eq_true.mpr λ d hx=>by obtain⟨w,_,rfl⟩:=hdm d hx;rfl
  have t6:decide (dd.length<64)=true:=decide_eq_true (by lia);have s4:q1I dd=true:=by unfold q1I qDE;rw[t1,t2,t3,t4,t5,t6];simp
  rw[q4E,qAK,q00,s1,s2,s3,hd,s4,<-hwe];rfl
theorem qEV (k:Nat) (zs:List Int) (i:Nat):∃N:Nat,Gm (k+2) 22 [.lst (iL zs),nI i] = .ok (nI N):=by obtain⟨c,hc⟩:=qET (G:=Gm k) zs i;obtain⟨N,h⟩:=qHD (G:=Gm (k+1)) (.lst (iL zs)) i ⟨c,(q0s k 21 _ 2 2 q1b rfl rfl).trans hc⟩;exact⟨N,(q0s (k+1) 22 _ 2 3 q2Q rfl rfl).trans h⟩
theorem qJz (k:Nat) (zs:List Int):Draw (Gm (k+3)) (.lst (iL zs)):=by refine⟨λ i=>qEV (k+1) zs i,λ i o ho=>?_⟩;obtain⟨l,hl,h⟩:=qAX (G:=Gm (k+2)) (.lst (iL zs)) i o ho (qEV k zs i);exact⟨l,hl,(q0s (k+2) 24 _ 3 4 q1u rfl rfl).trans h⟩
end Mk
namespace Mk
open Ev
variable {d:D}{ρ:Env}{a:L}
variable {n:Nat}{ws:List Wn}{G:Nat->List D->R D}
theorem q6e (h:pl d=true) (h2:eqb d d=true):cmD .ne d d = .ok (.bl false):=by
 have:cmD .ne d d=if pl d&&pl d then .ok (.bl (!eqb d d)) else .stuck:=rfl
 rw[this,h,h2];rfl
theorem qHG (h:pl d=true) (h2:eqb d d=true):cmD .eq d d = .ok (.bl true):=by
 have:cmD .eq d d=if pl d&&pl d then .ok (.bl (eqb d d)) else .stuck:=rfl
 rw[this,h,h2];rfl
theorem q7w {l:List D}(h:∀d∈l,eqb d d=true):eqbL l l=true:=by
 induction l with
 |nil=>simp[eqbL]
 |cons a l ih=>rw[eqbL,h a List.mem_cons_self,ih λ d hd=>h d (List.mem_cons_of_mem _ hd)];rfl
theorem qK0 (l:List Nat):eqb (.lst (nL l)) (.lst (nL l))=true:=by rw[eqb];exact q7w λ d hd=>by obtain⟨a,_,rfl⟩:=List.mem_map.mp hd;simp
theorem qCn (g:Good n ws) {m:Nat}(h:m∈due n ws):m<32:=by have:=q2G ((q27 g m).mp h);rw[q1l] at this;exact Nat.lt_of_lt_of_le this (Nat.pow_le_pow_right (by decide) g.n5:2^n<=2^5)
theorem q4a {f:Nat}{b c:L}{x y z:D}(h1:ev G subC a ρ = .ok x) (h2:ev G subC b ρ = .ok y) (h3:ev G subC c ρ = .ok z) (h:G f [x,y,z] = .ok d):ev G subC (.call f [a,b,c]) ρ = .ok d:=by rw[q1G,q0J,h1,q00,evs2 h2 h3,q00,q00,h]
theorem q0X {o:Cm}{b:L}{x y:D}{r:R D}(h1:ev G subC a ρ = .ok x) (h2:ev G subC b ρ = .ok y) (h:cmD o x y=r):ev G subC (.cm o a b) ρ=r:=by rw[qAI,h1,q00,h2,q00,h]
theorem q0W {b:Bool}(h:ev G subC a ρ = .ok (.bl b)):tst G subC (.e a) ρ = .ok b:=by rw[q8N,h,q00,qDP]
theorem qEW {a b:T}(h1:tst G subC a ρ = .ok false) (h2:tst G subC b ρ = .ok false):tst G subC (.or a b) ρ = .ok false:=by rw[q5S,h1,q00,if_neg (by simp),h2]
theorem q4P {c:T}{l:List S}(h:tst G subC c ρ = .ok false):ex G subC (.ifs c l []) ρ = .ok ρ .nx:=by rw[q1y,h,q05,if_neg (by simp),q0C]
theorem qHH (ρ:Env):ev G subC (.neg (.con (.int 1))) ρ = .ok (.int (-1)):=rfl
def badZ (n:Nat):Nat->List Int
 |0=>[n]
 |1=>[-1]
 |2=>[0,0]
 |_=>[1,0]
theorem qEX (n i:Nat):q0i n (-1) (badZ n i)=false:=by
 match i with
 |0=>simp[badZ,q0i]
 |1=>simp[badZ,q0i]
 |2=>simp[badZ,q0i]
 |i+3=>simp[badZ,q0i]
theorem q5G {α:Type}{l:List α}{f:α->D}{x:L}{it:I}(h1:evi G subC it ρ = .ok (l.map f)) (h2:∀a∈l,ev G subC x (some (.val (f a))::ρ) = .ok d) (hl:l.length<=1000):ev G subC (.comp 0 x it []) ρ = .ok (.lst (l.map λ _=>d)):=by
 have a2:q0c (ev G subC x) (tsts G subC []) 0 ρ (l.map f) = .ok ((l.filter λ _=>true).map λ _=>d) :=
  q1D (us:=λ a=>[f a]) λ a ha=>⟨rfl,rfl,λ _=>h2 a ha⟩
 rw[filter_tt] at a2;rw[q1U,h1,q00,a2,q14,q00,if_pos (by rw[List.length_map,q0h];lia)]
end Mk
namespace Mk
open Ev
variable {k t:Nat}
variable {nd:List (List Nat)}{b:Nat}
theorem q43 (m:Nat):(q02 m).Nodup:=(List.nodup_range).filter _
theorem bits_add (h:k.testBit t=false):(q02 (k ||| 1 <<< t)).length=(q02 k).length+1:=by
 have p:(q02 (k ||| 1 <<< t)).Perm (t::q02 k):=by
  refine qH8 (q43 _) (List.nodup_cons.mpr ⟨λ g=>?_,q43 k⟩) λ x=>?_
  ·rw[q09,h] at g;cases g
  ·rw[q09,q1O,Bool.or_eq_true,decide_eq_true_eq,List.mem_cons,q09];exact⟨λ g=>g.elim .inr λ e=> .inl e.symm,λ g=>g.elim (λ e=> .inr e.symm) .inl⟩
 rw[p.length_eq];rfl
theorem q6f (m:Nat):(q02 m).Pairwise (· < ·):=List.pairwise_lt_range.filter _
theorem bits_sub (h:Sm k b):(q02 k).length<=(q02 b).length:=by
 have e:q02 k=(q02 b).filter k.testBit:=q5F (q6f k) ((q6f b).filter _) λ x=>by rw[List.mem_filter,q09,q09];exact⟨λ g=>⟨h x g,g⟩,λ g=>g.2⟩
 rw[e];exact List.length_filter_le _ _
theorem q30 (h:Sm k b) (hne:k≠b):(q02 k).length<(q02 b).length:=by
 obtain⟨t,h1,h2⟩:∃t,b.testBit t=true/\k.testBit t=false:=by
  refine Classical.byContradiction λ g=>hne (q2z h λ i hi=>?_);cases q:k.testBit i with
  |true=>rfl
  |false=>exact absurd ⟨i,hi,q⟩ g
 have s:Sm (k ||| 1 <<< t) b:=λ i hi=>by rw[q1O,Bool.or_eq_true] at hi;exact hi.elim (h i) λ e=>(of_decide_eq_true e)▸h1
 have:=bits_sub s;rw[bits_add h2] at this;exact this
def q7x (nd:List (List Nat)) (b:Nat):Nat->Nat->List (List Nat)
 |0,_=>[[]]
 |f+1,k=>(q0G nd k b).flatMap λ t=>(q7x nd b f (k ||| 1 <<< t)).map (t::·)
def remB (b k:Nat):Nat:=(q02 b).length-(q02 k).length
def q1o (nd:List (List Nat)) (b k:Nat):List (List Nat):=q7x nd b (remB b k) k
def cnt (nd:List (List Nat)) (b k:Nat):Nat:=(q1o nd b k).length
theorem qA1:remB b b=0:=Nat.sub_self _
theorem q7y:q1o nd b b=[[]]:=by unfold q1o;rw[qA1];rfl
theorem q4b:cnt nd b b=1:=by unfold cnt;rw[q7y];rfl
theorem q15:t∈q0G nd k b↔b.testBit t=true/\mayL nd k t=true:=by unfold q0G;rw[List.mem_filter,q09]
theorem q44 (s:Sm k b) (h:t∈q0G nd k b):Sm (k ||| 1 <<< t) b:=λ i hi=>by rw[q1O,Bool.or_eq_true] at hi;exact hi.elim (s i) λ e=>(of_decide_eq_true e)▸(q15.mp h).1
theorem q6g (s:Sm k b) (h:t∈q0G nd k b):remB b k=remB b (k ||| 1 <<< t)+1:=by have h1:=bits_add (q5A (q15.mp h).2);have h2:=bits_sub (q44 s h);unfold remB;lia
theorem qHI (h:t∈q0G nd k b):k<k ||| 1 <<< t:=by refine Nat.lt_of_le_of_ne (qCT (q59 _ _)) λ e=>?_;have:=q1O k t t;rw[<-e,q5A (q15.mp h).2] at this;simp at this
theorem qCo (hb:Rch nd b) (r:Rch nd k) (s:Sm k b) (hne:k≠b):q0G nd k b≠[]:=λ e =>
 hne (q2z s ((q9u r s e).2.2 b hb (q58 b)))
theorem q7z (s:Sm k b) (hne:k≠b):q1o nd b k=(q0G nd k b).flatMap λ t=>(q1o nd b (k ||| 1 <<< t)).map (t::·):=by
 unfold q1o;obtain⟨f,hf⟩:∃f,remB b k=f+1:=⟨remB b k-1,by have:=q30 s hne;unfold remB;lia⟩
 rw[hf,q7x];refine congrArg List.flatten (List.map_congr_left λ t ht=>?_);have:=q6g s ht;rw[hf] at this;rw[<-Nat.succ.inj this]
theorem q6h (s:Sm k b) (hne:k≠b):cnt nd b k=((q0G nd k b).map λ t=>cnt nd b (k ||| 1 <<< t)).sum:=by unfold cnt;rw[q7z s hne,List.length_flatMap];congr 1;exact List.map_congr_left λ t _=>by rw[List.length_map]
theorem qHJ (hb:Rch nd b):∀{f:Nat},remB b k=f->Rch nd k->Sm k b->0<cnt nd b k:=by
 intro f
 induction f generalizing k with
 |zero =>
  intro hf r s
  by_cases e:k=b
  ·rw[e,q4b];decide
  ·have:=q30 s e;unfold remB at hf;lia
 |succ f ih =>
  intro hf r s
  by_cases e:k=b
  ·rw[e,q4b];decide
  ·rw[q6h s e];cases hN:q0G nd k b with
   |nil=>exact absurd hN (qCo hb r s e)
   |cons t ts =>
    have ht:t∈q0G nd k b:=(by rw[hN];exact List.mem_cons_self);have:=ih (k:=k ||| 1 <<< t) (by have:=q6g s ht;lia) (.s r (q15.mp ht).2) (q44 s ht);rw[List.map_cons,List.sum_cons];lia
def q31 (nd:List (List Nat)) (b:Nat) (L:List (List Nat)):List (List Nat):=L.flatMap λ r=>(q0G nd (q01 0 r) b).map λ t=>r++[t]
def q80 (nd:List (List Nat)) (b:Nat):Nat->List (List Nat)->List (List Nat)
 |0,L=>L
 |f+1,L=>q80 nd b f (q31 nd b L)
theorem qCp (r:List Nat) (t m:Nat):q01 m (r++[t])=q01 m r ||| 1 <<< t:=by unfold q01;rw[List.foldl_append];rfl
theorem qA2:∀(f:Nat) (L:List (List Nat)),q80 nd b f L=L.flatMap λ r=>(q7x nd b f (q01 0 r)).map λ x=>r++x
 |0,L=>by
  show L=L.flatMap λ r=>[r++[]]
  simp
 |f+1,L=>by rw[q80,qA2 f,q31,List.flatMap_assoc];refine congrArg List.flatten (List.map_congr_left λ r _=>?_);show List.flatMap _ (List.map _ _)=_;rw[List.flatMap_map,q7x,List.map_flatMap];refine congrArg List.flatten (List.map_congr_left λ t _=>?_);rw[List.map_map,qCp];refine List.map_congr_left λ x _=>?_;simp
theorem q8m:q80 nd b (q02 b).length [[]]=q1o nd b 0:=by
 rw[qA2];unfold q1o;have h0:q02 0=[]:=by decide
 have:remB b 0=(q02 b).length:=by unfold remB;rw[h0];rfl
 rw[this];simp[q01]
end Mk
namespace Mk
open Ev
variable {nd:List (List Nat)}{b:Nat}
structure InvB (nd:List (List Nat)) (b:Nat) (ks ws:List Nat):Prop where
 nodup:ks.Nodup
 rch:∀x∈ks,Rch nd x/\Sm x b
 zero:0∈ks
 sub:∀x∈ws,x∈ks
 cl:∀x∈ks,x∈ws\/∀t∈q0G nd x b,x ||| 1 <<< t∈ks
theorem qA3 (K:Nat) (hn:nd.length<=9) (hb:b<2^nd.length):∀(f:Nat) (ks ws:List Nat) (x y z:Option Sl),InvB nd b ks ws->ws.length<=ks.length->2^nd.length-ks.length+ws.length<f->
  ∃ks' x' y' z',InvB nd b ks' []/\q1L (tst (Gm (K+3)) subC (.e (.bor 3))) (exs (Gm (K+3)) subC qCN) f [some (.val (ndD nd)),some (.val (nI b)),some (.own (.dct (nL ks) (trs ks.length))),some (.own (.lst (nL ws))),x,y,z] =
   .ok [some (.val (ndD nd)),some (.val (nI b)),some (.own (.dct (nL ks') (trs ks'.length))),some (.own (.lst [])),x',y',z'] .nx
 |0,ks,ws,x,y,z,_,_,h=>absurd h (by lia)
 |f+1,ks,ws,x,y,z,I,hl,h=>by
  rw[q2Z];rcases List.eq_nil_or_concat ws with rfl|⟨ws,k,rfl⟩
  ·exact⟨ks,x,y,z,I,by simp⟩
  ·have hN:2^nd.length<=1000:=Nat.le_trans (Nat.pow_le_pow_right (by decide) hn) (by decide);have hkk:k∈ks:=I.sub k (by simp);obtain⟨hk,hkb⟩:=I.rch k hkk;have hlt:∀x∈ks,x<2^nd.length:=λ x hx=>q2G (I.rch x hx).1;generalize hts:q0G nd k b=ts;have hmts:∀t∈ts,mayL nd k t=true:=λ t ht=>by rw[<-hts] at ht;exact (List.mem_filter.mp ht).2
   have hallts:∀t∈q0G nd k b,t∈ts:=λ t ht=>by rw[<-hts];exact ht
   have htt:∀t∈ts,t<=1000/\k ||| 1 <<< t<2^nd.length:=λ t ht=>⟨by have:=q9r (hmts t ht);lia,q2G (.s hk (hmts t ht))⟩
   have hl':ws.length<=ks.length:=(by simp at hl;lia);obtain⟨x',y',e⟩:=qCV (G:=Gm (K+3)) (some (.val (ndD nd))) (some (.val (nI b))) (2^nd.length) k hN ts ks ws y z I.nodup hlt htt hl';have hnd:=q3y (k:=k) ts ks I.nodup;have hrch:∀x∈ks++newL k ks ts,Rch nd x/\Sm x b:=λ x hx=>by
    rcases List.mem_append.mp hx with h|h
    ·exact I.rch x h
    ·obtain⟨t,ht,rfl⟩:=q6X ts ks h;exact⟨.s hk (hmts t ht),q44 hkb (hts.symm▸ht)⟩
   have I':InvB nd b (ks++newL k ks ts) (ws++newL k ks ts):=by
    refine⟨hnd,hrch,List.mem_append_left _ I.zero,λ x hx=>?_,λ x hx=>?_⟩
    ·rcases List.mem_append.mp hx with h|h
     ·exact List.mem_append_left _ (I.sub x (by simp[h]))
     ·exact List.mem_append_right _ h
    ·rcases List.mem_append.mp hx with h|h
     ·by_cases q:x=k
      ·subst q;exact .inr λ t ht=>q6Y ts ks t (hallts t ht)
      ·rcases I.cl x h with g|g
       ·refine .inl (List.mem_append_left _ ?_);simp at g;exact g.resolve_right q
       ·exact .inr λ t ht=>List.mem_append_left _ (g t ht)
     ·exact .inl (List.mem_append_right _ h)
   have hlen:=q1Z _ _ hnd λ x hx=>q2G (hrch x hx).1;obtain⟨ks',x2,y2,z2,I2,e2⟩:=qA3 K hn hb f (ks++newL k ks ts) (ws++newL k ks ts) (some (.val (nI k))) x' y' I' (by simp;lia) (by simp at h hlen |-;lia);refine⟨ks',x2,y2,z2,I2,Eq.trans ?_ e2⟩;have e3:=q7i K nd k b hb (by lia);rw[hts] at e3;simp[qCN,e3,e]
theorem qEY {ks:List Nat}(I:InvB nd b ks []) (x:Nat):x∈ks↔Rch nd x/\Sm x b:=by
 refine⟨I.rch x,λ h=>?_⟩;obtain⟨h,s⟩:=h
 induction h with
 |z=>exact I.zero
 |@s k t hk hm ih =>
  rcases I.cl _ (ih (q4Z (q59 _ _) s)) with h|h
  ·cases h
  ·exact h _ (q15.mpr ⟨s t (by rw[q1O];simp),hm⟩)
theorem qLV (K:Nat) (hn:nd.length<=9) (hb:b<2^nd.length):∃ks:List Nat,ks.Nodup/\(∀x,x∈ks↔Rch nd x/\Sm x b)/\Gm (K+4) 7 [ndD nd,nI b] = .ok (.dct (nL ks) (trs ks.length)):=by
 have hN:2^nd.length<=1000:=Nat.le_trans (Nat.pow_le_pow_right (by decide) hn) (by decide);have h0:InvB nd b [0] [0]:=⟨by simp,λ x hx=>by rw[List.mem_singleton] at hx;subst hx;exact⟨.z,q2R _⟩,by simp,λ x hx=>hx,λ x hx=> .inl hx⟩
 obtain⟨ks,x,y,z,I,e⟩:=qA3 K hn hb 100000 [0] [0] none none none h0 (by simp) (by simp;lia);refine⟨ks,I.nodup,qEY I,?_⟩;show Ev.run (Gm (K+3)) subC 7 [.setO 2 (.dct (.con (.int 0)) (.con (.bl true))),.setO 3 (.lst [(.con (.int 0))]),.whl (.e (.bor 3)) qCN,.retO 2] [ndD nd,nI b]=_;generalize hW:ex (Gm (K+3)) subC (.whl (.e (.bor 3)) qCN)=W;have hw':=congrFun hW [some (.val (ndD nd)),some (.val (nI b)),some (.own (.dct (nL [0]) (trs 1))),some (.own (.lst (nL [0]))),none,none,none];rw[qBJ] at hw';replace hw':=e.symm.trans hw';simp only[Ev.run,q0g,q0C,hW];have hb:(1:Nat)<=big:=by decide
 simp[hb];rw[show (D.int 0)=nI 0 from rfl];have hw2:W [some (.val (ndD nd)),some (.val (nI b)),some (.own (.dct [nI 0] [.bl true])),some (.own (.lst [nI 0])),none,none,none]=_:=hw'.symm;rw[hw2];simp
end Mk
namespace Mk
open Ev
variable {ks:List Nat}{G:Nat->List D->R D}
variable {nd:List (List Nat)}{b:Nat}
theorem qCq (h:ks.Nodup) (hl:ks.length<64):q1I (nL ks)=true:=by
 have h3:q3D q0o (nL ks)=true:=by unfold q3D;refine List.all_eq_true.mpr λ a ha=>List.all_eq_true.mpr λ b hb=>?_;obtain⟨x,_,rfl⟩:=List.mem_map.mp ha;obtain⟨y,_,rfl⟩:=List.mem_map.mp hb;simp[nI,q0o]
 have h4:dedup (nL ks)=nL ks:=q6c (List.pairwise_map.mpr (h.imp λ {a b} hab=>by
  cases q:eqb (nI a) (nI b) with
  |false=>rfl
  |true=>exact absurd ((qBL a b).mp ((q0Y (q8P a) (q8P b)).mp q)) hab))
 have h5:(nL ks).all q1w=true:=List.all_eq_true.mpr λ d hd=>by obtain⟨a,_,rfl⟩:=List.mem_map.mp hd;rfl
 unfold q1I qDE;rw[q96,qIP,h3,h4,h5,q0Q];simp[hl]
theorem qK1 (h:ks.Nodup) (hl:ks.length<64) (v:List D):∃ds:List Nat,ds.Perm ks/\ds.Pairwise (· > ·)/\biD subC .sortedRev [.dct (nL ks) v] = .ok (.lst (nL ds)):=by
 have h1:Srt (q1F (nL ks)):=q1R λ d hd=>q0S.mp (q96 ks) d hd;have h2:=q0d (nL ks);obtain⟨ss,hm⟩:∃ss:List Nat,q1F (nL ks)=nL ss:=lift (q1F (nL ks)) λ d hd=>by obtain⟨a,_,rfl⟩:=List.mem_map.mp (h2.mem_iff.mp hd);exact⟨a,rfl⟩
 have hp:ss.Perm ks:=by
  rw[hm] at h2;have:=h2.map λ d=>match d with|D.int i=>i.toNat|_=>0
  unfold nL at this;rw[List.map_map,List.map_map] at this;simpa[Function.comp_def,nI] using this
 have asc:ss.Pairwise (· < ·):=by
  have h3:(nL ss).Pairwise (λ a b=>ltb b a=false):=by rw[<-hm];exact h1
  unfold nL at h3;rw[List.pairwise_map] at h3;refine (h3.and (hp.symm.nodup h)).imp λ {a b} hab=>?_;have e:ltb (nI b) (nI a)=decide ((b:Int)<a):=by simp[nI,ltb]
  have:=hab.1;rw[e] at this;have:=of_decide_eq_false this;have:=hab.2;lia
 refine⟨ss.reverse,(List.reverse_perm ss).trans hp,by rw[List.pairwise_reverse];exact asc,?_⟩;show (q0L (.dct (nL ks) v)).bind _=_;rw[qBN,q00,qCq h hl,hm];have:(nL ks).all q1w=true:=List.all_eq_true.mpr λ d hd=>by obtain⟨a,_,rfl⟩:=List.mem_map.mp hd;rfl
 rw[this];show R.ok (D.lst (nL ss).reverse)=_;unfold nL;rw[List.map_reverse]
where
 lift:∀(l:List D),(∀d∈l,∃a:Nat,d=nI a)->∃ss:List Nat,l=nL ss
  |[],_=>⟨[],rfl⟩
  |d::l,h=>by obtain⟨a,rfl⟩:=h d List.mem_cons_self;obtain⟨ss,rfl⟩:=lift l λ d hd=>h d (List.mem_cons_of_mem _ hd);exact⟨a::ss,rfl⟩
theorem q81 (f:Nat->D):∀{ks:List Nat}{i:Nat},i∈ks->look (i:Int) (nL ks) (ks.map f) = .ok (f i)
 |[],i,h=>by cases h
 |k::ks,i,h=>by
  show (if (k:Int)=(i:Int) then R.ok (f k) else look i (nL ks) (ks.map f))=_
  by_cases e:k=i
  ·subst e;rw[if_pos rfl]
  ·rw[if_neg (by lia)];exact q81 f ((List.mem_cons.mp h).resolve_left (Ne.symm e))
theorem qCr (x:D):∀{ks:List Nat}{vs:List D}{i:Nat},i∉ks->vs.length=ks.length->put (i:Int) x (nL ks) vs = .ok (nL (ks++[i]),vs++[x])
 |[],[],i,_,_=>rfl
 |[],_::_,_,_,h=>by cases h
 |_::_,[],_,_,h=>by cases h
 |k::ks,v::vs,i,h,hl=>by show (if (k:Int)=(i:Int) then _ else (put i x (nL ks) vs).bind λ r=> .ok (.int k::r.1,v::r.2))=_;rw[if_neg (λ e=>h (by rw[Int.ofNat.inj e];exact List.mem_cons_self)),qCr x (λ g=>h (List.mem_cons_of_mem _ g)) (Nat.succ.inj hl)];rfl
theorem qLW (l:List Nat):biD subC .sum [.lst (nL l)] = .ok (nI l.sum):=by
 show sumD (nL l)=_;unfold sumD;rw[qBM];have:∀l:List Nat,(l.map λ (a:Nat)=>(a:Int)).sum=((l.sum:Nat):Int):=λ l=>by
  induction l with
  |nil=>rfl
  |cons a l ih=>rw[List.map_cons,List.sum_cons,List.sum_cons,ih];rfl
 show R.ok (D.int _)=_;rw[this];rfl
def cD (nd:List (List Nat)) (b k:Nat):D:=nI (cnt nd b k)
def ro_s:L:= .bi .sum [(.comp 0 (.idx (.bor 3) (.op .bor (.var 4) (.op .shl (.con (.int 1)) (.var 0)))) (.e (.call 5 [(.var 0),(.var 3),(.var 1)])) [])]
def ro_b:List S:=[.ifs (.e (.cm .ne (.var 3) (.var 1))) [.put 2 (.var 3) ro_s] []]
def roE (nd:List (List Nat)) (b:Nat) (ks:List Nat) (y:Option Sl):Env:=[some (.val (ndD nd)),some (.val (nI b)),some (.own (.dct (nL ks) (ks.map (cD nd b)))),y]
theorem comp_map {α:Type}{l:List α}{f g:α->D}{x:L}{it:I}{ρ:Env}(h1:evi G subC it ρ = .ok (l.map f)) (h2:∀a∈l,ev G subC x (some (.val (f a))::ρ) = .ok (g a)) (hl:l.length<=1000):ev G subC (.comp 0 x it []) ρ = .ok (.lst (l.map g)):=by
 have c:q0c (ev G subC x) (tsts G subC []) 0 ρ (l.map f) = .ok ((l.filter λ _=>true).map g):=q1D (us:=λ a=>[f a]) λ a ha=>⟨rfl,rfl,λ _=>h2 a ha⟩
 rw[q1U,h1,q00,c,q14,q00,filter_tt,if_pos (by rw[List.length_map,q0h];lia)]
theorem qK2 {k:Nat}(s:Sm k b) (hne:k≠b) (hk:∀t∈q0G nd k b,t<=1000/\k ||| 1 <<< t∈ks) (hl:(q0G nd k b).length<=1000) (e5:G 5 [ndD nd,nI k,nI b] = .ok (.lst (nL (q0G nd k b)))) :
  ev G subC ro_s (roE nd b ks (some (.val (nI k)))) = .ok (cD nd b k):=by
 generalize hρ:roE nd b ks (some (.val (nI k)))=ρ;have v0:ev G subC (.var 0) ρ = .ok (ndD nd):=by rw[<-hρ];rfl
 have v1:ev G subC (.var 1) ρ = .ok (nI b):=by rw[<-hρ];rfl
 have v3:ev G subC (.var 3) ρ = .ok (nI k):=by rw[<-hρ];rfl
 have it:evi G subC (.e (.call 5 [(.var 0),(.var 3),(.var 1)])) ρ = .ok ((q0G nd k b).map nI):=by rw[q8M,q4a v0 v3 v1 e5,q00,q2K];rfl
 have c:=comp_map (g:=λ t=>cD nd b (k ||| 1 <<< t)) (x:= .idx (.bor 3) (.op .bor (.var 4) (.op .shl (.con (.int 1)) (.var 0)))) it (λ t ht=>by
  have u0:ev G subC (.var 0) (some (.val (nI t))::ρ) = .ok (nI t):=rfl;have u4:ev G subC (.var 4) (some (.val (nI t))::ρ) = .ok (nI k):=by rw[<-hρ];rfl
  have u3:ev G subC (.bor 3) (some (.val (nI t))::ρ) = .ok (.dct (nL ks) (ks.map (cD nd b))):=by rw[<-hρ];rfl
  have s1:opD .shl (.int 1) (nI t) = .ok (nI (1 <<< t)):=qFv 1 t (by decide) (hk t ht).1;rw[q1d,u3,q00,q0O,u4,q00,q0O,q0F,q00,u0,q00,s1,q00,qDN,q00];exact q81 (cD nd b) (hk t ht).2) hl
 have e:(q0G nd k b).map (λ t=>cD nd b (k ||| 1 <<< t))=nL ((q0G nd k b).map λ t=>cnt nd b (k ||| 1 <<< t)):=by unfold nL;rw[List.map_map];rfl
 rw[ro_s,q16,evs1 c,q00,e,qLW,<-q6h s hne];rfl
theorem qHK {k:Nat}(y:Option Sl) (s:Sm k b) (hne:k≠b) (hk:∀t∈q0G nd k b,t<=1000/\k ||| 1 <<< t∈ks) (hl:(q0G nd k b).length<=1000) (hks:ks.length<1000) (hn:k∉ks) (e5:G 5 [ndD nd,nI k,nI b] = .ok (.lst (nL (q0G nd k b)))) :
  exs G subC ro_b ((roE nd b ks y).set 3 (some (.val (nI k)))) = .ok (roE nd b (ks++[k]) (some (.val (nI k)))) .nx:=by
 have e0:(roE nd b ks y).set 3 (some (.val (nI k)))=roE nd b ks (some (.val (nI k))):=rfl;have rs:=qK2 (ks:=ks) s hne hk hl e5;rw[e0];have t:tst G subC (.e (.cm .ne (.var 3) (.var 1))) (roE nd b ks (some (.val (nI k)))) = .ok true:=q0W (q0X (x:=nI k) (y:=nI b) rfl rfl (by rw[ne_n,decide_eq_false hne];rfl));have p:ex G subC (.put 2 (.var 3) ro_s) (roE nd b ks (some (.val (nI k)))) = .ok (roE nd b (ks++[k]) (some (.val (nI k)))) .nx:=by have h2:(roE nd b ks (some (.val (nI k))))[2]? = some (some (.own (.dct (nL ks) (ks.map (cD nd b))))):=rfl;have v3:ev G subC (.var 3) (roE nd b ks (some (.val (nI k)))) = .ok (nI k):=rfl;rw[qBI,h2];dsimp only;rw[rs,q05,v3,q05];show (if (nL ks).length<big then (put (k:Int) (cD nd b k) (nL ks) (ks.map (cD nd b))).go _ _ else _)=_;rw[q0Q,if_pos (by rw[q0h];lia),qCr _ hn (List.length_map _),q05];unfold roE;rw[List.map_append];rfl
 rw[ro_b,q04 (ρ':=roE nd b (ks++[k]) (some (.val (nI k)))) (by rw[q1y,t,q05,if_pos rfl,q04 p,q0C]),q0C]
theorem qCs {G:Nat->List D->R D}(e5:∀k,k<32->G 5 [ndD nd,nI k,nI b] = .ok (.lst (nL (q0G nd k b)))) (hb:b<32):∀(todo ks:List Nat) (y:Option Sl),(ks++todo).Nodup->b∈ks->(ks++todo).length<1000->(∀k∈todo,k<32/\Sm k b)->
  (∀pre k post,todo=pre++k::post->∀t∈q0G nd k b,k ||| 1 <<< t∈ks++pre)->∃y',q0k (exs G subC ro_b) 0 [3] (nL todo) (roE nd b ks y) = .ok (roE nd b (ks++todo) y') .nx
 |[],ks,y,_,_,_,_,_=>⟨y,by rw[List.append_nil];rfl⟩
 |k::todo,ks,y,hd,hbk,hl,hs,H=>by
  have e1:ks++k::todo=(ks++[k])++todo:=by simp
  have hk:=hs k List.mem_cons_self;have hn:k∉ks:=λ g=>(List.nodup_append.mp hd).2.2 k g k List.mem_cons_self rfl;have hne:k≠b:=λ e=>hn (e▸hbk);have hnx:∀t∈q0G nd k b,t<5:=λ t ht=>q7j (n:=5) hb (q15.mp ht).1;have hlx:(q0G nd k b).length<=1000:=by have:=q1Z 5 (q0G nd k b) ((q43 b).filter _) hnx;lia
  have tn:=qHK (G:=G) y hk.2 hne (λ t ht=>⟨by have:=hnx t ht;lia,by have:=H [] k todo rfl t ht;rwa [List.append_nil] at this⟩) hlx (by simp at hl;lia) hn (e5 k hk.1);obtain⟨y',e⟩:=qCs e5 hb todo (ks++[k]) (some (.val (nI k))) (e1▸hd) (List.mem_append_left _ hbk) (e1▸hl) (λ j hj=>hs j (List.mem_cons_of_mem _ hj)) (λ pre j post h t ht=>by have:=H (k::pre) j post (by rw[h];rfl) t ht;simpa using this)
  refine⟨y',?_⟩;rw[q0a,q0B,tn,q0u,e,e1]
theorem qEZ (K:Nat) (hn:nd.length<=5) (hb:b<2^nd.length) (rb:Rch nd b):∃ks:List Nat,(∀x,x∈ks↔Rch nd x/\Sm x b)/\Gm (K+5) 19 [ndD nd,nI b] = .ok (.dct (nL ks) (ks.map (cD nd b))):=by
 have h32:2^nd.length<=32:=Nat.le_trans (Nat.pow_le_pow_right (by decide) hn) (by decide);obtain⟨ks,hnd,hks,e7⟩:=qLV (nd:=nd) (b:=b) K (by lia) hb;have hlen:ks.length<=32:=Nat.le_trans (q1Z (2^nd.length) ks hnd λ x hx=>q2G ((hks x).mp hx).1) h32;obtain⟨ds,hp,hdec,er⟩:=qK1 hnd (by lia) (trs ks.length);have hmem:∀x,x∈ds↔Rch nd x/\Sm x b:=λ x=>hp.mem_iff.trans (hks x);obtain⟨rest,rfl⟩:∃rest,ds=b::rest:=by
  cases ds with
  |nil=>exact absurd ((hmem b).mpr ⟨rb,q58 b⟩) List.not_mem_nil
  |cons a rest =>
   refine⟨rest,?_⟩;have ha:a<=b:=qCT ((hmem a).mp List.mem_cons_self).2;rcases List.mem_cons.mp ((hmem b).mpr ⟨rb,q58 b⟩) with h|h
   ·rw[h]
   ·have:=(List.pairwise_cons.mp hdec).1 b h;lia
 have hnd2:(b::rest).Nodup:=hp.symm.nodup hnd;refine⟨b::rest,hmem,?_⟩;have e5:∀k,k<32->Gm (K+4) 5 [ndD nd,nI k,nI b] = .ok (.lst (nL (q0G nd k b))):=λ k _=>q7i (K+1) nd k b hb (by lia);have hl2:(b::rest).length<=32:=by rw[hp.length_eq];exact hlen
 obtain⟨y',e⟩:=qCs (nd:=nd) (b:=b) e5 (by lia) rest [b] (some (.val (nI b))) hnd2 List.mem_cons_self (by show (b::rest).length<1000;lia) (λ k hk=>by
  have:=(hmem k).mp (List.mem_cons_of_mem _ hk);exact⟨Nat.lt_of_lt_of_le (q2G this.1) h32,this.2⟩) (λ pre k post h t ht=>by
  have hk:=(hmem k).mp (List.mem_cons_of_mem _ (by rw[h];simp));have hin:=(hmem (k ||| 1 <<< t)).mpr ⟨.s hk.1 (q15.mp ht).2,q44 hk.2 ht⟩;have gt:=qHI ht;rw[h] at hin;have hin:k ||| 1 <<< t∈([b]++pre)++k::post:=by simpa using hin
  rcases List.mem_append.mp hin with g|g
  ·exact g
  ·exfalso;rcases List.mem_cons.mp g with g|g
   ·lia
   ·have hd2:(k::post).Pairwise (· > ·):=by have:(b::rest).Pairwise (· > ·):=hdec;rw[h] at this;exact (List.pairwise_append.mp (by simpa using this:((b::pre)++k::post).Pairwise (· > ·))).2.1
    have:=(List.pairwise_cons.mp hd2).1 _ g;lia)
 refine (q0s (K+4) 19 _ 2 4 [.setO 2 (.dct (.var 1) (.con (.int 1))),.forr 0 [3] (.e (.bi .sortedRev [(.call 7 [(.var 0),(.var 1)])])) ro_b,.retO 2] rfl rfl).trans ?_;generalize Gm (K+4)=GG at e e7;have s1:ex GG subC (.setO 2 (.dct (.var 1) (.con (.int 1)))) [some (.val (ndD nd)),some (.val (nI b)),none,none] = .ok (roE nd b [b] none) .nx:=by unfold roE cD;rw[List.map_singleton,q4b];rfl
 have i1:evi GG subC (.e (.bi .sortedRev [(.call 7 [(.var 0),(.var 1)])])) (roE nd b [b] none) = .ok (nL (b::rest)):=by rw[q8M,q16,evs1 (q0V (x:=ndD nd) (y:=nI b) rfl rfl e7),q00,er,q00,q2K]
 have s2:ex GG subC (.forr 0 [3] (.e (.bi .sortedRev [(.call 7 [(.var 0),(.var 1)])])) ro_b) (roE nd b [b] none) = .ok (roE nd b (b::rest) y') .nx:=by rw[q0w,i1,q05,q0a,q0B];have e0:(roE nd b [b] none).set 3 (some (.val (nI b)))=roE nd b [b] (some (.val (nI b))):=rfl;have t:tst GG subC (.e (.cm .ne (.var 3) (.var 1))) (roE nd b [b] (some (.val (nI b)))) = .ok false:=q0W (q0X (x:=nI b) (y:=nI b) rfl rfl (by rw[ne_n];simp));rw[e0,ro_b,q04 (q4P t),q0C,q0u];exact e
 refine q1m (ρ:=[some (.val (ndD nd)),some (.val (nI b)),none,none]) (ρ':=(roE nd b (b::rest) y').set 2 none) rfl ?_;rw[q04 s1,q04 s2];exact q17 rfl
end Mk
namespace Mk
open Ev
variable {G:Nat->List D->R D}{r g z:D}{ks:List Nat}
section
variable {nd:List (List Nat)}{b:Nat}
def ra_f:List S:=[.set 9 (.idx (.var 5) (.op .bor (.var 7) (.op .shl (.con (.int 1)) (.var 8)))),.ifs (.e (.cm .lt (.var 2) (.var 9))) [.app 6 (.var 8),.aug 7 .bor (.op .shl (.con (.int 1)) (.var 8)),.brk] [],.aug 2 .sub (.var 9)]
def ra_w:List S:=[.forr 0 [8] (.e (.call 5 [(.var 3),(.var 7),(.var 4)])) ra_f]
noncomputable def raE (r g:D) (nd:List (List Nat)) (b:Nat) (ks:List Nat) (N:Nat) (row:List Nat) (k:Nat) (x y:Option Sl):Env :=
 [some (.val r),some (.val g),some (.val (nI N)),some (.val (ndD nd)),some (.val (nI b)),some (.val (.dct (nL ks) (ks.map (cD nd b)))),some (.own (.lst (nL row))),some (.val (nI k)),x,y]
theorem qFL {G:Nat->List D->R D}(r g:D) (ks row:List Nat) (k:Nat) (hrow:row.length<1000):∀(ts:List Nat) (N:Nat) (x y:Option Sl),(∀t∈ts,t<=1000/\k ||| 1 <<< t∈ks)->N<(ts.map λ t=>cnt nd b (k ||| 1 <<< t)).sum->
  ∃t N' x' y',t∈ts/\N'<cnt nd b (k ||| 1 <<< t)/\(∀z,(q1o nd b (k ||| 1 <<< t))[N']? = some z->(ts.flatMap λ t=>(q1o nd b (k ||| 1 <<< t)).map (t::·))[N]? = some (t::z))/\
   q0k (exs G subC ra_f) 0 [8] (nL ts) (raE r g nd b ks N row k x y) = .ok (raE r g nd b ks N' (row++[t]) (k ||| 1 <<< t) x' y') .nx
 |[],N,x,y,_,h=>absurd h (by simp)
 |t::ts,N,x,y,ht,h=>by
  obtain⟨t1,t2⟩:=ht t List.mem_cons_self;rw[List.map_cons,List.sum_cons] at h;generalize hC:cnt nd b (k ||| 1 <<< t)=C at h;have hCl:(q1o nd b (k ||| 1 <<< t)).length=C:=hC;have s1:opD .shl (.int 1) (nI t) = .ok (nI (1 <<< t)):=qFv 1 t (by decide) t1;have e1:ex G subC (.set 9 (.idx (.var 5) (.op .bor (.var 7) (.op .shl (.con (.int 1)) (.var 8))))) (raE r g nd b ks N row k (some (.val (nI t))) y) = .ok (raE r g nd b ks N row k (some (.val (nI t))) (some (.val (nI C)))) .nx:=by generalize hρ:raE r g nd b ks N row k (some (.val (nI t))) y=ρ;have v5:ev G subC (.var 5) ρ = .ok (.dct (nL ks) (ks.map (cD nd b))):=(by rw[<-hρ];rfl);have v7:ev G subC (.var 7) ρ = .ok (nI k):=(by rw[<-hρ];rfl);have v8:ev G subC (.var 8) ρ = .ok (nI t):=(by rw[<-hρ];rfl);have l:idxD (.dct (nL ks) (ks.map (cD nd b))) (nI (k ||| 1 <<< t)) = .ok (nI C):=(by rw[<-hC];exact q81 (cD nd b) t2);rw[q0P,q1d,v5,q00,q0O,v7,q00,q0O,q0F,q00,v8,q00,s1,q00,qDN,q00,l,q05,<-hρ];rfl
  have tt:tst G subC (.e (.cm .lt (.var 2) (.var 9))) (raE r g nd b ks N row k (some (.val (nI t))) (some (.val (nI C)))) = .ok (decide (N<C)):=q0W (q0X (x:=nI N) (y:=nI C) rfl rfl (lt_n N C));rw[q0a,q0B];have e0:(raE r g nd b ks N row k x y).set 8 (some (.val (nI t)))=raE r g nd b ks N row k (some (.val (nI t))) y:=rfl;rw[e0]
  by_cases hN:N<C
  ·refine⟨t,N,some (.val (nI t)),some (.val (nI C)),List.mem_cons_self,hC▸hN,λ z hz=>?_,?_⟩
   ·rw[List.flatMap_cons,List.getElem?_append_left (by rw[List.length_map,hCl];exact hN),List.getElem?_map,hz];rfl
   ·rw[decide_eq_true hN] at tt;have a1:ex G subC (.app 6 (.var 8)) (raE r g nd b ks N row k (some (.val (nI t))) (some (.val (nI C)))) = .ok (raE r g nd b ks N (row++[t]) k (some (.val (nI t))) (some (.val (nI C)))) .nx:=by rw[qBH];show (R.ok (nI t)).go _ _=_;rw[q05];show (if (nL row).length<big then _ else _)=_;rw[q0Q,if_pos (by rw[q0h];lia)];unfold raE;rw[q78];rfl
    have a2:ex G subC (.aug 7 .bor (.op .shl (.con (.int 1)) (.var 8))) (raE r g nd b ks N (row++[t]) k (some (.val (nI t))) (some (.val (nI C)))) = .ok (raE r g nd b ks N (row++[t]) (k ||| 1 <<< t) (some (.val (nI t))) (some (.val (nI C)))) .nx:=by have g7:getV (raE r g nd b ks N (row++[t]) k (some (.val (nI t))) (some (.val (nI C)))) 7 = .ok (nI k):=rfl;have v8:ev G subC (.var 8) (raE r g nd b ks N (row++[t]) k (some (.val (nI t))) (some (.val (nI C)))) = .ok (nI t):=rfl;rw[qBG,g7,q05,q0O,q0F,q00,v8,q00,s1,q05,qBP,qDN,q05];rfl
    have a3:exs G subC ra_f (raE r g nd b ks N row k (some (.val (nI t))) y) = .ok (raE r g nd b ks N (row++[t]) (k ||| 1 <<< t) (some (.val (nI t))) (some (.val (nI C)))) .brk:=by rw[ra_f,q04 e1,q0g,q1y,tt,q05,if_pos rfl,q04 a1,q04 a2,q0g,qIM,qEp,qEp]
    rw[a3,qDF]
  ·obtain⟨t',N',x',y',h1,h2,h3,h4⟩:=qFL r g ks row k hrow ts (N-C) (some (.val (nI t))) (some (.val (nI C))) (λ u hu=>ht u (List.mem_cons_of_mem _ hu)) (by lia);refine⟨t',N',x',y',List.mem_cons_of_mem _ h1,h2,λ z hz=>?_,?_⟩
   ·rw[List.flatMap_cons,List.getElem?_append_right (by rw[List.length_map,hCl];lia),List.length_map,hCl];exact h3 z hz
   ·rw[decide_eq_false hN] at tt;have a1:ex G subC (.aug 2 .sub (.var 9)) (raE r g nd b ks N row k (some (.val (nI t))) (some (.val (nI C)))) = .ok (raE r g nd b ks (N-C) row k (some (.val (nI t))) (some (.val (nI C)))) .nx:=by have g2:getV (raE r g nd b ks N row k (some (.val (nI t))) (some (.val (nI C)))) 2 = .ok (nI N):=rfl;have v9:ev G subC (.var 9) (raE r g nd b ks N row k (some (.val (nI t))) (some (.val (nI C)))) = .ok (nI C):=rfl;rw[qBG,g2,q05,v9,q05,qBP,qIO N C (by lia),q05];rfl
    rw[ra_f,q04 e1,q04 (q4P tt),q04 a1,q0C,q0u];exact h4
theorem qHL (r g:D) (ks:List Nat) (hks:∀x,x∈ks↔Rch nd x/\Sm x b) (hb:b<32) (e5:∀k,k<32->G 5 [ndD nd,nI k,nI b] = .ok (.lst (nL (q0G nd k b)))) :
  ∀(f fuel N:Nat) (row:List Nat) (k:Nat) (x y:Option Sl),remB b k=f->f<fuel->Rch nd k->Sm k b->N<cnt nd b k->row.length+f<1000->
   ∃R N' x' y',(q1o nd b k)[N]? = some R/\q1L (tst G subC (.e (.cm .ne (.var 7) (.var 4)))) (exs G subC ra_w) fuel (raE r g nd b ks N row k x y) = .ok (raE r g nd b ks N' (row++R) b x' y') .nx:=by
 intro f
 induction f with
 |zero =>
  intro fuel N row k x y hf hfu rk s hN hrow;have e:k=b:=Classical.byContradiction λ e=>by have:=q30 s e;unfold remB at hf;lia
  subst e;obtain⟨q,rfl⟩:∃q,fuel=q+1:=⟨fuel-1,by lia⟩
  rw[q4b] at hN;have:N=0:=by lia
  subst this;refine⟨[],0,x,y,by rw[q7y];rfl,?_⟩;have t:tst G subC (.e (.cm .ne (.var 7) (.var 4))) (raE r g nd k ks 0 row k x y) = .ok false:=q0W (q0X (x:=nI k) (y:=nI k) rfl rfl (by rw[ne_n];simp));rw[q2Z,t,q05,if_neg (by simp),List.append_nil]
 |succ f ih =>
  intro fuel N row k x y hf hfu rk s hN hrow;have e:k≠b:=λ e=>by rw[e,qA1] at hf;cases hf
  obtain⟨q,rfl⟩:∃q,fuel=q+1:=⟨fuel-1,by lia⟩
  have hN':=hN;rw[q6h s e] at hN';obtain⟨t,N1,x1,y1,h1,h2,h3,h4⟩:=qFL (G:=G) r g ks row k (by lia) (q0G nd k b) N x y (λ t ht=>⟨by have:=q7j (n:=5) hb (q15.mp ht).1;lia,(hks _).mpr ⟨.s rk (q15.mp ht).2,q44 s ht⟩⟩) hN';have hr:=q6g s h1;obtain⟨R,N2,x2,y2,h5,h6⟩:=ih q N1 (row++[t]) (k ||| 1 <<< t) x1 y1 (by lia) (by lia) (.s rk (q15.mp h1).2) (q44 s h1) h2 (by simp;lia);refine⟨t::R,N2,x2,y2,by rw[q7z s e];exact h3 R h5,?_⟩;have tt:tst G subC (.e (.cm .ne (.var 7) (.var 4))) (raE r g nd b ks N row k x y) = .ok true:=q0W (q0X (x:=nI k) (y:=nI b) rfl rfl (by rw[ne_n,decide_eq_false e];rfl));have i1:evi G subC (.e (.call 5 [(.var 3),(.var 7),(.var 4)])) (raE r g nd b ks N row k x y) = .ok (nL (q0G nd k b)):=by rw[q8M,q4a (x:=ndD nd) (y:=nI k) (z:=nI b) rfl rfl rfl (e5 k (Nat.lt_of_le_of_lt (qCT s) hb)),q00,q2K]
  have w1:exs G subC ra_w (raE r g nd b ks N row k x y) = .ok (raE r g nd b ks N1 (row++[t]) (k ||| 1 <<< t) x1 y1) .nx:=by rw[ra_w,q04 (ρ':=raE r g nd b ks N1 (row++[t]) (k ||| 1 <<< t) x1 y1) (by rw[q0w,i1,q05,h4]),q0C]
  rw[q2Z,tt,q05,if_pos rfl,w1,q0u,h6,List.append_assoc];rfl
def ra_6:S:= .setO 6 (.lst [])
def ra_5:S:= .ifs (.or (.e (.cm .lt (.var 2) (.con (.int 0)))) (.e (.cm .ge (.var 2) (.idx (.var 5) (.con (.int 0)))))) [.raise 4] []
def ra_l:List S:=[.expr (.call 13 [(.var 0),(.var 1)]),.set 3 (.call 3 [(.var 0)]),.set 4 (.call 0 [(.var 1)]),.set 5 (.call 19 [(.var 3),(.var 4)]),ra_5,ra_6,.set 7 (.con (.int 0)),.whl (.e (.cm .ne (.var 7) (.var 4))) ra_w,.retO 6]
theorem qK3:q1P=ra_l:=rfl
def raS (r g z:D) (nd:List (List Nat)) (b:Nat) (ks:List Nat):Env:=[some (.val r),some (.val g),some (.val z),some (.val (ndD nd)),some (.val (nI b)),some (.val (.dct (nL ks) (ks.map (cD nd b)))),none,none,none,none]
theorem qA4 (e13:G 13 [r,g] = .ok .non) (e3:G 3 [r] = .ok (ndD nd)) (e0:G 0 [g] = .ok (nI b)) (e19:G 19 [ndD nd,nI b] = .ok (.dct (nL ks) (ks.map (cD nd b)))) :
  exs G subC ra_l [some (.val r),some (.val g),some (.val z),none,none,none,none,none,none,none]=exs G subC [ra_5,ra_6,.set 7 (.con (.int 0)),.whl (.e (.cm .ne (.var 7) (.var 4))) ra_w,.retO 6] (raS r g z nd b ks):=by
 have s1:ex G subC (.expr (.call 13 [(.var 0),(.var 1)])) [some (.val r),some (.val g),some (.val z),none,none,none,none,none,none,none] = .ok [some (.val r),some (.val g),some (.val z),none,none,none,none,none,none,none] .nx:=by rw[q8O,q0V (x:=r) (y:=g) rfl rfl e13,q05]
 have s2:ex G subC (.set 3 (.call 3 [(.var 0)])) [some (.val r),some (.val g),some (.val z),none,none,none,none,none,none,none] = .ok [some (.val r),some (.val g),some (.val z),some (.val (ndD nd)),none,none,none,none,none,none] .nx:=by rw[q0P,q1G,evs1 (x:=r) rfl,q00,e3,q05];rfl
 have s3:ex G subC (.set 4 (.call 0 [(.var 1)])) [some (.val r),some (.val g),some (.val z),some (.val (ndD nd)),none,none,none,none,none,none] = .ok [some (.val r),some (.val g),some (.val z),some (.val (ndD nd)),some (.val (nI b)),none,none,none,none,none] .nx:=by rw[q0P,q1G,evs1 (x:=g) rfl,q00,e0,q05];rfl
 have s4:ex G subC (.set 5 (.call 19 [(.var 3),(.var 4)])) [some (.val r),some (.val g),some (.val z),some (.val (ndD nd)),some (.val (nI b)),none,none,none,none,none] = .ok (raS r g z nd b ks) .nx:=by rw[q0P,q0V (x:=ndD nd) (y:=nI b) rfl rfl e19,q05];rfl
 rw[ra_l,q04 s1,q04 s2,q04 s3,q04 s4]
theorem qCt (h0:0∈ks):ev G subC (.idx (.var 5) (.con (.int 0))) (raS r g z nd b ks) = .ok (nI (cnt nd b 0)):=by have v5:ev G subC (.var 5) (raS r g z nd b ks) = .ok (.dct (nL ks) (ks.map (cD nd b))):=rfl;rw[q1d,v5,q00,q0F,q00];exact q81 (cD nd b) (i:=0) h0
theorem qK4 {N:Nat}(e13:G 13 [r,g] = .ok .non) (e3:G 3 [r] = .ok (ndD nd)) (e0:G 0 [g] = .ok (nI b)) (e19:G 19 [ndD nd,nI b] = .ok (.dct (nL ks) (ks.map (cD nd b))))
  (hks:∀x,x∈ks↔Rch nd x/\Sm x b) (hb:b<32) (rb:Rch nd b) (e5:∀k,k<32->G 5 [ndD nd,nI k,nI b] = .ok (.lst (nL (q0G nd k b)))) (hN:N<cnt nd b 0) :
  ∃R,(q1o nd b 0)[N]? = some R/\Ev.run G subC 10 q1P [r,g,nI N] = .ok (.lst (nL R)):=by
 have h0:0∈ks:=(hks 0).mpr ⟨.z,q2R _⟩;have hrem:remB b 0<=5:=by unfold remB;have:=q2h (m:=b) hb;lia
 obtain⟨R,N',x',y',h1,h2⟩:=qHL (G:=G) r g ks hks hb e5 (remB b 0) 100000 N [] 0 none none rfl (by lia) .z (q2R _) hN (by simp;lia);refine⟨R,h1,?_⟩;refine q1m (ρ:=[some (.val r),some (.val g),some (.val (nI N)),none,none,none,none,none,none,none]) (ρ':=(raE r g nd b ks N' R b x' y').set 6 none) rfl ?_;rw[qK3,qA4 e13 e3 e0 e19];have t:tst G subC (.or (.e (.cm .lt (.var 2) (.con (.int 0)))) (.e (.cm .ge (.var 2) (.idx (.var 5) (.con (.int 0)))))) (raS r g (nI N) nd b ks) = .ok false :=
  qEW (q0W (q0X (x:=nI N) (y:=nI 0) rfl rfl (by rw[lt_n];simp))) (q0W (q0X (x:=nI N) rfl (qCt h0) (by rw[ge_n,decide_eq_false (by lia)])))
 have s6:ex G subC ra_6 (raS r g (nI N) nd b ks) = .ok ((raS r g (nI N) nd b ks).set 6 (some (.own (.lst [])))) .nx:=by rw[ra_6,q63,q0y (q0Z _) (by simp),q05]
 have s7:ex G subC (.set 7 (.con (.int 0))) ((raS r g (nI N) nd b ks).set 6 (some (.own (.lst [])))) = .ok (raE r g nd b ks N [] 0 none none) .nx:=by rw[q0P,q0F,q05];rfl
 have s8:ex G subC (.whl (.e (.cm .ne (.var 7) (.var 4))) ra_w) (raE r g nd b ks N [] 0 none none) = .ok (raE r g nd b ks N' R b x' y') .nx:=by rw[qBJ,h2];rfl
 rw[ra_5,q04 (q4P t),q04 s6,q04 s7,q04 s8];exact q17 rfl
theorem qLX (hz:z = .int (-1)\/z=nI (cnt nd b 0)) (e13:G 13 [r,g] = .ok .non) (e3:G 3 [r] = .ok (ndD nd)) (e0:G 0 [g] = .ok (nI b)) (e19:G 19 [ndD nd,nI b] = .ok (.dct (nL ks) (ks.map (cD nd b))))
  (hks:∀x,x∈ks↔Rch nd x/\Sm x b):Ev.run G subC 10 q1P [r,g,z] = .err 4:=by
 have h0:0∈ks:=(hks 0).mpr ⟨.z,q2R _⟩;refine qCi (ρ:=[some (.val r),some (.val g),some (.val z),none,none,none,none,none,none,none]) (ρ':=raS r g z nd b ks) rfl ?_;rw[qK3,qA4 e13 e3 e0 e19];have t:tst G subC (.or (.e (.cm .lt (.var 2) (.con (.int 0)))) (.e (.cm .ge (.var 2) (.idx (.var 5) (.con (.int 0)))))) (raS r g z nd b ks) = .ok true:=by
  rcases hz with rfl|rfl
  ·rw[q5S,q0W (q0X (x:= .int (-1)) (y:= .int 0) (r:= .ok (.bl true)) rfl rfl (by rw[lt_i];rfl)),q00,if_pos rfl]
  ·rw[q5S,q0W (q0X (x:=nI (cnt nd b 0)) (y:=nI 0) rfl rfl (lt_n _ _)),q00,if_neg (by simp),q0W (q0X (x:=nI (cnt nd b 0)) rfl (qCt h0) (by rw[ge_n,decide_eq_true (Nat.le_refl _)]))]
 refine q5E ?_;rw[ra_5,q1y,t,q05,if_pos rfl,q5E (q95 4 _)]
end
end Mk
namespace Mk
open Ev
variable {b:Nat}{nd:List (List Nat)}
variable {n:Nat}{ws:List Wn}{G:Nat->List D->R D}
theorem qCu {ks:List Nat}(h:ks.Nodup):q1F (nL ks)=nL (q02 (q01 0 ks)):=by
 have h1:Srt (q1F (nL ks)):=q1R λ d hd=>q0S.mp (q96 ks) d hd;have h2:=q0d (nL ks);obtain⟨ss,hm⟩:∃ss:List Nat,q1F (nL ks)=nL ss:=qK1.lift (q1F (nL ks)) λ d hd=>by obtain⟨a,_,rfl⟩:=List.mem_map.mp (h2.mem_iff.mp hd);exact⟨a,rfl⟩
 have hp:ss.Perm ks:=by
  rw[hm] at h2;have:=h2.map λ d=>match d with|D.int i=>i.toNat|_=>0
  unfold nL at this;rw[List.map_map,List.map_map] at this;simpa[Function.comp_def,nI] using this
 have asc:ss.Pairwise (· < ·):=by
  have h3:(nL ss).Pairwise (λ a b=>ltb b a=false):=by rw[<-hm];exact h1
  unfold nL at h3;rw[List.pairwise_map] at h3;refine (h3.and (hp.symm.nodup h)).imp λ {a b} hab=>?_;have e:ltb (nI b) (nI a)=decide ((b:Int)<a):=by simp[nI,ltb]
  have:=hab.1;rw[e] at this;have:=of_decide_eq_false this;have:=hab.2;lia
 rw[hm];congr 1;refine q5F asc (q6f _) λ x=>?_;rw[q09,q1Q,decide_eq_true_eq];exact hp.mem_iff
theorem qEa {ks:List Nat}(h:ks.Nodup) (hl:ks.length<64):biD subC .sorted [.lst (nL ks)] = .ok (.lst (nL (q02 (q01 0 ks)))):=by rw[qBQ,q2K,q00,qCq h hl,if_pos rfl,qCu h]
def ddN:List Nat->List Nat
 |[]=>[]
 |x::l=>if x∈l then ddN l else x::ddN l
theorem q6i:∀{l:List Nat}{x:Nat},x∈ddN l↔x∈l
 |[],x=>Iff.rfl
 |y::l,x=>by
  unfold ddN
  by_cases h:y∈l
  ·rw[if_pos h,q6i,List.mem_cons];exact⟨.inr,λ g=>g.elim (λ e=>e▸h) id⟩
  ·rw[if_neg h,List.mem_cons,List.mem_cons,q6i]
theorem q3d:∀l:List Nat,(ddN l).Nodup
 |[]=>List.nodup_nil
 |y::l=>by
  unfold ddN
  by_cases h:y∈l
  ·rw[if_pos h];exact q3d l
  ·rw[if_neg h];exact List.nodup_cons.mpr ⟨λ g=>h (q6i.mp g),q3d l⟩
theorem qCv:∀l:List Nat,(ddN l).length<=l.length
 |[]=>Nat.le_refl _
 |y::l=>by
  unfold ddN;have:=qCv l
  by_cases h:y∈l
  ·rw[if_pos h,List.length_cons];lia
  ·rw[if_neg h,List.length_cons,List.length_cons];lia
theorem q8n:∀l:List Nat,dedup (nL l)=nL (ddN l)
 |[]=>rfl
 |y::l=>by
  have e:(nL l).any (eqb (nI y))=decide (y∈l):=by
   rw[Bool.eq_iff_iff,List.any_eq_true,decide_eq_true_eq];constructor
   ·rintro⟨d,hd,he⟩;obtain⟨a,ha,rfl⟩:=List.mem_map.mp hd;rw[(qBL y a).mp ((q0Y (q8P y) (q8P a)).mp he)];exact ha
   ·intro h;exact⟨nI y,List.mem_map.mpr ⟨y,h,rfl⟩,(q0Y (q8P y) (q8P y)).mpr rfl⟩
  rw[q0a,dedup,e,ddN]
  by_cases h:y∈l
  ·rw[decide_eq_true h,if_pos rfl,if_pos h];exact q8n l
  ·rw[decide_eq_false h,if_neg (by simp),if_neg h,q0a,q8n l]
theorem q8o (l:List Nat) (hl:l.length<64):biD subC .sortedSet [.lst (nL l)] = .ok (.lst (nL (q02 (q01 0 l)))):=by
 have e:q01 0 (ddN l)=q01 0 l:=Nat.eq_of_testBit_eq λ i=>by rw[q1Q,q1Q,Bool.eq_iff_iff,decide_eq_true_eq,decide_eq_true_eq,q6i]
 have h:=qCv l;rw[q4E];show (R.ok (nL l)).bind _=_;rw[q00,q96,qIP,q8n,qCq (q3d l) (by lia),q0Q,decide_eq_true (by lia),qCu (q3d l),e];rfl
def rowD (L:List (List Nat)):D:= .lst (L.map λ r=> .lst (nL r))
def lr_c:L:= .comp 0 (.op .add (.var 6) (.lst [(.var 0)])) (.e (.var 1)) [(.e (.cm .mem (.var 0) (.call 27 [(.var 1),(.bi .tuple [(.bi .sorted [(.var 6)])])])))]
def lr_i:List S:=[.set 4 (.op .add (.var 4) lr_c)]
def lr_o:List S:=[.set 4 (.lst []),.forr 0 [5] (.e (.var 2)) lr_i,.set 2 (.var 4)]
def lrE (n:Nat) (ws:List Wn) (b:Nat) (L:D) (k later row:Option Sl):Env:=[some (.val (rD n ws)),some (.val (tD b)),some (.val L),k,later,row]
theorem qHM (g:Good n ws) (e27:∀m,G 27 [rD n ws,tD m] = .ok (.lst (nL (q0G (nds n ws) m (2^n-1))))) (hb:b<32) {L:D}{k l:Option Sl}{r:List Nat}(hr:r.Nodup) (hrl:r.length<60) :
  ev G subC lr_c (lrE n ws b L k l (some (.val (.lst (nL r))))) = .ok (.lst ((q0G (nds n ws) (q01 0 r) b).map λ t=> .lst (nL (r++[t])))):=by
 generalize hρ:lrE n ws b L k l (some (.val (.lst (nL r))))=ρ;have it:evi G subC (.e (.var 1)) ρ = .ok ((q02 b).map nI):=by rw[<-hρ];rfl
 have c:q0c (ev G subC (.op .add (.var 6) (.lst [(.var 0)]))) (tsts G subC [(.e (.cm .mem (.var 0) (.call 27 [(.var 1),(.bi .tuple [(.bi .sorted [(.var 6)])])])))]) 0 ρ ((q02 b).map nI) = .ok (((q02 b).filter (mayL (nds n ws) (q01 0 r))).map λ t=> .lst (nL (r++[t]))) :=
  q1D (us:=λ x=>[nI x]) λ t ht=>by
   have u0:ev G subC (.var 0) (some (.val (nI t))::ρ) = .ok (nI t):=rfl;have u1:ev G subC (.var 1) (some (.val (nI t))::ρ) = .ok (rD n ws):=(by rw[<-hρ];rfl);have u6:ev G subC (.var 6) (some (.val (nI t))::ρ) = .ok (.lst (nL r)):=(by rw[<-hρ];rfl);have s:ev G subC (.bi .tuple [(.bi .sorted [(.var 6)])]) (some (.val (nI t))::ρ) = .ok (tD (q01 0 r)):=by rw[q16,evs1 (x:= .lst (nL (q02 (q01 0 r)))) (by rw[q16,evs1 u6,q00,qEa hr (by lia)]),q00,q1s];rfl
   refine⟨rfl,?_,λ _=>?_⟩
   ·show tsts G subC _ (some (.val (nI t))::ρ)=_;rw[q1x,q0W (q0X u0 (q0V u1 s (e27 _)) (qCj t _)),q00,q2Y,q6a g];cases mayL (nds n ws) (q01 0 r) t<;>rfl
   ·show ev G subC _ (some (.val (nI t))::ρ)=_;rw[q0O,u6,q00,q0y (evs1 u0) (by simp),q00];unfold opD;dsimp only[addD,lstD];rw[if_pos (by rw[q0Q,q0h];simp;lia),q78];rfl
 have hl:(q02 b).length<=5:=q2h hb;rw[lr_c,q1U,it,q00,c,q14,q00,if_pos (by rw[List.length_map,q0h];have:=List.length_filter_le (mayL (nds n ws) (q01 0 r)) (q02 b);lia)];rfl
theorem qA5 (hb:b<32) (k:Nat):(q0G nd k b).length<=5:=Nat.le_trans (List.length_filter_le _ _) (q2h hb)
theorem qA6 {nd:List (List Nat)}{b:Nat}(hb:b<32):∀L:List (List Nat),(q31 nd b L).length<=5*L.length
 |[]=>Nat.le_refl _
 |r::L=>by have h:=qA6 (nd:=nd) hb L;unfold q31 at h |-;rw[List.flatMap_cons,List.length_append,List.length_map,List.length_cons];have:=qA5 (nd:=nd) hb (q01 0 r);lia
theorem qA7 (g:Good n ws) (e27:∀m,G 27 [rD n ws,tD m] = .ok (.lst (nL (q0G (nds n ws) m (2^n-1))))) {b:Nat}(hb:b<32) {L:D}{k:Option Sl}:∀(Ls acc:List (List Nat)) (y:Option Sl),(∀r∈Ls,r.Nodup/\r.length<60)->acc.length+5*Ls.length<=100000->
  ∃y',q0k (exs G subC lr_i) 0 [5] (Ls.map λ r=> .lst (nL r)) (lrE n ws b L k (some (.val (rowD acc))) y) = .ok (lrE n ws b L k (some (.val (rowD (acc++q31 (nds n ws) b Ls)))) y') .nx
 |[],acc,y,_,_=>⟨y,by show RS.ok _ _=_;unfold q31;simp⟩
 |r::Ls,acc,y,h,hl=>by
  have hr:=h r List.mem_cons_self;have nl:=qA5 (nd:=nds n ws) hb (q01 0 r);rw[List.length_cons] at hl;obtain⟨y',e⟩:=qA7 g e27 hb (L:=L) (k:=k) Ls (acc++(q0G (nds n ws) (q01 0 r) b).map λ t=>r++[t]) (some (.val (.lst (nL r)))) (λ q hq=>h q (List.mem_cons_of_mem _ hq)) (by simp;lia);refine⟨y',?_⟩;rw[List.map_cons,q0B];have e0:(lrE n ws b L k (some (.val (rowD acc))) y).set 5 (some (.val (.lst (nL r))))=lrE n ws b L k (some (.val (rowD acc))) (some (.val (.lst (nL r)))):=rfl;have v4:ev G subC (.var 4) (lrE n ws b L k (some (.val (rowD acc))) (some (.val (.lst (nL r))))) = .ok (rowD acc):=rfl;have a:opD .add (rowD acc) (.lst ((q0G (nds n ws) (q01 0 r) b).map λ t=> .lst (nL (r++[t])))) = .ok (rowD (acc++(q0G (nds n ws) (q01 0 r) b).map λ t=>r++[t])):=by unfold opD rowD;dsimp only[addD,lstD];rw[if_pos (by rw[List.length_map,List.length_map,q0h];lia),List.map_append,List.map_map];rfl
  have s:ex G subC (.set 4 (.op .add (.var 4) lr_c)) (lrE n ws b L k (some (.val (rowD acc))) (some (.val (.lst (nL r))))) = .ok (lrE n ws b L k (some (.val (rowD (acc++(q0G (nds n ws) (q01 0 r) b).map λ t=>r++[t])))) (some (.val (.lst (nL r))))) .nx:=by rw[q0P,q0O,v4,q00,qHM g e27 hb hr.1 hr.2,q00,a,q05];rfl
  rw[e0,lr_i,q04 s,q0C,q0u];refine e.trans ?_;unfold q31;rw[List.flatMap_cons,List.append_assoc]
theorem qHN {L:List (List Nat)}(h:∀r∈L,r.Nodup):∀r∈q31 nd b L,r.Nodup:=λ r hr=>by obtain⟨q,hq,hr⟩:=List.mem_flatMap.mp hr;obtain⟨t,ht,rfl⟩:=List.mem_map.mp hr;have:=q5A (q15.mp ht).2;rw[q1Q,decide_eq_false_iff_not] at this;exact List.nodup_append.mpr ⟨h q hq,by simp,λ a ha c hc e=>by rw[List.mem_singleton] at hc;subst hc e;exact this ha⟩
theorem qHO {i:Nat}{L:List (List Nat)}(h:∀r∈L,r.length=i):∀r∈q31 nd b L,r.length=i+1:=λ r hr=>by obtain⟨q,hq,hr⟩:=List.mem_flatMap.mp hr;obtain⟨t,ht,rfl⟩:=List.mem_map.mp hr;rw[List.length_append,h q hq];rfl
theorem qA8 (g:Good n ws) (e27:∀m,G 27 [rD n ws,tD m] = .ok (.lst (nL (q0G (nds n ws) m (2^n-1))))) {b:Nat}(hb:b<32):∀(is:List D) (L:List (List Nat)) (i:Nat) (x y z:Option Sl),(∀r∈L,r.Nodup)->(∀r∈L,r.length=i)->i+is.length<=5->L.length<=5^i->(∀d∈is,∃j:Nat,d=nI j)->
  ∃x' y' z',q0k (exs G subC lr_o) 0 [3] is (lrE n ws b (rowD L) x y z) = .ok (lrE n ws b (rowD (q80 (nds n ws) b is.length L)) x' y' z') .nx
 |[],L,i,x,y,z,_,_,_,_,_=>⟨x,y,z,rfl⟩
 |d::is,L,i,x,y,z,h1,h2,h3,h4,h5=>by
  obtain⟨j,rfl⟩:=h5 d List.mem_cons_self;rw[List.length_cons] at h3;have hp:5^i<=5^4:=Nat.pow_le_pow_right (by decide) (by lia);obtain⟨z1,e⟩:=qA7 g e27 hb (L:=rowD L) (k:=some (.val (nI j))) L [] z (λ r hr=>⟨h1 r hr,by have:=h2 r hr;lia⟩) (by simp;lia);obtain⟨x',y',z',e2⟩:=qA8 g e27 hb is (q31 (nds n ws) b L) (i+1) (some (.val (nI j))) (some (.val (rowD (q31 (nds n ws) b L)))) z1 (qHN h1) (qHO h2) (by lia) (by have:=qA6 (nd:=nds n ws) hb L;rw[Nat.pow_succ];lia) (λ d hd=>h5 d (List.mem_cons_of_mem _ hd));refine⟨x',y',z',?_⟩;rw[q0B];have e0:(lrE n ws b (rowD L) x y z).set 3 (some (.val (nI j)))=lrE n ws b (rowD L) (some (.val (nI j))) y z:=rfl;have s1:ex G subC (.set 4 (.lst [])) (lrE n ws b (rowD L) (some (.val (nI j))) y z) = .ok (lrE n ws b (rowD L) (some (.val (nI j))) (some (.val (rowD []))) z) .nx:=by rw[q0P,q0y (q0Z _) (by simp),q05];rfl
  have s2:ex G subC (.forr 0 [5] (.e (.var 2)) lr_i) (lrE n ws b (rowD L) (some (.val (nI j))) (some (.val (rowD []))) z) = .ok (lrE n ws b (rowD L) (some (.val (nI j))) (some (.val (rowD (q31 (nds n ws) b L)))) z1) .nx:=by have i1:evi G subC (.e (.var 2)) (lrE n ws b (rowD L) (some (.val (nI j))) (some (.val (rowD []))) z) = .ok (L.map λ r=> .lst (nL r)):=rfl;rw[q0w,i1,q05];exact e
  have s3:ex G subC (.set 2 (.var 4)) (lrE n ws b (rowD L) (some (.val (nI j))) (some (.val (rowD (q31 (nds n ws) b L)))) z1) = .ok (lrE n ws b (rowD (q31 (nds n ws) b L)) (some (.val (nI j))) (some (.val (rowD (q31 (nds n ws) b L)))) z1) .nx:=rfl;rw[e0,lr_o,q04 s1,q04 s2,q04 s3,q0C,q0u];exact e2
theorem qHP (g:Good n ws) (k:Nat) (hb:b<32):Gm (k+2) 30 [rD n ws,tD b] = .ok (rowD (q1o (nds n ws) b 0)):=by
 refine (q0s (k+1) 30 _ 2 6 [.set 2 (.lst [(.lst [])]),.forr 0 [3] (.rng [(.bi .len [(.var 1)])]) lr_o,.ret (.var 2)] rfl rfl).trans ?_;have e27:∀m,Gm (k+1) 27 [rD n ws,tD m] = .ok (.lst (nL (q0G (nds n ws) m (2^n-1)))):=λ m=>q8k g k m;generalize Gm (k+1)=GG at e27 |-;have hl:=q2h hb;obtain⟨x',y',z',e⟩:=qA8 (G:=GG) g e27 hb (nL (List.range (q02 b).length)) [[]] 0 none none none (by simp) (by simp) (by rw[q0Q,List.length_range];lia) (by simp) (λ d hd=>by obtain⟨j,_,rfl⟩:=List.mem_map.mp hd;exact⟨j,rfl⟩);rw[q0Q,List.length_range,q8m] at e;have s1:ex GG subC (.set 2 (.lst [(.lst [])])) [some (.val (rD n ws)),some (.val (tD b)),none,none,none,none] = .ok (lrE n ws b (rowD [[]]) none none none) .nx:=by rw[q0P,q0y (evs1 (q0y (q0Z _) (by simp))) (by simp),q05];rfl
 have i1:evi GG subC (.rng [(.bi .len [(.var 1)])]) (lrE n ws b (rowD [[]]) none none none) = .ok (nL (List.range (q02 b).length)):=by have v1:ev GG subC (.var 1) (lrE n ws b (rowD [[]]) none none none) = .ok (.tup (nL (q02 b))):=rfl;rw[q0l,evs1 (x:=nI (q02 b).length) (by rw[q16,evs1 v1,q00];show R.ok (nI (nL (q02 b)).length)=_;rw[q0Q]),q00,q2F _ (by lia)]
 have s2:ex GG subC (.forr 0 [3] (.rng [(.bi .len [(.var 1)])]) lr_o) (lrE n ws b (rowD [[]]) none none none) = .ok (lrE n ws b (rowD (q1o (nds n ws) b 0)) x' y' z') .nx:=by rw[q0w,i1,q05,e]
 refine q1m (ρ:=[some (.val (rD n ws)),some (.val (tD b)),none,none,none,none]) (ρ':=lrE n ws b (rowD (q1o (nds n ws) b 0)) x' y' z') rfl ?_;rw[q04 s1,q04 s2];exact q17 rfl
end Mk
namespace Mk
open Ev
variable {n:Nat}{ws:List Wn}{G:Nat->List D->R D}
theorem qAY {s:D}{M:Nat}(hM:M<=5) (d:Draw G s):∃(n:Nat) (ws:List Wn),Good n ws/\Ev.run G subC 9 q1k [s,nI 0,nI M] = .ok (rD n ws):=by
 obtain⟨N,m⟩:=d.mix 0;have hn:N % (M+1)<=5:=by have:=Nat.mod_lt N (Nat.succ_pos M);lia
 generalize hN:N % (M+1)=n at hn;obtain⟨vs,t,o,x,y,hv,hvl,e⟩:=qA0 (M:=M) (n:=n) d hn (List.range n) [] none none none none (λ u hu=>List.mem_range.mp hu) (by simp;lia);rw[List.length_range] at hvl;obtain⟨ws,hg,es⟩:=qEU hn hv (by lia);refine⟨n,ws,hg,?_⟩;have e1:ex G subC qEJ [some (.val s),some (.val (nI 0)),some (.val (nI M)),none,none,none,none,none,none] = .ok [some (.val s),some (.val (nI 0)),some (.val (nI M)),some (.val (nI n)),none,none,none,none,none] .nx:=by
  have v0:ev G subC (.var 0) [some (.val s),some (.val (nI 0)),some (.val (nI M)),none,none,none,none,none,none] = .ok s:=rfl;have v1:ev G subC (.var 1) [some (.val s),some (.val (nI 0)),some (.val (nI M)),none,none,none,none,none,none] = .ok (nI 0):=rfl;have v2:ev G subC (.var 2) [some (.val s),some (.val (nI 0)),some (.val (nI M)),none,none,none,none,none,none] = .ok (nI M):=rfl;have h2:opD .add (nI M) (.int 1) = .ok (nI (M+1)):=add_n M 1;have h3:opD .mod (nI N) (nI (M+1)) = .ok (nI n):=by rw[qAJ N (M+1) (Nat.succ_pos M),hN]
  rw[qEJ,q0P,q0O,q0V v0 v1 m,q00,q0O,v2,q00,q0F,q00,h2,q00,h3,q05];rfl
 have e2:ex G subC (.setO 4 (.lst [])) [some (.val s),some (.val (nI 0)),some (.val (nI M)),some (.val (nI n)),none,none,none,none,none] = .ok (ruE2 M s n [] none none none none) .nx:=by rw[q63,q0y (q0Z _) (by simp),q05];rfl
 have e3:ex G subC (.forr 0 [5] (.rng [(.var 3)]) q3w) (ruE2 M s n [] none none none none) = .ok (ruE2 M s n vs t o x y) .nx:=by rw[q0w,q0l,evs1 (G:=G) (x:=nI n) rfl,q00,q2F n (by lia),q05,e];rfl
 have e4:ex G subC (.ret (.tup [(.var 3),(.bi .sortedSet [(.bor 4)])])) (ruE2 M s n vs t o x y) = .ok (ruE2 M s n vs t o x y) (.ret (rD n ws)):=by have v3:ev G subC (.var 3) (ruE2 M s n vs t o x y) = .ok (nI n):=rfl;have v4:ev G subC (.bor 4) (ruE2 M s n vs t o x y) = .ok (.lst (vs.map wD)):=rfl;rw[q77,q2S (evs2 v3 (by rw[q16,evs1 v4,q00,es])) (by simp),q05];rfl
 refine q1m (ρ:=[some (.val s),some (.val (nI 0)),some (.val (nI M)),none,none,none,none,none,none]) (ρ':=ruE2 M s n vs t o x y) rfl (l:=q1k) ?_;show exs G subC [qEJ,.setO 4 (.lst []),.forr 0 [5] (.rng [(.var 3)]) q3w,.ret (.tup [(.var 3),(.bi .sortedSet [(.bor 4)])])] _=_;rw[q04 e1,q04 e2,q04 e3];exact q17 e4
theorem qEb (k:Nat) {M:Nat}(hM:M<=5) (zs:List Int):∃(n:Nat) (ws:List Wn),Good n ws/\Gm (k+4) 25 [.lst (iL zs),nI 0,nI M] = .ok (rD n ws):=by obtain⟨n,ws,hg,h⟩:=qAY hM (qJz k zs);exact⟨n,ws,hg,(q0s (k+3) 25 _ 3 9 q1k rfl rfl).trans h⟩
section
variable {r h w N a b d:D}{c:Nat}
theorem qK5 {t:Bool}(e:G 14 [r,h] = .ok (.bl t)):Ev.run G subC 2 q0N [r,h]=if t=true then .ok .non else .err 2:=by cases t<;>simp[Ev.run,q0N,e]
theorem qFM (e:G 14 [r,h] = .err c):Ev.run G subC 2 q0N [r,h] = .err c:=by simp[Ev.run,q0N,e]
theorem qLY {K V:List D}(e13:G 13 [r,h] = .ok .non) (e3:G 3 [r] = .ok N) (e0:G 0 [h] = .ok a) (e19:G 19 [N,a] = .ok (.dct K V)) (e:look 0 K V = .ok d):Ev.run G subC 2 q1C [r,h] = .ok d:=by have e':idxD (.dct K V) (.int 0) = .ok d:=e;simp[Ev.run,q1C,e13,e3,e0,e19,e']
theorem qK6 (e13:G 13 [r,h] = .err c):Ev.run G subC 2 q1C [r,h] = .err c:=by simp[Ev.run,q1C,e13]
theorem qK7 (e13:G 13 [r,h] = .err c):Ev.run G subC 10 q1P [r,h,w] = .err c:=by simp[Ev.run,q1P,e13]
end
section
variable (g:Good n ws)
include g
theorem qCw (k:Nat) {m:Nat}(hm:m∈due n ws):Gm (k+8) 13 [rD n ws,tD m] = .ok .non:=by have hr:=(q27 g m).mp hm;have hlt:=q2G hr;rw[q1l] at hlt;obtain⟨c,hc,e⟩:=q4N g k m hlt;have:c=m:=q2z hc.2.1 (hc.2.2 m hr (q58 m));rw[this,decide_eq_true rfl] at e;exact (q0s (k+7) 13 _ 2 2 q0N rfl rfl).trans ((qK5 e).trans (if_pos rfl))
theorem qEc (k:Nat) {m:Nat}(hlt:m<2^n) (hm:m∉due n ws):Gm (k+8) 13 [rD n ws,tD m] = .err 2:=by obtain⟨c,hc,e⟩:=q4N g k m hlt;have:¬c=m:=λ z=>hm ((q27 g m).mpr (z▸hc.1));rw[decide_eq_false this] at e;exact (q0s (k+7) 13 _ 2 2 q0N rfl rfl).trans ((qK5 e).trans (if_neg (by simp)))
theorem qCx (k:Nat) {zs:List Int}(hz:q0i n (-1) zs=false):Gm (k+8) 13 [rD n ws,.tup (iL zs)] = .err 2:=by
 have h12:Gm (k+5) 12 [rD n ws,.tup (iL zs)] = .err 2:=by rw[q4M g,hz];rfl
 have h15:Gm (k+6) 15 [rD n ws,.tup (iL zs)] = .err 2:=(q0s (k+5) 15 _ 2 2 q4K rfl rfl).trans (e_20 h12);have h14:Gm (k+7) 14 [rD n ws,.tup (iL zs)] = .err 2:=(q0s (k+6) 14 _ 2 2 q1B rfl rfl).trans (e_18 h15);exact (q0s (k+7) 13 _ 2 2 q0N rfl rfl).trans (qFM h14)
end
def ll_f:List S:=[.ifs (.or (.e (.cm .lt (.var 2) (.con (.int 0)))) (.e (.cm .ge (.var 2) (.var 0)))) [.raise 2] []]
theorem qCy (y:Option Sl):∀(ts:List Nat) (x:Option Sl),(∀t∈ts,t<n)->∃x',q0k (exs G subC ll_f) 0 [2] (nL ts) [some (.val (nI n)),y,x] = .ok [some (.val (nI n)),y,x'] .nx
 |[],x,_=>⟨x,rfl⟩
 |t::ts,x,h=>by
  obtain⟨x',e⟩:=qCy y ts (some (.val (nI t))) λ u hu=>h u (List.mem_cons_of_mem _ hu);refine⟨x',?_⟩;have ht:=h t List.mem_cons_self;rw[q0a,q0B];have tt:tst G subC (.or (.e (.cm .lt (.var 2) (.con (.int 0)))) (.e (.cm .ge (.var 2) (.var 0)))) [some (.val (nI n)),y,some (.val (nI t))] = .ok false :=
   qEW (q0W (q0X (x:=nI t) (y:=nI 0) rfl rfl (by rw[lt_n];simp))) (q0W (q0X (x:=nI t) (y:=nI n) rfl rfl (by rw[ge_n,decide_eq_false (by lia)])))
  show (exs G subC ll_f [some (.val (nI n)),y,some (.val (nI t))]).turn _=_;rw[ll_f,q04 (q4P tt),q0C,q0u];exact e
theorem qEd (k:Nat) {ts:List Nat}(h:∀t∈ts,t<n):Gm (k+1) 17 [nI n,.lst (nL ts)] = .ok .non:=by
 refine (q0s k 17 _ 2 3 [.forr 0 [2] (.e (.var 1)) ll_f] rfl rfl).trans ?_;generalize Gm k=GG;obtain⟨x',e⟩:=qCy (G:=GG) (some (.val (.lst (nL ts)))) ts none h;unfold Ev.run;have s:exs GG subC [.forr 0 [2] (.e (.var 1)) ll_f] [some (.val (nI n)),some (.val (.lst (nL ts))),none] = .ok [some (.val (nI n)),some (.val (.lst (nL ts))),x'] .nx:=by rw[q04 (ρ':=[some (.val (nI n)),some (.val (.lst (nL ts))),x']) (by rw[q0w];show (R.ok (nL ts)).go _ _=_;rw[q05,e]),q0C]
 show (match exs GG subC [.forr 0 [2] (.e (.var 1)) ll_f] [some (.val (nI n)),some (.val (.lst (nL ts))),none] with|RS.ok ρ F.nx=>R.ok D.non|RS.ok ρ (F.ret d)=>R.ok d|RS.err c ρ=>R.err c|x=>R.stuck)=_;rw[s]
theorem qAZ (k n:Nat):Gm (k+1) 17 [nI n,.lst [nI n]] = .err 2:=by
 refine (q0s k 17 _ 2 3 [.forr 0 [2] (.e (.var 1)) ll_f] rfl rfl).trans ?_;generalize Gm k=GG;have tt:tst GG subC (.or (.e (.cm .lt (.var 2) (.con (.int 0)))) (.e (.cm .ge (.var 2) (.var 0)))) [some (.val (nI n)),some (.val (.lst [nI n])),some (.val (nI n))] = .ok true:=by rw[q5S,q0W (q0X (x:=nI n) (y:=nI 0) rfl rfl (lt_n _ _)),q00,if_neg (by simp),q0W (q0X (x:=nI n) (y:=nI n) rfl rfl (by rw[ge_n,decide_eq_true (Nat.le_refl _)]))]
 refine qCi (ρ:=[some (.val (nI n)),some (.val (.lst [nI n])),none]) (ρ':=[some (.val (nI n)),some (.val (.lst [nI n])),some (.val (nI n))]) rfl (q5E ?_);rw[q0w];show (R.ok [nI n]).go _ _=_;rw[q05,q0B];show (exs GG subC ll_f [some (.val (nI n)),some (.val (.lst [nI n])),some (.val (nI n))]).turn _=_;rw[ll_f,q5E (ρ':=[some (.val (nI n)),some (.val (.lst [nI n])),some (.val (nI n))]) (c:=2) (by rw[q1y,tt,q05,if_pos rfl,q5E (q95 2 _)]),qDH]
def q0R (nd:List (List Nat)):Nat->List Nat->Bool
 |_,[]=>true
 |k,t::ts=>mayL nd k t&&q0R nd (k ||| 1 <<< t) ts
def ir_f:List S:=[.ifs (.not (.e (.call 4 [(.var 2),(.var 3),(.var 4)]))) [.ret (.con (.bl false))] [],.aug 3 .bor (.op .shl (.con (.int 1)) (.var 4))]
theorem qCz {nd:List (List Nat)}(a y:Option Sl) (e4:∀k t,t<nd.length->G 4 [ndD nd,nI k,nI t] = .ok (.bl (mayL nd k t))):∀(ts:List Nat) (k:Nat) (x:Option Sl),(∀t∈ts,t<nd.length/\t<=1000)->
  ∃k' x',q0k (exs G subC ir_f) 0 [4] (nL ts) [a,y,some (.val (ndD nd)),some (.val (nI k)),x] = .ok [a,y,some (.val (ndD nd)),some (.val (nI k')),x'] (if q0R nd k ts=true then .nx else .ret (.bl false))
 |[],k,x,_=>⟨k,x,rfl⟩
 |t::ts,k,x,h=>by
  obtain⟨h1,h2⟩:=h t List.mem_cons_self;obtain⟨k',x',e⟩:=qCz a y e4 ts (k ||| 1 <<< t) (some (.val (nI t))) λ u hu=>h u (List.mem_cons_of_mem _ hu);rw[q0a,q0B];have c:ev G subC (.call 4 [(.var 2),(.var 3),(.var 4)]) [a,y,some (.val (ndD nd)),some (.val (nI k)),some (.val (nI t))] = .ok (.bl (mayL nd k t)):=q4a (x:=ndD nd) (y:=nI k) (z:=nI t) rfl rfl rfl (e4 k t h1);cases q:mayL nd k t with
  |false =>
   rw[q] at c;refine⟨k,some (.val (nI t)),?_⟩;have tt:tst G subC (.not (.e (.call 4 [(.var 2),(.var 3),(.var 4)]))) [a,y,some (.val (ndD nd)),some (.val (nI k)),some (.val (nI t))] = .ok true:=(by rw[q4f,q0W c,q00];rfl);show (exs G subC ir_f [a,y,some (.val (ndD nd)),some (.val (nI k)),some (.val (nI t))]).turn _=_;rw[ir_f,q17 (ρ':=[a,y,some (.val (ndD nd)),some (.val (nI k)),some (.val (nI t))]) (d:= .bl false) (by rw[q1y,tt,q05,if_pos rfl];exact q17 rfl),qDG,q0R,q,Bool.false_and,if_neg (by simp)]
  |true =>
   rw[q] at c;refine⟨k',x',?_⟩;have tt:tst G subC (.not (.e (.call 4 [(.var 2),(.var 3),(.var 4)]))) [a,y,some (.val (ndD nd)),some (.val (nI k)),some (.val (nI t))] = .ok false:=(by rw[q4f,q0W c,q00];rfl);have s1:opD .shl (.int 1) (nI t) = .ok (nI (1 <<< t)):=qFv 1 t (by decide) h2;have s2:ex G subC (.aug 3 .bor (.op .shl (.con (.int 1)) (.var 4))) [a,y,some (.val (ndD nd)),some (.val (nI k)),some (.val (nI t))] = .ok [a,y,some (.val (ndD nd)),some (.val (nI (k ||| 1 <<< t))),some (.val (nI t))] .nx:=by have g3:getV [a,y,some (.val (ndD nd)),some (.val (nI k)),some (.val (nI t))] 3 = .ok (nI k):=rfl;have v4:ev G subC (.var 4) [a,y,some (.val (ndD nd)),some (.val (nI k)),some (.val (nI t))] = .ok (nI t):=rfl;rw[qBG,g3,q05,q0O,q0F,q00,v4,q00,s1,q05,qBP,qDN,q05];rfl
   have body:exs G subC ir_f [a,y,some (.val (ndD nd)),some (.val (nI k)),some (.val (nI t))] = .ok [a,y,some (.val (ndD nd)),some (.val (nI (k ||| 1 <<< t))),some (.val (nI t))] .nx:=(by rw[ir_f,q04 (q4P tt),q04 s2,q0C]);show (exs G subC ir_f [a,y,some (.val (ndD nd)),some (.val (nI k)),some (.val (nI t))]).turn _=_;rw[body,q0u,e,q0R,q,Bool.true_and]
theorem qHQ (g:Good n ws) (k:Nat) {ts:List Nat}(h:∀t∈ts,t<n):Gm (k+5) 16 [rD n ws,.lst (nL ts)] = .ok (.bl (q0R (nds n ws) 0 ts)):=by
 have hn:=g.n5;refine (q0s (k+4) 16 _ 2 5 [.expr (.call 10 [(.var 0)]),.expr (.call 17 [(.idx (.var 0) (.con (.int 0))),(.var 1)]),.set 2 (.call 3 [(.var 0)]),.set 3 (.con (.int 0)),.forr 0 [4] (.e (.var 1)) ir_f,.ret (.con (.bl true))] rfl rfl).trans ?_;have e10:=q5C g k;have e17:Gm (k+4) 17 [nI n,.lst (nL ts)] = .ok .non:=qEd (k+3) h;have e3:Gm (k+4) 3 [rD n ws] = .ok (ndD (nds n ws)):=q41 g (k+2);have e4:∀m t,t<(nds n ws).length->Gm (k+4) 4 [ndD (nds n ws),nI m,nI t] = .ok (.bl (mayL (nds n ws) m t)):=λ m t ht=>qJk (k+2) (nds n ws) m t ht;generalize Gm (k+4)=GG at e10 e17 e3 e4;have e6:idxD (rD n ws) (.int 0) = .ok (nI n):=idx0 _ _;obtain⟨k',x',e⟩:=qCz (G:=GG) (some (.val (rD n ws))) (some (.val (.lst (nL ts)))) e4 ts 0 none λ t ht=>⟨by rw[q1l];exact h t ht,by have:=h t ht;lia⟩
 have v0:ev GG subC (.var 0) [some (.val (rD n ws)),some (.val (.lst (nL ts))),none,none,none] = .ok (rD n ws):=rfl;have s1:ex GG subC (.expr (.call 10 [(.var 0)])) [some (.val (rD n ws)),some (.val (.lst (nL ts))),none,none,none] = .ok [some (.val (rD n ws)),some (.val (.lst (nL ts))),none,none,none] .nx:=by rw[q8O,q1G,evs1 v0,q00,e10,q05]
 have s2:ex GG subC (.expr (.call 17 [(.idx (.var 0) (.con (.int 0))),(.var 1)])) [some (.val (rD n ws)),some (.val (.lst (nL ts))),none,none,none] = .ok [some (.val (rD n ws)),some (.val (.lst (nL ts))),none,none,none] .nx:=by rw[q8O,q0V (x:=nI n) (y:= .lst (nL ts)) (by rw[q1d,v0,q00,q0F,q00,e6]) rfl e17,q05]
 have s3:ex GG subC (.set 2 (.call 3 [(.var 0)])) [some (.val (rD n ws)),some (.val (.lst (nL ts))),none,none,none] = .ok [some (.val (rD n ws)),some (.val (.lst (nL ts))),some (.val (ndD (nds n ws))),none,none] .nx:=by rw[q0P,q1G,evs1 v0,q00,e3,q05];rfl
 have s4:ex GG subC (.set 3 (.con (.int 0))) [some (.val (rD n ws)),some (.val (.lst (nL ts))),some (.val (ndD (nds n ws))),none,none] = .ok [some (.val (rD n ws)),some (.val (.lst (nL ts))),some (.val (ndD (nds n ws))),some (.val (nI 0)),none] .nx:=rfl;have s5:ex GG subC (.forr 0 [4] (.e (.var 1)) ir_f) [some (.val (rD n ws)),some (.val (.lst (nL ts))),some (.val (ndD (nds n ws))),some (.val (nI 0)),none] = .ok [some (.val (rD n ws)),some (.val (.lst (nL ts))),some (.val (ndD (nds n ws))),some (.val (nI k')),x'] (if q0R (nds n ws) 0 ts=true then .nx else .ret (.bl false)):=by rw[q0w];show (R.ok (nL ts)).go _ _=_;rw[q05,e]
 refine q1m (ρ:=[some (.val (rD n ws)),some (.val (.lst (nL ts))),none,none,none]) (ρ':=[some (.val (rD n ws)),some (.val (.lst (nL ts))),some (.val (ndD (nds n ws))),some (.val (nI k')),x']) rfl ?_;rw[q04 s1,q04 s2,q04 s3,q04 s4];cases q:q0R (nds n ws) 0 ts with
 |true=>rw[q,if_pos rfl] at s5;rw[q04 s5];exact q17 rfl
 |false=>rw[q,if_neg (by simp)] at s5;exact q17 s5
theorem qHR (g:Good n ws) (k:Nat):Gm (k+5) 16 [rD n ws,.lst [nI n]] = .err 2:=by refine (q0s (k+4) 16 _ 2 5 q4Y rfl rfl).trans ?_;have e10:=q5C g k;have e17:Gm (k+4) 17 [nI n,.lst [nI n]] = .err 2:=qAZ (k+3) n;generalize Gm (k+4)=GG at e10 e17;have e6:idxD (rD n ws) (.int 0) = .ok (nI n):=idx0 _ _;simp[Ev.run,q4Y,e10,e6,e17]
end Mk
namespace Mk
open Ev
variable {w:Nat}{d:D}
variable {n:Nat}{ws:List Wn}{G:Nat->List D->R D}
section
variable {r o z:D}
def qD0 (G:Nat->List D->R D) (r o z:D):Nat->R D
 |0=>G 18 [r,o]
 |1=>G 20 [r,o,z]
 |_=>G 16 [r,o]
theorem qHS (hw:w<=2) (h:qD0 G r o z w = .ok d):Ev.run G subC 7 q1c [nI w,r,o,z] = .ok d:=by
 match w,hw with
 |0,_=>exact run1 18 (by kernel_rfl) h (by kernel_rfl)
 |1,_=>exact run1 20 (by kernel_rfl) h (by kernel_rfl)
 |2,_=>exact run1 16 (by kernel_rfl) h (by kernel_rfl)
theorem qEe (hw:w<=2) {c:Nat}(h:qD0 G r o z w = .err c) (h2:G 29 [.exc c] = .ok d):Ev.run G subC 7 q1c [nI w,r,o,z] = .ok d:=by
 rw[sub_eq]
 match w,hw with
 |0,_=>exact run2 18 (by kernel_rfl) h (run2 29 (by kernel_rfl) h2 (by kernel_rfl))
 |1,_=>exact run2 20 (by kernel_rfl) h (run2 29 (by kernel_rfl) h2 (by kernel_rfl))
 |2,_=>exact run2 16 (by kernel_rfl) h (run2 29 (by kernel_rfl) h2 (by kernel_rfl))
end
theorem q82 (G:Nat->List D->R D):Ev.run G subC 2 q0T [.exc 4] = .ok (.str (PySem.Str.ofString "number")):=by kernel_rfl
def sNum:D:= .str (PySem.Str.ofString "number")
theorem qK8 (k:Nat):Gm (k+1) 29 [.exc 4] = .ok sNum:=(q0s k 29 [.exc 4] 1 2 q0T rfl rfl).trans (q82 _)
theorem qD1 (k:Nat) {r o z:D}(hw:w<=2) (h:qD0 (Gm (k+1)) r o z w = .ok d):Gm (k+2) 31 [nI w,r,o,z] = .ok d:=(q0s (k+1) 31 _ 4 7 q1c rfl rfl).trans (qHS hw h)
theorem q5H (k:Nat) {r o z:D}{c:Nat}(hw:w<=2) (h:qD0 (Gm (k+1)) r o z w = .err c) (h2:Gm (k+1) 29 [.exc c] = .ok d):Gm (k+2) 31 [nI w,r,o,z] = .ok d:=(q0s (k+1) 31 _ 4 7 q1c rfl rfl).trans (qEe hw h h2)
theorem qEf (k:Nat) (i:Int):Gm (k+1) 23 [.int i] = .ok (.bl true):=by refine (q0s k 23 _ 1 1 q2y rfl rfl).trans ?_;generalize Gm k=GG;rfl
theorem qD2 {nd:List (List Nat)}{b:Nat}:∀(f k:Nat) (R:List Nat),R∈q7x nd b f k->R.length=f/\∀t∈R,b.testBit t=true
 |0,k,R,h=>by rw[q7x,List.mem_singleton] at h;subst h;exact⟨rfl,λ t ht=>by cases ht⟩
 |f+1,k,R,h=>by rw[q7x] at h;obtain⟨t,ht,h⟩:=List.mem_flatMap.mp h;obtain⟨R',hR,rfl⟩:=List.mem_map.mp h;obtain⟨h1,h2⟩:=qD2 f _ R' hR;exact⟨by rw[List.length_cons,h1],λ u hu=>(List.mem_cons.mp hu).elim (λ e=>e▸(q15.mp ht).1) (h2 u)⟩
structure LawR (G:Nat->List D->R D) (s:D) (n:Nat) (ws:List Wn):Prop where
 good:Good n ws
 h22:∀i:Nat,∃N:Nat,G 22 [s,nI i] = .ok (nI N)
 h25:∃N:Nat,G 22 [s,nI 99] = .ok (nI N)/\G 25 [s,nI 0,nI (4+if N % 4=0 then 1 else 0)] = .ok (rD n ws)
 h26:G 26 [nI n] = .ok (.lst ((q12 n).map tD))
 h27:∀m,G 27 [rD n ws,tD m] = .ok (.lst (nL (q0G (nds n ws) m (2^n-1))))
 h28:G 28 [rD n ws] = .ok (.lst ((due n ws).map tD))
 h23:∀i:Int,G 23 [.int i] = .ok (.bl true)
 h30:∀b∈due n ws,G 30 [rD n ws,tD b] = .ok (rowD (q1o (nds n ws) b 0))
 t0:∀b∈due n ws,∀z,G 31 [nI 0,rD n ws,tD b,z] = .ok (nI (cnt (nds n ws) b 0))
 t1:∀b∈due n ws,∀N,N<cnt (nds n ws) b 0->∃R,(q1o (nds n ws) b 0)[N]? = some R/\G 31 [nI 1,rD n ws,tD b,nI N] = .ok (.lst (nL R))
 t1n:∀b∈due n ws,∀z,z = .int (-1)\/z=nI (cnt (nds n ws) b 0)->G 31 [nI 1,rD n ws,tD b,z] = .ok sNum
 t2:∀ts:List Nat,(∀t∈ts,t<n)->∀z,G 31 [nI 2,rD n ws,.lst (nL ts),z] = .ok (.bl (q0R (nds n ws) 0 ts))
 t2n:∀z,G 31 [nI 2,rD n ws,.lst [nI n],z] = .ok q0j
 tb:∀w,w<=1->∀m,m<2^n->m∉due n ws->∀z,G 31 [nI w,rD n ws,tD m,z] = .ok q0j
 tc:∀w,w<=1->∀z,G 31 [nI w,rD n ws,.tup (iL [(n:Int)]),z] = .ok q0j
 tr:∀w,w<=1->∀h z,G 31 [nI w,rulD 1 [(0,some [0])],h,z] = .ok q2H
theorem qLZ (k:Nat) (zs:List Int):∃(n:Nat) (ws:List Wn),LawR (Gm (k+11)) (.lst (iL zs)) n ws:=by
 obtain⟨N,hN⟩:=qEV (k+9) zs 99;obtain⟨n,ws,g,h25⟩:=qEb (k+7) (M:=4+if N % 4=0 then 1 else 0) (by split<;>lia) zs;have hn:=g.n5;have hnd:(nds n ws).length=n:=q1l n ws;have hz:q0i n (-1) [(n:Int)]=false:=qEX n 0;have hlt:∀b∈due n ws,b<2^n:=λ b hb=>by have:=q2G ((q27 g b).mp hb);rwa [hnd] at this
 have e13:∀b∈due n ws,Gm (k+9) 13 [rD n ws,tD b] = .ok .non:=λ b hb=>qCw g (k+1) hb;have e3:Gm (k+9) 3 [rD n ws] = .ok (ndD (nds n ws)):=q41 g (k+7);have e0:∀b∈due n ws,Gm (k+9) 0 [tD b] = .ok (nI b):=λ b hb=>by
  have:=q9p (k+8) (q02 b) (q5r g (hlt b hb)) (tD b) (.inl rfl)
  rwa [q3b] at this
 have e19:∀b∈due n ws,∃ks:List Nat,(∀x,x∈ks↔Rch (nds n ws) x/\Sm x b)/\Gm (k+9) 19 [ndD (nds n ws),nI b] = .ok (.dct (nL ks) (ks.map (cD (nds n ws) b))):=λ b hb =>
  qEZ (k+4) (by rw[hnd];exact hn) (by rw[hnd];exact hlt b hb) ((q27 g b).mp hb)
 have hno:∀w,w<=1->∀(r h:D) c z,Gm (k+9) 13 [r,h] = .err c->qD0 (Gm (k+10)) r h z w = .err c:=λ w hw r h c z e=>by
  match w,hw with
  |0,_=>exact (q0s (k+9) 18 _ 2 2 q1C rfl rfl).trans (qK6 e)
  |1,_=>exact (q0s (k+9) 20 _ 3 10 q1P rfl rfl).trans (qK7 e)
 refine⟨n,ws,g,λ i=>qEV (k+9) zs i,⟨N,hN,h25⟩,qFG (k+10) hn,λ m=>q8k g (k+10) m,qCl g (k+9),λ i=>qEf (k+10) i,λ b hb=>qHP g (k+9) (qCn g hb),λ b hb z=>?_,λ b hb M hM=>?_,λ b hb z hz'=>?_,λ ts h z=>?_,λ z=>?_,λ w hw m hm hnm z=>?_,λ w hw z=>?_,λ w hw h z=>?_⟩
 ·obtain⟨ks,hks,e⟩:=e19 b hb;exact qD1 (k+9) (by decide) ((q0s (k+9) 18 _ 2 2 q1C rfl rfl).trans (qLY (e13 b hb) e3 (e0 b hb) e (q81 (cD (nds n ws) b) (i:=0) ((hks 0).mpr ⟨.z,q2R _⟩))))
 ·obtain⟨ks,hks,e⟩:=e19 b hb;obtain⟨R,h1,h2⟩:=qK4 (N:=M) (e13 b hb) e3 (e0 b hb) e hks (qCn g hb) ((q27 g b).mp hb) (λ j _=>q7i (k+6) (nds n ws) j b (by rw[hnd];exact hlt b hb) (by rw[hnd];lia)) hM;exact⟨R,h1,qD1 (k+9) (by decide) ((q0s (k+9) 20 _ 3 10 q1P rfl rfl).trans h2)⟩
 ·obtain⟨ks,hks,e⟩:=e19 b hb;exact q5H (k+9) (by decide) ((q0s (k+9) 20 _ 3 10 q1P rfl rfl).trans (qLX hz' (e13 b hb) e3 (e0 b hb) e hks)) (qK8 (k+9))
 ·exact qD1 (k+9) (by decide) (qHQ g (k+5) h)
 ·exact q5H (k+9) (by decide) (qHR g (k+5)) (qCm (k+9))
 ·exact q5H (k+9) (by lia) (hno w hw _ _ _ z (qEc g (k+1) hm hnm)) (qCm (k+9))
 ·exact q5H (k+9) (by lia) (hno w hw _ _ _ z (qCx g (k+1) hz)) (qCm (k+9))
 ·have hb:∀k,Gm (k+4) 10 [rulD 1 [(0,some [0])]] = .err 1:=λ k=>qES (qHA 1) k;have h12:Gm (k+6) 12 [rulD 1 [(0,some [0])],h] = .err 1:=(q0s (k+5) 12 _ 2 2 q1N rfl rfl).trans (e_13 (hb (k+1)));have h15:Gm (k+7) 15 [rulD 1 [(0,some [0])],h] = .err 1:=(q0s (k+6) 15 _ 2 2 q4K rfl rfl).trans (e_20 h12);have h14:Gm (k+8) 14 [rulD 1 [(0,some [0])],h] = .err 1:=(q0s (k+7) 14 _ 2 2 q1B rfl rfl).trans (e_18 h15);have h13:Gm (k+9) 13 [rulD 1 [(0,some [0])],h] = .err 1:=(q0s (k+8) 13 _ 2 2 q0N rfl rfl).trans (qFM h14);exact q5H (k+9) (by lia) (hno w hw _ _ _ z h13) (qJu (k+9))
end Mk
namespace Mk
open Ev
variable {n:Nat}{ws:List Wn}{G:Nat->List D->R D}
def lq_1:S:= .set 1 (.call 25 [(.var 0),(.con (.int 0)),(.op .add (.con (.int 4)) (.bi .toInt [(.cm .eq (.op .mod (.call 22 [(.var 0),(.con (.int 99))]) (.con (.int 4))) (.con (.int 0)))]))])
def lq_2:S:= .set 2 (.call 28 [(.var 1)])
def lq_3:S:= .set 3 (.idx (.var 2) (.op .mod (.call 22 [(.var 0),(.con (.int 100))]) (.bi .len [(.var 2)])))
def lq_4:S:= .set 4 (.call 30 [(.var 1),(.var 3)])
def lq_5:S:= .set 5 (.call 31 [(.con (.int 0)),(.var 1),(.var 3),(.con (.int 0))])
def lq_6:S:= .ifs (.or (.not (.e (.call 23 [(.var 5)]))) (.e (.cm .ne (.var 5) (.bi .len [(.var 4)])))) [.ret (.con (.bl false))] []
def qHT:L:= .comp 0 (.call 31 [(.con (.int 1)),(.var 2),(.var 4),(.var 0)]) (.rng [(.bi .min2 [(.bi .len [(.var 4)]),(.con (.int 24))])]) []
def lq_7:S:= .ifs (.e (.cm .ne qHT (.sl 0 (.var 4) [] [(.con (.int 24))]))) [.ret (.con (.bl false))] []
def qLa:L:= .comp 0 (.call 31 [(.con (.int 1)),(.var 2),(.var 4),(.var 0)]) (.e (.tup [(.neg (.con (.int 1))),(.bi .len [(.var 4)])])) []
def lq_8:S:= .ifs (.e (.cm .ne qLa (.op .mul (.lst [(.con (.str "number"))]) (.con (.int 2))))) [.ret (.con (.bl false))] []
def qHU:L:= .op .mod (.call 22 [(.var 1),(.op .add (.op .add (.con (.int 110)) (.op .mul (.con (.int 6)) (.var 7))) (.var 0))]) (.bi .max2 [(.con (.int 1)),(.idx (.var 2) (.con (.int 0)))])
def qAa:S:= .set 8 (.comp 0 qHU (.rng [(.op .mod (.call 22 [(.var 0),(.op .add (.con (.int 101)) (.var 6))]) (.con (.int 5)))]) [])
def q8p:S:= .ifs (.e (.cm .eq (.var 6) (.con (.int 0)))) [.set 8 (.bi .list [(.idx (.var 4) (.op .mod (.call 22 [(.var 0),(.con (.int 105))]) (.bi .len [(.var 4)])))])] []
def qHV:L:= .cm .mem (.idx (.var 8) (.var 7)) (.call 27 [(.var 1),(.bi .tuple [(.bi .sortedSet [(.sl 0 (.var 8) [] [(.var 7)])])])])
def qAb:List S:=[.set 9 (.and (.var 9) qHV)]
def qK9:S:= .ifs (.or (.not (.e (.bi .isBool [(.var 5)]))) (.e (.cm .ne (.var 5) (.var 9)))) [.ret (.con (.bl false))] []
def qKA:List S:=[.set 9 (.con (.bl true)),.forr 0 [7] (.rng [(.bi .len [(.var 8)])]) qAb,.set 5 (.call 31 [(.con (.int 2)),(.var 1),(.var 8),(.con (.int 0))]),qK9]
def qAc:S:= .ifs (.or (.e (.cm .gt (.idx (.var 1) (.con (.int 0))) (.con (.int 0)))) (.e (.cm .eq (.var 8) (.lst [])))) qKA []
def lq_9:S:= .forr 0 [6] (.rng [(.con (.int 4))]) [qAa,q8p,qAc]
def lk_c:L:= .comp 0 (.var 0) (.e (.call 26 [(.idx (.var 1) (.con (.int 0)))])) [(.e (.cm .nmem (.var 0) (.var 3)))]
def qHW:S:= .set 10 (.op .add lk_c (.lst [(.tup [(.idx (.var 1) (.con (.int 0)))])]))
def qHX:S:= .set 11 (.idx (.var 10) (.op .mod (.call 22 [(.var 0),(.con (.int 106))]) (.bi .len [(.var 10)])))
def qFN:L:= .comp 0 (.call 31 [(.var 0),(.var 2),(.var 12),(.con (.int 0))]) (.rng [(.con (.int 2))]) []
def qHY:S:= .ifs (.e (.cm .ne (.op .add qFN (.lst [(.call 31 [(.con (.int 2)),(.var 1),(.lst [(.idx (.var 1) (.con (.int 0)))]),(.con (.int 0))])])) (.op .mul (.lst [(.con (.str "state"))]) (.con (.int 3))))) [.ret (.con (.bl false))] []
def qFO:L:= .comp 0 (.call 31 [(.var 0),(.tup [(.con (.int 1)),(.lst [(.tup [(.con (.int 0)),(.tup [(.con (.int 0))])])])]),(.var 12),(.con (.int 0))]) (.rng [(.con (.int 2))]) []
def qHZ:S:= .ret (.cm .eq qFO (.op .mul (.lst [(.con (.str "rules"))]) (.con (.int 2))))
theorem qLb:qCR=[lq_1,lq_2,lq_3,lq_4,lq_5,lq_6,lq_7,lq_8,lq_9,qHW,qHX,qHY,qHZ]:=rfl
noncomputable def qE (s:D) (n:Nat) (ws:List Wn) (b:Nat) (f k j r g no ba:Option Sl):Env:=[some (.val s),some (.val (rD n ws)),some (.val (.lst ((due n ws).map tD))),some (.val (tD b)),some (.val (rowD (q1o (nds n ws) b 0))),f,k,j,r,g,no,ba]
theorem q28 {f:Nat}{ρ:Env}{a b c e:L}{x y z w d:D}(h1:ev G subC a ρ = .ok x) (h2:ev G subC b ρ = .ok y) (h3:ev G subC c ρ = .ok z) (h4:ev G subC e ρ = .ok w) (h:G f [x,y,z,w] = .ok d):ev G subC (.call f [a,b,c,e]) ρ = .ok d:=by rw[q1G,q0J,h1,q00,q0J,h2,q00,evs2 h3 h4,q00,q00,q00,h]
theorem q8q {ρ:Env}{s:D}{i j c:Nat}{l:List D}(hs:ev G subC (.var i) ρ = .ok s) (hl:ev G subC (.var j) ρ = .ok (.lst l)) (hne:l≠[]) (hm:∃N:Nat,G 22 [s,nI c] = .ok (nI N)) :
  ∃d∈l,ev G subC (.idx (.var j) (.op .mod (.call 22 [(.var i),(.con (.int c))]) (.bi .len [(.var j)]))) ρ = .ok d:=by
 obtain⟨N,hm⟩:=hm;have hlen:0<l.length:=List.length_pos_iff.mpr hne;have hlt:=Nat.mod_lt N hlen;refine⟨l[N % l.length],List.getElem_mem _,?_⟩;have e1:ev G subC (.call 22 [(.var i),(.con (.int c))]) ρ = .ok (nI N):=q0V hs (y:=nI c) rfl hm;have e2:ev G subC (.bi .len [(.var j)]) ρ = .ok (nI l.length):=by rw[q16,evs1 hl,q00,q2a]
 rw[q1d,hl,q00,q0O,e1,q00,e2,q00,qAJ N _ hlen,q00];exact q65 _ _ _ (List.getElem?_eq_getElem hlt)
theorem q5u {nd:List (List Nat)}(t:Nat):∀(l:List Nat) (k:Nat),q0R nd k (l++[t])=(q0R nd k l&&mayL nd (q01 k l) t)
 |[],k=>by show (mayL nd k t&&true)=(true&&mayL nd k t);rw[Bool.and_true,Bool.true_and]
 |x::l,k=>by
  show (mayL nd k x&&q0R nd (k ||| 1 <<< x) (l++[t]))=((mayL nd k x&&q0R nd (k ||| 1 <<< x) l)&&mayL nd (q01 (k ||| 1 <<< x) l) t)
  rw[q5u t l,Bool.and_assoc]
theorem qD3 (l:List D) (j:Nat):slD 0 none (some (j:Int)) (.lst l) = .ok (.lst (l.take j)):=by
 show R.ok (D.lst (cutL l none (some (j:Int))))=_;unfold cutL bnd;dsimp only;rw[if_neg (by lia),List.drop_zero,Nat.sub_zero,Int.toNat_natCast];congr 2
 by_cases h:j<=l.length
 ·rw[Nat.min_eq_left h]
 ·rw[Nat.min_eq_right (by lia),List.take_of_length_le (Nat.le_refl _),List.take_of_length_le (by lia)]
theorem qLc {s:D}(H:LawR G s n ws) {b:Nat}{f k r g no ba:Option Sl}{ts:List Nat}{j:Nat}(hj:j<ts.length) (hl:ts.length<=5) :
  ev G subC qHV (qE s n ws b f k (some (.val (nI j))) (some (.val (.lst (nL ts)))) g no ba) = .ok (.bl (mayL (nds n ws) (q01 0 (ts.take j)) ts[j])):=by
 generalize hρ:qE s n ws b f k (some (.val (nI j))) (some (.val (.lst (nL ts)))) g no ba=ρ;have v1:ev G subC (.var 1) ρ = .ok (rD n ws):=by rw[<-hρ];rfl
 have v7:ev G subC (.var 7) ρ = .ok (nI j):=by rw[<-hρ];rfl
 have v8:ev G subC (.var 8) ρ = .ok (.lst (nL ts)):=by rw[<-hρ];rfl
 have i1:ev G subC (.idx (.var 8) (.var 7)) ρ = .ok (nI ts[j]):=by rw[q1d,v8,q00,v7,q00];exact q65 _ _ _ (by unfold nL;rw[List.getElem?_map,List.getElem?_eq_getElem hj];rfl)
 have o1:optI [] = .ok none:=rfl;have o2:optI [nI j] = .ok (some (j:Int)):=rfl;have c1:ev G subC (.sl 0 (.var 8) [] [(.var 7)]) ρ = .ok (.lst (nL (ts.take j))):=by rw[qBE,v8,q00,q0Z,q00,evs1 v7,q00,o1,q00,o2,q00,qD3];unfold nL;rw[List.map_take]
 have c2:ev G subC (.bi .tuple [(.bi .sortedSet [(.sl 0 (.var 8) [] [(.var 7)])])]) ρ = .ok (tD (q01 0 (ts.take j))):=by rw[q16,evs1 (x:= .lst (nL (q02 (q01 0 (ts.take j))))) (by rw[q16,evs1 c1,q00,q8o _ (by rw[List.length_take];lia)]),q00,q1s];rfl
 exact q0X i1 (q0V v1 c2 (H.h27 _)) (by rw[qCj,q6a H.good])
theorem qFP {s:D}(H:LawR G s n ws) {b:Nat}{f k no ba:Option Sl}{ts:List Nat}(hl:ts.length<=5):∀(m j:Nat) (x:Option Sl),j+m=ts.length->
  ∃x',q0k (exs G subC qAb) 0 [7] (nL (List.range' j m)) (qE s n ws b f k x (some (.val (.lst (nL ts)))) (some (.val (.bl (q0R (nds n ws) 0 (ts.take j))))) no ba) =
   .ok (qE s n ws b f k x' (some (.val (.lst (nL ts)))) (some (.val (.bl (q0R (nds n ws) 0 ts)))) no ba) .nx
 |0,j,x,h=>⟨x,by rw[List.take_of_length_le (by lia)];rfl⟩
 |m+1,j,x,h=>by
  have hj:j<ts.length:=by lia
  obtain⟨x',e⟩:=qFP H hl (b:=b) (f:=f) (k:=k) (no:=no) (ba:=ba) m (j+1) (some (.val (nI j))) (by lia);refine⟨x',?_⟩;rw[List.range'_succ,q0a,q0B];have mm:=qLc H (b:=b) (f:=f) (k:=k) (r:=none) (g:=some (.val (.bl (q0R (nds n ws) 0 (ts.take j))))) (no:=no) (ba:=ba) hj hl;have hs:q0R (nds n ws) 0 (ts.take (j+1))=(q0R (nds n ws) 0 (ts.take j)&&mayL (nds n ws) (q01 0 (ts.take j)) ts[j]):=by rw[<-q5u,List.take_succ_eq_append_getElem hj]
  have v9:ev G subC (.var 9) (qE s n ws b f k (some (.val (nI j))) (some (.val (.lst (nL ts)))) (some (.val (.bl (q0R (nds n ws) 0 (ts.take j))))) no ba) = .ok (.bl (q0R (nds n ws) 0 (ts.take j))):=rfl;have a:ev G subC (.and (.var 9) qHV) (qE s n ws b f k (some (.val (nI j))) (some (.val (.lst (nL ts)))) (some (.val (.bl (q0R (nds n ws) 0 (ts.take j))))) no ba) = .ok (.bl (q0R (nds n ws) 0 (ts.take (j+1)))):=by
   rw[qEt,v9,q00,hs];cases q0R (nds n ws) 0 (ts.take j) with
   |true=>exact mm
   |false=>rfl
  have body:exs G subC qAb (qE s n ws b f k (some (.val (nI j))) (some (.val (.lst (nL ts)))) (some (.val (.bl (q0R (nds n ws) 0 (ts.take j))))) no ba) = .ok (qE s n ws b f k (some (.val (nI j))) (some (.val (.lst (nL ts)))) (some (.val (.bl (q0R (nds n ws) 0 (ts.take (j+1)))))) no ba) .nx:=by rw[qAb,q04 (ρ':=qE s n ws b f k (some (.val (nI j))) (some (.val (.lst (nL ts)))) (some (.val (.bl (q0R (nds n ws) 0 (ts.take (j+1)))))) no ba) (by rw[q0P,a,q05];rfl),q0C]
  show (exs G subC qAb (qE s n ws b f k (some (.val (nI j))) (some (.val (.lst (nL ts)))) (some (.val (.bl (q0R (nds n ws) 0 (ts.take j))))) no ba)).turn _=_;rw[body,q0u];exact e
def mx (n:Nat):Nat:=if 1<n then n else 1
theorem qLd (n:Nat):biD subC .max2 [.int 1,nI n] = .ok (nI (mx n)):=by
 show R.ok (D.int (if (n:Int) > 1 then (n:Int) else 1))=_;unfold mx nI
 by_cases h:1<n
 ·rw[if_pos (by lia),if_pos h]
 ·rw[if_neg (by lia),if_neg h];rfl
theorem eq_nil (ts:List Nat):cmD .eq (.lst (nL ts)) (.lst []) = .ok (.bl (decide (ts=[]))):=by
 have e:cmD .eq (.lst (nL ts)) (.lst [])=if pl (.lst (nL ts))&&pl (.lst []) then .ok (.bl (eqb (.lst (nL ts)) (.lst []))) else .stuck:=rfl
 rw[e,qKq];cases ts<;>simp[eqb,eqbL,pl,plN]
end Mk
namespace Mk
open Ev
variable {b:Nat}{s:D}
variable {n:Nat}{ws:List Wn}{G:Nat->List D->R D}
theorem qEg {nd:List (List Nat)}:(q1o nd b 0).length=cnt nd b 0:=rfl
theorem qHa (H:LawR G s n ws) (hb:b∈due n ws):0<cnt (nds n ws) b 0:=qHJ ((q27 H.good b).mp hb) rfl .z (q2R _)
theorem qLe (H:LawR G s n ws) (i:Nat) (f j r g no ba:Option Sl):∃ts:List Nat,ts.length<=5/\(∀t∈ts,t<mx n)/\
  ex G subC qAa (qE s n ws b f (some (.val (nI i))) j r g no ba) = .ok (qE s n ws b f (some (.val (nI i))) j (some (.val (.lst (nL ts)))) g no ba) .nx:=by
 obtain⟨F,hF⟩:∃F:Nat->Nat,∀i,G 22 [s,nI i] = .ok (nI (F i)):=Classical.axiomOfChoice H.h22;have hmx:0<mx n:=by unfold mx;split<;>lia
 have hlt:F (101+i) % 5<5:=Nat.mod_lt _ (by decide);refine⟨(List.range (F (101+i) % 5)).map λ q=>F (110+6*i+q) % mx n,by rw[List.length_map,List.length_range];lia,λ t ht=>?_,?_⟩
 ·obtain⟨q,_,rfl⟩:=List.mem_map.mp ht;exact Nat.mod_lt _ hmx
 generalize hρ:qE s n ws b f (some (.val (nI i))) j r g no ba=ρ;have v0:ev G subC (.var 0) ρ = .ok s:=by rw[<-hρ];rfl
 have v6:ev G subC (.var 6) ρ = .ok (nI i):=by rw[<-hρ];rfl
 have a1:opD .add (.int 101) (nI i) = .ok (nI (101+i)):=add_n 101 i;have it:evi G subC (.rng [(.op .mod (.call 22 [(.var 0),(.op .add (.con (.int 101)) (.var 6))]) (.con (.int 5)))]) ρ = .ok ((List.range (F (101+i) % 5)).map nI):=by
  have y1:ev G subC (.op .add (.con (.int 101)) (.var 6)) ρ = .ok (nI (101+i)):=by rw[q0O,q0F,q00,v6,q00,a1]
  have m5:ev G subC (.op .mod (.call 22 [(.var 0),(.op .add (.con (.int 101)) (.var 6))]) (.con (.int 5))) ρ = .ok (nI (F (101+i) % 5)):=q5t (c:=5) (by decide) (q0V v0 y1 (hF _));rw[q0l,evs1 m5,q00,q2F _ (by lia)];rfl
 have c:=comp_map (g:=λ q=>nI (F (110+6*i+q) % mx n)) (x:=qHU) it (λ q hq=>by
  have u0:ev G subC (.var 0) (some (.val (nI q))::ρ) = .ok (nI q):=rfl;have u1:ev G subC (.var 1) (some (.val (nI q))::ρ) = .ok s:=by rw[<-hρ];rfl
  have u2:ev G subC (.var 2) (some (.val (nI q))::ρ) = .ok (rD n ws):=by rw[<-hρ];rfl
  have u7:ev G subC (.var 7) (some (.val (nI q))::ρ) = .ok (nI i):=by rw[<-hρ];rfl
  have m1:opD .mul (.int 6) (nI i) = .ok (nI (6*i)):=qJx 6 i (by decide);have m2:opD .add (.int 110) (nI (6*i)) = .ok (nI (110+6*i)):=add_n 110 (6*i);have e6:idxD (rD n ws) (.int 0) = .ok (nI n):=idx0 _ _;have x1:ev G subC (.bi .max2 [(.con (.int 1)),(.idx (.var 2) (.con (.int 0)))]) (some (.val (nI q))::ρ) = .ok (nI (mx n)):=by rw[q16,evs2 (x:= .int 1) (y:=nI n) rfl (by rw[q1d,u2,q00,q0F,q00,e6]),q00,qLd]
  have y1:ev G subC (.op .add (.op .add (.con (.int 110)) (.op .mul (.con (.int 6)) (.var 7))) (.var 0)) (some (.val (nI q))::ρ) = .ok (nI (110+6*i+q)):=by rw[q0O,q0O,q0F,q00,q0O,q0F,q00,u7,q00,m1,q00,m2,q00,u0,q00,add_n]
  rw[qHU,q0O,q0V u1 y1 (hF _),q00,x1,q00,qAJ _ _ hmx]) (by rw[List.length_range];lia)
 have e:(List.range (F (101+i) % 5)).map (λ q=>nI (F (110+6*i+q) % mx n))=nL ((List.range (F (101+i) % 5)).map λ q=>F (110+6*i+q) % mx n):=by unfold nL;rw[List.map_map];rfl
 rw[qAa,q0P,c,q05,e,<-hρ];rfl
theorem qKB (H:LawR G s n ws) (hb:b∈due n ws) (i:Nat) (f j g no ba:Option Sl) {ts:List Nat}(h1:ts.length<=5) (h2:∀t∈ts,t<mx n):∃us:List Nat,us.length<=5/\(0<n\/us=[]->∀t∈us,t<n)/\
  ex G subC q8p (qE s n ws b f (some (.val (nI i))) j (some (.val (.lst (nL ts)))) g no ba) = .ok (qE s n ws b f (some (.val (nI i))) j (some (.val (.lst (nL us)))) g no ba) .nx:=by
 have hlt:b<2^n:=by have:=q2G ((q27 H.good b).mp hb);rwa [q1l] at this
 have t:tst G subC (.e (.cm .eq (.var 6) (.con (.int 0)))) (qE s n ws b f (some (.val (nI i))) j (some (.val (.lst (nL ts)))) g no ba) = .ok (decide (i=0)):=q0W (q0X (x:=nI i) (y:=nI 0) rfl rfl (eq_n i 0))
 by_cases hi:i=0
 ·rw[decide_eq_true hi] at t;have hne:(q1o (nds n ws) b 0).map (λ r=>D.lst (nL r))≠[]:=λ z=>by have:=qHa H hb;rw[<-qEg,List.map_eq_nil_iff.mp z] at this;exact absurd this (Nat.lt_irrefl _)
  obtain⟨d,hd,e⟩:=q8q (G:=G) (ρ:=qE s n ws b f (some (.val (nI i))) j (some (.val (.lst (nL ts)))) g no ba) (i:=0) (j:=4) (c:=105) rfl rfl hne (H.h22 105);obtain⟨R,hR,rfl⟩:=List.mem_map.mp hd;have e:ev G subC (.idx (.var 4) (.op .mod (.call 22 [(.var 0),(.con (.int 105))]) (.bi .len [(.var 4)]))) (qE s n ws b f (some (.val (nI i))) j (some (.val (.lst (nL ts)))) g no ba) = .ok (.lst (nL R)):=e;obtain⟨r1,r2⟩:=qD2 _ _ _ hR;refine⟨R,?_,λ _ u hu=>q7j hlt (r2 u hu),?_⟩
  ·rw[r1];unfold remB;have:=q2h (qCn H.good hb);lia
  ·have l:ev G subC (.bi .list [(.idx (.var 4) (.op .mod (.call 22 [(.var 0),(.con (.int 105))]) (.bi .len [(.var 4)])))]) (qE s n ws b f (some (.val (nI i))) j (some (.val (.lst (nL ts)))) g no ba) = .ok (.lst (nL R)):=by rw[q16,evs1 e,q00,q8Q]
   rw[q8p,q1y,t,q05,if_pos rfl,q04 (ρ':=qE s n ws b f (some (.val (nI i))) j (some (.val (.lst (nL R)))) g no ba) (by rw[q0P,l,q05];rfl),q0C]
 ·rw[decide_eq_false hi] at t;refine⟨ts,h1,λ hn u hu=>?_,by rw[q8p];exact q4P t⟩;rcases hn with hn|hn
  ·have:=h2 u hu;unfold mx at this;split at this<;>lia
  ·rw[hn] at hu;cases hu
theorem qKC (H:LawR G s n ws) (hb:b∈due n ws) (i:Nat) (f j r g no ba:Option Sl):∃f' j' r' g',
  exs G subC [qAa,q8p,qAc] (qE s n ws b f (some (.val (nI i))) j r g no ba) = .ok (qE s n ws b f' (some (.val (nI i))) j' r' g' no ba) .nx:=by
 obtain⟨ts,h1,h2,e1⟩:=qLe H (b:=b) i f j r g no ba;obtain⟨us,h3,h4,e2⟩:=qKB H hb i f j g no ba h1 h2;have e6:idxD (rD n ws) (.int 0) = .ok (nI n):=idx0 _ _;generalize hρ:qE s n ws b f (some (.val (nI i))) j (some (.val (.lst (nL us)))) g no ba=ρ at e2;have v1:ev G subC (.var 1) ρ = .ok (rD n ws):=by rw[<-hρ];rfl
 have v8:ev G subC (.var 8) ρ = .ok (.lst (nL us)):=by rw[<-hρ];rfl
 have t1:tst G subC (.e (.cm .gt (.idx (.var 1) (.con (.int 0))) (.con (.int 0)))) ρ = .ok (decide (0<n)):=q8l (by rw[q1d,v1,q00,q0F,q00,e6]);have t2:tst G subC (.e (.cm .eq (.var 8) (.lst []))) ρ = .ok (decide (us=[])):=q0W (q0X v8 (q0y (q0Z _) (by simp)) (eq_nil us));have t:tst G subC (.or (.e (.cm .gt (.idx (.var 1) (.con (.int 0))) (.con (.int 0)))) (.e (.cm .eq (.var 8) (.lst [])))) ρ = .ok (decide (0<n\/us=[])):=by
  rw[q5S,t1,q00]
  by_cases h:0<n
  ·rw[decide_eq_true h,if_pos rfl,decide_eq_true (.inl h)]
  ·rw[decide_eq_false h,if_neg (by simp),t2];congr 1;rw[decide_eq_decide];exact⟨.inr,λ g=>g.resolve_left h⟩
 by_cases hc:0<n\/us=[]
 ·rw[decide_eq_true hc] at t;obtain⟨j',e⟩:=qFP H (b:=b) (f:=f) (k:=some (.val (nI i))) (no:=no) (ba:=ba) h3 us.length 0 j (by lia);refine⟨some (.val (.bl (q0R (nds n ws) 0 us))),j',some (.val (.lst (nL us))),some (.val (.bl (q0R (nds n ws) 0 us))),?_⟩;have s1:ex G subC (.set 9 (.con (.bl true))) ρ = .ok (qE s n ws b f (some (.val (nI i))) j (some (.val (.lst (nL us)))) (some (.val (.bl (q0R (nds n ws) 0 (us.take 0))))) no ba) .nx:=by rw[<-hρ];rfl
  have i1:evi G subC (.rng [(.bi .len [(.var 8)])]) (qE s n ws b f (some (.val (nI i))) j (some (.val (.lst (nL us)))) (some (.val (.bl (q0R (nds n ws) 0 (us.take 0))))) no ba) = .ok (nL (List.range' 0 us.length)):=by have w8:ev G subC (.var 8) (qE s n ws b f (some (.val (nI i))) j (some (.val (.lst (nL us)))) (some (.val (.bl (q0R (nds n ws) 0 (us.take 0))))) no ba) = .ok (.lst (nL us)):=rfl;rw[q0l,evs1 (x:=nI us.length) (by rw[q16,evs1 w8,q00,q2a,q0Q]),q00,q2F _ (by lia),List.range_eq_range']
  have s2:ex G subC (.forr 0 [7] (.rng [(.bi .len [(.var 8)])]) qAb) (qE s n ws b f (some (.val (nI i))) j (some (.val (.lst (nL us)))) (some (.val (.bl (q0R (nds n ws) 0 (us.take 0))))) no ba) = .ok (qE s n ws b f (some (.val (nI i))) j' (some (.val (.lst (nL us)))) (some (.val (.bl (q0R (nds n ws) 0 us)))) no ba) .nx:=by rw[q0w,i1,q05,e]
  have s3:ex G subC (.set 5 (.call 31 [(.con (.int 2)),(.var 1),(.var 8),(.con (.int 0))])) (qE s n ws b f (some (.val (nI i))) j' (some (.val (.lst (nL us)))) (some (.val (.bl (q0R (nds n ws) 0 us)))) no ba) = .ok (qE s n ws b (some (.val (.bl (q0R (nds n ws) 0 us)))) (some (.val (nI i))) j' (some (.val (.lst (nL us)))) (some (.val (.bl (q0R (nds n ws) 0 us)))) no ba) .nx:=by rw[q0P,q28 (x:=nI 2) (y:=rD n ws) (z:= .lst (nL us)) (w:=nI 0) rfl rfl rfl rfl (H.t2 us (h4 hc) _),q05];rfl
  have t5:tst G subC (.or (.not (.e (.bi .isBool [(.var 5)]))) (.e (.cm .ne (.var 5) (.var 9)))) (qE s n ws b (some (.val (.bl (q0R (nds n ws) 0 us)))) (some (.val (nI i))) j' (some (.val (.lst (nL us)))) (some (.val (.bl (q0R (nds n ws) 0 us)))) no ba) = .ok false:=by have w5:ev G subC (.var 5) (qE s n ws b (some (.val (.bl (q0R (nds n ws) 0 us)))) (some (.val (nI i))) j' (some (.val (.lst (nL us)))) (some (.val (.bl (q0R (nds n ws) 0 us)))) no ba) = .ok (.bl (q0R (nds n ws) 0 us)):=rfl;have w9:ev G subC (.var 9) (qE s n ws b (some (.val (.bl (q0R (nds n ws) 0 us)))) (some (.val (nI i))) j' (some (.val (.lst (nL us)))) (some (.val (.bl (q0R (nds n ws) 0 us)))) no ba) = .ok (.bl (q0R (nds n ws) 0 us)):=rfl;have ib:biD subC .isBool [.bl (q0R (nds n ws) 0 us)] = .ok (.bl true):=rfl;exact qEW (by rw[q4f,q0W (by rw[q16,evs1 w5,q00,ib]),q00];rfl) (q0W (q0X w5 w9 (q6e rfl (by simp[eqb]))))
  rw[q04 e1,q04 e2,q04 (ρ':=qE s n ws b (some (.val (.bl (q0R (nds n ws) 0 us)))) (some (.val (nI i))) j' (some (.val (.lst (nL us)))) (some (.val (.bl (q0R (nds n ws) 0 us)))) no ba) (by rw[qAc,q1y,t,q05,if_pos rfl,qKA,q04 s1,q04 s2,q04 s3,qK9,q04 (q4P t5),q0C]),q0C]
 ·rw[decide_eq_false hc] at t;refine⟨f,j,some (.val (.lst (nL us))),g,?_⟩;rw[q04 e1,q04 e2,qAc,q04 (q4P t),q0C,<-hρ]
theorem qFQ {s:D}(H:LawR G s n ws) {b:Nat}(hb:b∈due n ws) (no ba:Option Sl):∀(is:List Nat) (f k j r g:Option Sl),∃f' k' j' r' g',
  q0k (exs G subC [qAa,q8p,qAc]) 0 [6] (nL is) (qE s n ws b f k j r g no ba) = .ok (qE s n ws b f' k' j' r' g' no ba) .nx
 |[],f,k,j,r,g=>⟨f,k,j,r,g,rfl⟩
 |i::is,f,k,j,r,g=>by obtain⟨f1,j1,r1,g1,e⟩:=qKC H hb i f j r g no ba;obtain⟨f',k',j',r',g',e2⟩:=qFQ H hb no ba is f1 (some (.val (nI i))) j1 r1 g1;refine⟨f',k',j',r',g',?_⟩;rw[q0a,q0B];show (exs G subC [qAa,q8p,qAc] (qE s n ws b f (some (.val (nI i))) j r g no ba)).turn _=_;rw[e,q0u];exact e2
end Mk
namespace Mk
open Ev
variable {n:Nat}{ws:List Wn}{G:Nat->List D->R D}
theorem qHb (L:List (List Nat)):pl (rowD L)=true:=by unfold pl rowD;rw[plN,List.all_eq_true];intro d hd;obtain⟨r,_,rfl⟩:=List.mem_map.mp hd;rw[plN,List.all_eq_true];intro d hd;obtain⟨a,_,rfl⟩:=List.mem_map.mp hd;rfl
theorem qEh (L:List (List Nat)):eqb (rowD L) (rowD L)=true:=by unfold rowD;rw[show eqb (.lst (L.map λ r=>D.lst (nL r))) (.lst (L.map λ r=>D.lst (nL r)))=eqbL (L.map λ r=>D.lst (nL r)) (L.map λ r=>D.lst (nL r)) by simp[eqb]];refine q7w λ d hd=>?_;obtain⟨r,_,rfl⟩:=List.mem_map.mp hd;exact qK0 r
theorem qKD (c:Nat):biD subC .min2 [nI c,.int 24] = .ok (nI (min c 24)):=by
 show R.ok (D.int (if (24:Int)<(c:Int) then (24:Int) else (c:Int)))=_;unfold nI
 by_cases h:24<c
 ·rw[if_pos (by lia),Nat.min_eq_right (by lia)];rfl
 ·rw[if_neg (by lia),Nat.min_eq_left (by lia)]
theorem qEi {s:D}(H:LawR G s n ws):Ev.run G subC 12 qCR [s] = .ok (.bl true):=by
 have g:=H.good;have hn:=g.n5;have e6:idxD (rD n ws) (.int 0) = .ok (nI n):=idx0 _ _;obtain⟨N,h22,h25⟩:=H.h25;have s1:ex G subC lq_1 [some (.val s),none,none,none,none,none,none,none,none,none,none,none] = .ok [some (.val s),some (.val (rD n ws)),none,none,none,none,none,none,none,none,none,none] .nx:=by
  generalize hρ:([some (.val s),none,none,none,none,none,none,none,none,none,none,none]:Env)=ρ;have v0:ev G subC (.var 0) ρ = .ok s:=by rw[<-hρ];rfl
  have c1:ev G subC (.call 22 [(.var 0),(.con (.int 99))]) ρ = .ok (nI N):=q0V v0 (y:=nI 99) rfl h22;have c2:ev G subC (.op .mod (.call 22 [(.var 0),(.con (.int 99))]) (.con (.int 4))) ρ = .ok (nI (N % 4)):=q5t (c:=4) (by decide) c1;have c3:ev G subC (.cm .eq (.op .mod (.call 22 [(.var 0),(.con (.int 99))]) (.con (.int 4))) (.con (.int 0))) ρ = .ok (.bl (decide (N % 4=0))):=q0X c2 (y:=nI 0) rfl (eq_n _ 0);have c4:biD subC .toInt [.bl (decide (N % 4=0))] = .ok (nI (if N % 4=0 then 1 else 0)):=by
   by_cases h:N % 4=0
   ·rw[decide_eq_true h,if_pos h];rfl
   ·rw[decide_eq_false h,if_neg h];rfl
  have a1:opD .add (.int 4) (nI (if N % 4=0 then 1 else 0)) = .ok (nI (4+if N % 4=0 then 1 else 0)):=add_n 4 _;have c5:ev G subC (.op .add (.con (.int 4)) (.bi .toInt [(.cm .eq (.op .mod (.call 22 [(.var 0),(.con (.int 99))]) (.con (.int 4))) (.con (.int 0)))])) ρ = .ok (nI (4+if N % 4=0 then 1 else 0)):=by rw[q0O,q0F,q00,q16,evs1 c3,q00,c4,q00,a1]
  rw[lq_1,q0P,q4a v0 (y:=nI 0) rfl c5 h25,q05,<-hρ];rfl
 have s2:ex G subC lq_2 [some (.val s),some (.val (rD n ws)),none,none,none,none,none,none,none,none,none,none] = .ok [some (.val s),some (.val (rD n ws)),some (.val (.lst ((due n ws).map tD))),none,none,none,none,none,none,none,none,none] .nx:=by rw[lq_2,q0P,q1G,evs1 (G:=G) (x:=rD n ws) rfl,q00,H.h28,q05];rfl
 have hd0:(due n ws).map tD≠[]:=by have:=(q27 g 0).mpr .z;intro z;rw[List.map_eq_nil_iff.mp z] at this;cases this
 obtain⟨d3,hd3,e3⟩:=q8q (G:=G) (ρ:=[some (.val s),some (.val (rD n ws)),some (.val (.lst ((due n ws).map tD))),none,none,none,none,none,none,none,none,none]) (i:=0) (j:=2) (c:=100) rfl rfl hd0 (H.h22 100);obtain⟨b,hb,rfl⟩:=List.mem_map.mp hd3;have s3:ex G subC lq_3 [some (.val s),some (.val (rD n ws)),some (.val (.lst ((due n ws).map tD))),none,none,none,none,none,none,none,none,none] = .ok [some (.val s),some (.val (rD n ws)),some (.val (.lst ((due n ws).map tD))),some (.val (tD b)),none,none,none,none,none,none,none,none] .nx:=by rw[lq_3,q0P];refine (congrArg (λ z:R D=>z.go _ _) e3).trans ?_;rfl
 generalize hrows:q1o (nds n ws) b 0=rows;have hcl:rows.length=cnt (nds n ws) b 0:=by rw[<-hrows];rfl
 have s4:ex G subC lq_4 [some (.val s),some (.val (rD n ws)),some (.val (.lst ((due n ws).map tD))),some (.val (tD b)),none,none,none,none,none,none,none,none] = .ok (qE s n ws b none none none none none none none) .nx:=by rw[lq_4,q0P,q0V (x:=rD n ws) (y:=tD b) rfl rfl (H.h30 b hb),q05];rfl
 have s5:ex G subC lq_5 (qE s n ws b none none none none none none none) = .ok (qE s n ws b (some (.val (nI rows.length))) none none none none none none) .nx:=by rw[lq_5,q0P,q28 (x:=nI 0) (y:=rD n ws) (z:=tD b) (w:=nI 0) rfl rfl rfl rfl (H.t0 b hb _),q05,hcl];rfl
 generalize hρ5:qE s n ws b (some (.val (nI rows.length))) none none none none none none=ρ5 at s5;have v1:ev G subC (.var 1) ρ5 = .ok (rD n ws):=by rw[<-hρ5];rfl
 have v3:ev G subC (.var 3) ρ5 = .ok (tD b):=by rw[<-hρ5];rfl
 have v4:ev G subC (.var 4) ρ5 = .ok (rowD rows):=by rw[<-hρ5,<-hrows];rfl
 have v5:ev G subC (.var 5) ρ5 = .ok (nI rows.length):=by rw[<-hρ5];rfl
 have l4:ev G subC (.bi .len [(.var 4)]) ρ5 = .ok (nI rows.length):=by rw[q16,evs1 v4,q00];show R.ok (nI (rows.map λ r=>D.lst (nL r)).length)=_;rw[List.length_map]
 have s6:ex G subC lq_6 ρ5 = .ok ρ5 .nx:=by
  have w1:ev G subC (.call 23 [(.var 5)]) ρ5 = .ok (.bl true):=by rw[q1G,evs1 v5,q00];exact H.h23 _
  exact q4P (qEW (by rw[q4f,q0W w1,q00];rfl) (q0W (q0X v5 l4 (by rw[ne_n];simp))))
 have s7:ex G subC lq_7 ρ5 = .ok ρ5 .nx:=by
  have it:evi G subC (.rng [(.bi .min2 [(.bi .len [(.var 4)]),(.con (.int 24))])]) ρ5 = .ok ((List.range (min rows.length 24)).map nI):=by have hm:min rows.length 24<=24:=Nat.min_le_right _ _;rw[q0l,evs1 (x:=nI (min rows.length 24)) (by rw[q16,evs2 l4 (y:= .int 24) rfl,q00,qKD]),q00,q2F _ (by lia)];rfl
  have c:=comp_map (G:=G) (ρ:=ρ5) (g:=λ i=>D.lst (nL (rows.getD i []))) (x:= .call 31 [(.con (.int 1)),(.var 2),(.var 4),(.var 0)]) it (λ i hi=>by have hi':=List.mem_range.mp hi;have hi2:i<rows.length:=Nat.lt_of_lt_of_le hi' (Nat.min_le_left _ _);obtain⟨R,h1,h2⟩:=H.t1 b hb i (by rw[<-hcl];exact hi2);rw[hrows] at h1;have:rows.getD i []=R:=(by rw[List.getD,h1];rfl);rw[this];exact q28 (x:=nI 1) (y:=rD n ws) (z:=tD b) (w:=nI i) rfl (by rw[<-hρ5];rfl) (by rw[<-hρ5];rfl) rfl h2) (by rw[List.length_range];have:min rows.length 24<=24:=Nat.min_le_right _ _;lia)
  have e:(List.range (min rows.length 24)).map (λ i=>D.lst (nL (rows.getD i [])))=(rows.map λ r=>D.lst (nL r)).take 24:=by
   refine List.ext_getElem? λ i=>?_;rw[List.getElem?_map,List.getElem?_take,List.getElem?_map]
   by_cases h:i<min rows.length 24
   ·have h1:i<24:=Nat.lt_of_lt_of_le h (Nat.min_le_right _ _);have h2:i<rows.length:=Nat.lt_of_lt_of_le h (Nat.min_le_left _ _);rw[List.getElem?_range h,if_pos h1,List.getElem?_eq_getElem h2];simp[List.getD,h2]
   ·rw[List.getElem?_eq_none (by rw[List.length_range];lia)]
    by_cases h1:i<24
    ·rw[if_pos h1,List.getElem?_eq_none (by lia)];rfl
    ·rw[if_neg h1];rfl
  have o1:optI [] = .ok none:=rfl;have o2:optI [.int 24] = .ok (some ((24:Nat):Int)):=rfl;have c2:ev G subC (.sl 0 (.var 4) [] [(.con (.int 24))]) ρ5 = .ok (rowD (rows.take 24)):=by rw[qBE,v4,q00,q0Z,q00,evs1 (x:= .int 24) rfl,q00,o1,q00,o2,q00];refine (qD3 (rows.map λ r=>D.lst (nL r)) 24).trans ?_;unfold rowD;rw[List.map_take]
  have c1:ev G subC qHT ρ5 = .ok (rowD (rows.take 24)):=by rw[qHT,c,e];unfold rowD;rw[List.map_take]
  rw[lq_7];exact q4P (q0W (q0X c1 c2 (q6e (qHb _) (qEh _))))
 have s8:ex G subC lq_8 ρ5 = .ok ρ5 .nx:=by
  have t1:ev G subC (.tup [(.neg (.con (.int 1))),(.bi .len [(.var 4)])]) ρ5 = .ok (.tup [.int (-1),nI rows.length]):=q2S (evs2 (qHH _) l4) (by simp);have it:evi G subC (.e (.tup [(.neg (.con (.int 1))),(.bi .len [(.var 4)])])) ρ5 = .ok ([D.int (-1),nI rows.length].map id):=by rw[q8M,t1,q00];rfl
  have c:=q5G (G:=G) (ρ:=ρ5) (d:=sNum) (x:= .call 31 [(.con (.int 1)),(.var 2),(.var 4),(.var 0)]) it (λ z hz=>q28 (x:=nI 1) (y:=rD n ws) (z:=tD b) (w:=z) rfl (by rw[<-hρ5];rfl) (by rw[<-hρ5];rfl) rfl (H.t1n b hb z (by
   rcases List.mem_cons.mp hz with h|h
   ·exact .inl h
   ·rw[List.mem_singleton] at h;rw[<-hcl];exact .inr h))) (by simp)
  have m2:opD .mul (.lst [sNum]) (.int 2) = .ok (.lst [sNum,sNum]):=by unfold opD mulD;dsimp only[intD];rw[if_pos (by decide)];rfl
  have c2:ev G subC (.op .mul (.lst [(.con (.str "number"))]) (.con (.int 2))) ρ5 = .ok (.lst [sNum,sNum]):=by have h1:ev G subC (.lst [(.con (.str "number"))]) ρ5 = .ok (.lst [sNum]):=q0y (evs1 rfl) (by simp);rw[q0O,h1,q00,q0F,q00,m2]
  rw[lq_8];exact q4P (q0W (q0X c c2 (q6e rfl (by simp[eqb,eqbL,sNum]))))
 obtain⟨f',k',j',r',g',e9⟩:=qFQ H hb none none [0,1,2,3] (some (.val (nI rows.length))) none none none none;have s9:ex G subC lq_9 ρ5 = .ok (qE s n ws b f' k' j' r' g' none none) .nx:=by
  have it:evi G subC (.rng [(.con (.int 4))]) ρ5 = .ok (nL [0,1,2,3]):=by rw[q0l,evs1 (x:=nI 4) rfl,q00,q2F 4 (by decide)];rfl
  rw[lq_9,q0w,it,q05,<-hρ5];exact e9
 generalize hρ9:qE s n ws b f' k' j' r' g' none none=ρ9 at s9;have v91:ev G subC (.var 1) ρ9 = .ok (rD n ws):=by rw[<-hρ9];rfl
 generalize hbl:((q12 n).filter (λ x=>!decide (x∈due n ws))).map tD++[.tup [nI n]]=bl;have hbln:bl≠[]:=by rw[<-hbl];simp
 have hslen:(q12 n).length<=32:=Nat.le_trans (q1Z (2^n) _ (q42 hn) λ x hx=>(q2g hn x).mp hx) (Nat.le_trans (Nat.pow_le_pow_right (by decide) hn) (by decide));have s10:ex G subC qHW ρ9 = .ok (qE s n ws b f' k' j' r' g' (some (.val (.lst bl))) none) .nx:=by
  have a1:ev G subC (.idx (.var 1) (.con (.int 0))) ρ9 = .ok (nI n):=by rw[q1d,v91,q00,q0F,q00,e6]
  have c1:evi G subC (.e (.call 26 [(.idx (.var 1) (.con (.int 0)))])) ρ9 = .ok ((q12 n).map tD):=by rw[q8M,q1G,evs1 a1,q00,H.h26,q00,q2K]
  have c2:q0c (ev G subC (.var 0)) (tsts G subC [(.e (.cm .nmem (.var 0) (.var 3)))]) 0 ρ9 ((q12 n).map tD) = .ok (((q12 n).filter λ x=>!decide (x∈due n ws)).map tD) :=
   q1D (us:=λ x=>[tD x]) λ x hx=>by refine⟨rfl,?_,λ _=>rfl⟩;have u0:ev G subC (.var 0) (some (.val (tD x))::ρ9) = .ok (tD x):=rfl;have u3:ev G subC (.var 3) (some (.val (tD x))::ρ9) = .ok (.lst ((due n ws).map tD)):=(by rw[<-hρ9];rfl);show tsts G subC _ (some (.val (tD x))::ρ9)=_;rw[q1x,q0W (q0X u0 u3 (qCk x (due n ws))),q00,q2Y];cases (!decide (x∈due n ws))<;>rfl
  have b1:(((q12 n).filter λ x=>!decide (x∈due n ws)).map tD).length<=32:=by rw[List.length_map];exact Nat.le_trans (List.length_filter_le _ _) hslen
  have c3:ev G subC lk_c ρ9 = .ok (.lst (((q12 n).filter λ x=>!decide (x∈due n ws)).map tD)):=by rw[lk_c,q1U,c1,q00,c2,q14,q00,if_pos (by rw[q0h];lia)]
  have c4:ev G subC (.lst [(.tup [(.idx (.var 1) (.con (.int 0)))])]) ρ9 = .ok (.lst [.tup [nI n]]):=q0y (evs1 (q2S (evs1 a1) (by simp))) (by simp);have c5:opD .add (.lst (((q12 n).filter λ x=>!decide (x∈due n ws)).map tD)) (.lst [.tup [nI n]]) = .ok (.lst bl):=by have:(((q12 n).filter λ x=>!decide (x∈due n ws)).map tD).length+[D.tup [nI n]].length<=big:=(by rw[q0h,List.length_singleton];lia);unfold opD;dsimp only[addD,lstD,tupD];rw[if_pos this,hbl]
  rw[qHW,q0P,q0O,c3,q00,c4,q00,c5,q05,<-hρ9];rfl
 obtain⟨bad,hbad,e11⟩:=q8q (G:=G) (ρ:=qE s n ws b f' k' j' r' g' (some (.val (.lst bl))) none) (i:=0) (j:=10) (c:=106) rfl rfl hbln (H.h22 106);have s11:ex G subC qHX (qE s n ws b f' k' j' r' g' (some (.val (.lst bl))) none) = .ok (qE s n ws b f' k' j' r' g' (some (.val (.lst bl))) (some (.val bad))) .nx:=by rw[qHX,q0P];refine (congrArg (λ z:R D=>z.go _ _) e11).trans ?_;rfl
 generalize hρ:qE s n ws b f' k' j' r' g' (some (.val (.lst bl))) (some (.val bad))=ρ at s11;have w1:ev G subC (.var 1) ρ = .ok (rD n ws):=by rw[<-hρ];rfl
 have tb:∀w,w<=1->∀z,G 31 [nI w,rD n ws,bad,z] = .ok q0j:=λ w hw z=>by
  rw[<-hbl] at hbad;rcases List.mem_append.mp hbad with h|h
  ·obtain⟨y,hy,rfl⟩:=List.mem_map.mp h;obtain⟨hy1,hy2⟩:=List.mem_filter.mp hy;exact H.tb w hw y ((q2g hn y).mp hy1) (by simpa using hy2) _
  ·rw[List.mem_singleton] at h;subst h;exact H.tc w hw _
 have it2:evi G subC (.rng [(.con (.int 2))]) ρ = .ok ([0,1].map nI):=by rw[q0l,evs1 (x:=nI 2) rfl,q00,q2F 2 (by decide)];rfl
 have le1:∀w∈[0,1],w<=1:=λ w hw=>by
  rcases List.mem_cons.mp hw with h|h
  ·lia
  ·rw[List.mem_singleton] at h;lia
 have s12:ex G subC qHY ρ = .ok ρ .nx:=by
  have c1:ev G subC qFN ρ = .ok (.lst [q0j,q0j]):=q5G (G:=G) (ρ:=ρ) (d:=q0j) (x:= .call 31 [(.var 0),(.var 2),(.var 12),(.con (.int 0))]) it2 (λ w hw=>q28 (x:=nI w) (y:=rD n ws) (z:=bad) (w:=nI 0) rfl (by rw[<-hρ];rfl) (by rw[<-hρ];rfl) rfl (tb w (le1 w hw) _)) (by simp);have a1:ev G subC (.idx (.var 1) (.con (.int 0))) ρ = .ok (nI n):=by rw[q1d,w1,q00,q0F,q00,e6]
  have c2:ev G subC (.lst [(.call 31 [(.con (.int 2)),(.var 1),(.lst [(.idx (.var 1) (.con (.int 0)))]),(.con (.int 0))])]) ρ = .ok (.lst [q0j]) :=
   q0y (evs1 (q28 (x:=nI 2) (y:=rD n ws) (z:= .lst [nI n]) (w:=nI 0) rfl w1 (q0y (evs1 a1) (by simp)) rfl (H.t2n _))) (by simp)
  have ad:opD .add (.lst [q0j,q0j]) (.lst [q0j]) = .ok (.lst [q0j,q0j,q0j]):=by unfold opD;dsimp only[addD,lstD];rw[if_pos (by decide)];rfl
  have m3:opD .mul (.lst [q0j]) (.int 3) = .ok (.lst [q0j,q0j,q0j]):=by unfold opD mulD;dsimp only[intD];rw[if_pos (by decide)];rfl
  have c3:ev G subC (.op .mul (.lst [(.con (.str "state"))]) (.con (.int 3))) ρ = .ok (.lst [q0j,q0j,q0j]):=by have h1:ev G subC (.lst [(.con (.str "state"))]) ρ = .ok (.lst [q0j]):=q0y (evs1 rfl) (by simp);rw[q0O,h1,q00,q0F,q00,m3]
  rw[qHY];exact q4P (q0W (q0X (by rw[q0O,c1,q00,c2,q00,ad]) c3 (q6e rfl (by simp[eqb,eqbL,q0j]))))
 have s13:ex G subC qHZ ρ = .ok ρ (.ret (.bl true)):=by
  have a9:∀q:Option Sl,ev G subC (.tup [(.con (.int 1)),(.lst [(.tup [(.con (.int 0)),(.tup [(.con (.int 0))])])])]) (q::ρ) = .ok (rulD 1 [(0,some [0])]):=λ q=>by have q1:ev G subC (.tup [(.con (.int 0))]) (q::ρ) = .ok (.tup [.int 0]):=q2S (evs1 rfl) (by simp);have q2:ev G subC (.tup [(.con (.int 0)),(.tup [(.con (.int 0))])]) (q::ρ) = .ok (.tup [.int 0,.tup [.int 0]]):=q2S (evs2 rfl q1) (by simp);exact q2S (evs2 rfl (q0y (evs1 q2) (by simp))) (by simp)
  have c1:ev G subC qFO ρ = .ok (.lst [q2H,q2H]):=q5G (G:=G) (ρ:=ρ) (d:=q2H) (x:= .call 31 [(.var 0),(.tup [(.con (.int 1)),(.lst [(.tup [(.con (.int 0)),(.tup [(.con (.int 0))])])])]),(.var 12),(.con (.int 0))]) it2 (λ w hw=>q28 (x:=nI w) (z:=bad) (w:=nI 0) rfl (a9 _) (by rw[<-hρ];rfl) rfl (H.tr w (le1 w hw) _ _)) (by simp);have m2:opD .mul (.lst [q2H]) (.int 2) = .ok (.lst [q2H,q2H]):=by unfold opD mulD;dsimp only[intD];rw[if_pos (by decide)];rfl
  have c3:ev G subC (.op .mul (.lst [(.con (.str "rules"))]) (.con (.int 2))) ρ = .ok (.lst [q2H,q2H]):=by have h1:ev G subC (.lst [(.con (.str "rules"))]) ρ = .ok (.lst [q2H]):=q0y (evs1 rfl) (by simp);rw[q0O,h1,q00,q0F,q00,m2]
  rw[qHZ,q77,q0X c1 c3 (qHG rfl (by simp[eqb,eqbL,q2H])),q05]
 refine q1m (ρ:=[some (.val s),none,none,none,none,none,none,none,none,none,none,none]) (ρ':=ρ) rfl ?_;rw[qLb,q04 s1,q04 s2,q04 s3,q04 s4,q04 s5,q04 s6,q04 s7,q04 s8,q04 s9,q04 s10,q04 s11,q04 s12];exact q17 s13
theorem qKE (zs:List Int):Gm 12 32 [.lst (zs.map D.int)] = .ok (.bl true):=by obtain⟨n,ws,H⟩:=qLZ 0 zs;exact (q0s 11 32 _ 1 12 qCR rfl rfl).trans (qEi H)
end Mk
namespace Tk
open PySem PySem.W L2 Ev Snd
def top (i:Nat):Stmt:=PySem.Challenge.pw_learnyard_k10_whole_rows.main.body.getD i (.Pass ⟨0,0,0,0⟩)
def q5I:DefI:=⟨"mask_of",top 8,["things", "mask", "thing"],["things"],[],[],Mk.q7g⟩
def q32:DefI:=⟨"things_of",top 9,["mask"],["mask"],[],[],Mk.q56⟩
def q8r:DefI:=⟨"holds",top 10,["mask", "thing"],["mask", "thing"],[],[],Mk.qCQ⟩
def q45:DefI:=⟨"needs_of",top 11,["rules", "needs", "way"],["rules"],["needs"],["needs"],Mk.q5o⟩
def q33:DefI:=⟨"may_learn",top 12,["needs", "known", "thing", "needed"],["needs", "known", "thing"],[],[],Mk.q57⟩
def q29:DefI:=⟨"next_within",top 13,["needs", "known", "bounds"],["needs", "known", "bounds"],[],[],Mk.q3X⟩
def q2A:DefI:=⟨"core_within",top 14,["needs", "bounds", "known", "later"],["needs", "bounds"],[],[],Mk.q3Y⟩
def q1n:DefI:=⟨"states_within",top 15,["needs", "bounds", "found", "waiting", "known", "thing", "larger"],["needs", "bounds"],["waiting", "found"],[],Mk.q2P⟩
def q46:DefI:=⟨"is_whole",top 19,["value"],["value"],[],[],Mk.q2f⟩
def q6j:DefI:=⟨"is_set",top 20,["count", "things", "ahead", "thing"],["count", "things"],[],[],Mk.q9o⟩
def q2T:DefI:=⟨"look_rules",top 21,["rules", "count", "ways", "way", "place"],["rules"],[],[],Mk.q4J⟩
def q47:DefI:=⟨"look_way",top 22,["count", "way", "thing", "needed"],["count", "way"],[],[],Mk.q1A⟩
def q48:DefI:=⟨"look_set",top 23,["rules", "things"],["rules", "things"],[],[],Mk.q1N⟩
def q2U:DefI:=⟨"look_state",top 24,["rules", "state"],["rules", "state"],[],[],Mk.q0N⟩
def q49:DefI:=⟨"is_state",top 25,["rules", "things"],["rules", "things"],[],[],Mk.q1B⟩
def qD4:DefI:=⟨"core",top 26,["rules", "things"],["rules", "things"],[],[],Mk.q4K⟩
def q6k:DefI:=⟨"is_row",top 28,["rules", "row", "needs", "known", "thing"],["rules", "row"],[],[],Mk.q4Y⟩
def q2B:DefI:=⟨"look_listed",top 29,["count", "row", "thing"],["count", "row"],[],[],Mk.q3Z⟩
def q4A:DefI:=⟨"how_many",top 30,["rules", "goal"],["rules", "goal"],[],[],Mk.q1C⟩
def q5J:DefI:=⟨"rows_on",top 31,["needs", "goal", "counts", "mask"],["needs", "goal"],["counts"],[],Mk.q7h⟩
def q6l:DefI:=⟨"row_at",top 32,["rules", "goal", "number", "needs", "end", "counts", "row", "known", "thing", "many"],["rules", "goal", "number"],["row"],[],Mk.q1P⟩
def q34:DefI:=⟨"_law_cell",top 34,["_law_script", "_law_k"],["_law_script", "_law_k"],[],[],Mk.q1b⟩
def q4B:DefI:=⟨"_law_mix",top 35,["_law_script", "_law_k", "_law_number"],["_law_script", "_law_k"],[],[],Mk.q2Q⟩
def q2V:DefI:=⟨"_law_whole",top 36,["_law_found"],["_law_found"],[],[],Mk.q2y⟩
def q2C:DefI:=⟨"_law_subset",top 37,["_law_script", "_law_k", "_law_things", "_law_number"],["_law_script", "_law_k", "_law_things"],[],[],Mk.q1u⟩
def q2W:DefI:=⟨"_law_rules",top 38,["_law_script", "_law_k", "_law_most", "_law_many", "_law_found", "_law_thing", "_law_others", "_law_j", "_law_needed"],["_law_script", "_law_k", "_law_most"],["_law_found"],[],Mk.q1k⟩
def q35:DefI:=⟨"_law_sets",top 39,["_law_many", "_law_found", "_law_thing"],["_law_many"],[],[],Mk.q0r⟩
def q36:DefI:=⟨"_law_next",top 40,["_law_rules_here", "_law_things", "_law_found", "_law_thing", "_law_good"],["_law_rules_here", "_law_things"],["_law_found"],[],Mk.q5p⟩
def q2D:DefI:=⟨"_law_states",top 41,["_law_rules_here", "_law_found", "_law_things", "_law_thing", "_law_less"],["_law_rules_here"],["_law_found"],[],Mk.q4L⟩
def q1v:DefI:=⟨"_law_refusal",top 42,["_law_kept", "_law_kinds"],["_law_kept"],[],[],Mk.q0T⟩
def q37:DefI:=⟨"_law_rows",top 43,["_law_rules_here", "_law_goal", "_law_rows_here", "_law_k", "_law_later", "_law_row"],["_law_rules_here", "_law_goal"],[],[],Mk.q5q⟩
def q38:DefI:=⟨"_law_told",top 44,["_law_way", "_law_rules_here", "_law_one", "_law_number", "_law_kept", "_law_found", "e"],["_law_way", "_law_rules_here", "_law_one", "_law_number"],[],[],Mk.q1c⟩
def qEj:DefI:=⟨"law",top 45,["_law_script", "_law_rules_here", "_law_due", "_law_goal", "_law_rows_here", "_law_found", "_law_k", "_law_j", "_law_row", "_law_good", "_law_none", "_law_bad"],["_law_script"],[],[],Mk.qCR⟩
noncomputable def tx:TxtI:={ds:=[q5I,q32,q8r,q45,q33,q29,q2A,q1n,q46,q6j,q2T,q47,q48,q2U,q49,qD4,q6k,q2B,q4A,q5J,q6l,q34,q4B,q2V,q2C,q2W,q35,q36,q2D,q1v,q37,q38,qEj],consts:=[("MOST_THINGS",.int 10),("MOST_WAYS",.int 1300)],excs:=["LearnError", "BadRules", "BadState", "Unlike", "BadNumber", "BadText"],sub:=Mk.subC}
local macro_rules|`(tactic| k_data)=>`(tactic| exact⟨⟨rfl,rfl,rfl,by decide +kernel,rfl,by decide +kernel,by decide +kernel⟩,by kernel_rfl,λ _ _ _ _ _ _ us hl=>by first|(obtain⟨a,e⟩:=qLC hl;subst e;rfl)|(obtain⟨a,b,e⟩:=qLD hl;subst e;rfl)|(obtain⟨a,b,c,e⟩:=qLE hl;subst e;rfl)|(obtain⟨a,b,c,d,e⟩:=qLF hl;subst e;rfl)⟩)
theorem qD5:DefOk tx q5I:=by k_data
theorem q8s:DefOk tx q32:=by k_data
theorem qHc:DefOk tx q8r:=by k_data
theorem qAd:DefOk tx q45:=by k_data
theorem q8t:DefOk tx q33:=by k_data
theorem q6m:DefOk tx q29:=by k_data
theorem q6n:DefOk tx q2A:=by k_data
theorem q5K:DefOk tx q1n:=by k_data
theorem qAe:DefOk tx q46:=by k_data
theorem qEk:DefOk tx q6j:=by k_data
theorem q83:DefOk tx q2T:=by k_data
theorem qAf:DefOk tx q47:=by k_data
theorem qAg:DefOk tx q48:=by k_data
theorem q84:DefOk tx q2U:=by k_data
theorem qAh:DefOk tx q49:=by k_data
theorem qKF:DefOk tx qD4:=by k_data
theorem qEl:DefOk tx q6k:=by k_data
theorem q6o:DefOk tx q2B:=by k_data
theorem qAi:DefOk tx q4A:=by k_data
theorem qD6:DefOk tx q5J:=by k_data
theorem qEm:DefOk tx q6l:=by k_data
theorem q8u:DefOk tx q34:=by k_data
theorem qAj:DefOk tx q4B:=by k_data
theorem q85:DefOk tx q2V:=by k_data
theorem q6p:DefOk tx q2C:=by k_data
theorem q86:DefOk tx q2W:=by k_data
theorem q8v:DefOk tx q35:=by k_data
theorem q8w:DefOk tx q36:=by k_data
theorem q6q:DefOk tx q2D:=by k_data
theorem q5N:DefOk tx q1v:=by k_data
theorem q8x:DefOk tx q37:=by k_data
theorem q8y:DefOk tx q38:=by k_data
theorem o_law:DefOk tx qEj:=by k_data
theorem qHd:∀d∈tx.ds,DefOk tx d:=by simp only[tx,List.forall_mem_cons];exact⟨qD5,q8s,qHc,qAd,q8t,q6m,q6n,q5K,qAe,qEk,q83,qAf,qAg,q84,qAh,qKF,qEl,q6o,qAi,qD6,qEm,q8u,qAj,q85,q6p,q86,q8v,q8w,q6q,q5N,q8x,q8y,o_law,λ _ h=>absurd h List.not_mem_nil⟩
theorem qLf:Mk.dsM=tx.ds.map λ d=>(d.ps.length,d.N.length,d.l):=rfl
theorem qKG:∀k:Nat,Snd.Gk tx k=Mk.Gm k
 |0=>rfl
 |k+1=>by
  funext f xs;rw[Snd.Gk,Mk.Gm,qLf,List.getElem?_map,qKG k];cases tx.ds[f]? with
  |none=>rfl
  |some d=>rfl
theorem qLg (ns:List Int) (_:ns.length<=63):Snd.Gk tx 12 32 [.lst (ns.map Ev.D.int)] = .ok (.bl true):=by rw[qKG];exact Mk.qKE ns
end Tk
namespace Tk
open PySem PySem.W L2 Ev Snd
theorem q3e {α:Type}{P:Nat->Prop}{l:List α}{x:α}{c:Nat}(h:l[c]? = some x) (hl:l.length=6) (h0:c=0->P 0) (h1:c=1->P 1) (h2:c=2->P 2) (h3:c=3->P 3) (h4:c=4->P 4) (h5:c=5->P 5):P c:=by
 have hc:c<6:=by rw[<-hl];exact (List.getElem?_eq_some_iff.mp h).1
 match c,hc with
 |0,_=>exact h0 rfl
 |1,_=>exact h1 rfl
 |2,_=>exact h2 rfl
 |3,_=>exact h3 rfl
 |4,_=>exact h4 rfl
 |5,_=>exact h5 rfl
theorem txt {K:PySem.W.Frag}{C0 C1 C2 C3 C4 C5:Addr}{t0 t1:Tok}(hf:∀d∈tx.ds,FnIn K d.name d.st) (hb:∀x∈q07,nsIn K mainGlobals x=some none)
  (k0:nsIn K mainGlobals "MOST_THINGS" = some (some (.int 10 t0)))
  (k1:nsIn K mainGlobals "MOST_WAYS" = some (some (.int 1300 t1)))
  (e0:ExcI K "LearnError" C0)
  (e1:ExcI K "BadRules" C1)
  (e2:ExcI K "BadState" C2)
  (e3:ExcI K "Unlike" C3)
  (e4:ExcI K "BadNumber" C4)
  (e5:ExcI K "BadText" C5)
  (hs:∀(e c:Nat) (Ce Cc:Addr),[C0,C1,C2,C3,C4,C5][e]? = some Ce->[C0,C1,C2,C3,C4,C5][c]? = some Cc->exmOne K (.ref Ce) (.ref Cc)=some (Mk.subC e c)/\kitOne K (.ref Ce) (.ref Cc)=some (Mk.subC e c)):TxtOk K tx ⟨K,[C0,C1,C2,C3,C4,C5]⟩:=by
 refine⟨rfl,λ j d h=>⟨qHd d (List.mem_of_getElem? h),hf d (List.mem_of_getElem? h)⟩,hb,λ x d h=>?_,λ c x h=>?_,λ c C h=>?_,hs⟩
 ·have h:List.lookup x [(("MOST_THINGS":Str),(D.int 10)),(("MOST_WAYS":Str),(D.int 1300))]=some d:=h;rw[List.lookup_cons] at h;split at h
  ·rename_i hx;cases h;cases beq_iff_eq.mp hx;exact⟨_,_,rfl,k0⟩
  rw[List.lookup_cons] at h;split at h
  ·rename_i hx;cases h;cases beq_iff_eq.mp hx;exact⟨_,_,rfl,k1⟩
  cases h
 ·refine q3e (P:=λ c=>∃C,[C0,C1,C2,C3,C4,C5][c]? = some C/\ExcI K x C) h rfl (λ z=>by subst z;cases h;exact⟨_,rfl,e0⟩) (λ z=>by subst z;cases h;exact⟨_,rfl,e1⟩) (λ z=>by subst z;cases h;exact⟨_,rfl,e2⟩) (λ z=>by subst z;cases h;exact⟨_,rfl,e3⟩) (λ z=>by subst z;cases h;exact⟨_,rfl,e4⟩) (λ z=>by subst z;cases h;exact⟨_,rfl,e5⟩)
 ·refine q3e (P:=λ c=>∃x,tx.excs[c]? = some x/\ExcI K x C) h rfl (λ z=>by subst z;cases h;exact⟨_,rfl,e0⟩) (λ z=>by subst z;cases h;exact⟨_,rfl,e1⟩) (λ z=>by subst z;cases h;exact⟨_,rfl,e2⟩) (λ z=>by subst z;cases h;exact⟨_,rfl,e3⟩) (λ z=>by subst z;cases h;exact⟨_,rfl,e4⟩) (λ z=>by subst z;cases h;exact⟨_,rfl,e5⟩)
end Tk
open PySem PySem.W PyProof.Rows L2 Ev Snd
namespace Tk
theorem qHe {p q:Program}{loose:List Str}{Xt:Shared->Bool}{α:Type}{Yf:Shared->α}{Ya:World->α}{N:Nat}{g0:Bool}{H₀:Params->Heap}{gs₀:Array GenState}{d₀:Drawn}{k₀:Nat}(op:∀w:World,(fencedOpening treeTable p w N).map (λ s=>(s.heap,s.gens,s.drawn,s.toks))=some (H₀ w.params,gs₀,d₀,k₀))
  (run:∀(w:World) (os:OsState),(topFrom treeTable p w N ⟨H₀ w.params,gs₀,d₀,k₀,os⟩).map (λ s=>(openSeen q loose (importedModules p.main.body) Xt g0 s,Yf s))=some (openGood q loose,Ya w)):LeftO p q loose Xt Yf Ya N g0:=λ w=>by
 obtain⟨⟨h,gs,d,k,os⟩,e,e'⟩:=Option.map_eq_some_iff.mp (op w);obtain⟨rfl,rfl,rfl,rfl⟩:h=H₀ w.params/\gs=gs₀/\d=d₀/\k=k₀:=by simpa using e'
 unfold openEnds;rw[e];exact run w os
def qKH:List Str:=(PySem.Challenge.pw_learnyard_k10_whole_rows.main.scope.names.map (·.1)).filter (· != "law")
def qP:Program:=view PySem.Challenge.pw_learnyard_k10_whole_rows [PySem.Challenge.pw_learnyard_k10_whole_rows.main.body.length-1]
set_option maxRecDepth 100000 in
theorem qLh:PySem.Challenge.rw_learnyard_k10_whole_rows.wellSaid=true:=by rw[Fast.te9446332074065402090];kernel_rfl
end Tk
local macro_rules|`(tactic| o_head $H)=>`(tactic| refine holds_open (q:=Tk.qP) (loose:=Tk.qKH) (Xt:=λ s=>xlAt Tk.qP [] s&&recOk (RowW.records (OpenRow.toRowW (OpenLaw.row PySem.Challenge.rw_learnyard_k10_whole_rows))) s) (XP:=XL Tk.qP []) (Yf:=Hook.obs $H) (Ya:=Hook.val $H) (YP:=Hook.says $H) (N:=9000) ?hl (Hook.of $H) (Hook.keeps $H) (λ s e=>xl_of s (Bool.and_eq_true_iff.mp e).1) XL.keeps (by rfl) (by rfl) (by rfl) (λ s e=>recFacts_of (Bool.and_eq_true_iff.mp e).2) (by rfl) (by assumption) (by decide +kernel) ⟨rfl,rfl,rfl,rfl,rfl,by decide +kernel⟩ ?hw ?hc)
set_option maxRecDepth 100000 in
set_option maxHeartbeats 0 in
theorem PySem.Challenge.cw_learnyard_k10_whole_rows_holds : PySem.Challenge.rw_learnyard_k10_whole_rows.Holds := by
 w_on
 refine holds_law Tk.qLh λ said=>?_
 k_head
 case hl =>
  refine Tk.qHe (boot_open (by kernel_rfl) (by kernel_rfl) (λ s=>by kernel_rfl)) λ w os=>?_
  unfold topFrom
  rw[Fast.te14082659384304107361,Fast.te14364793385576792824,Fast.te4187177175401517315]
  kernel_rfl
 (case hw=>w_witness2)
 k_fill
 refine Snd.walk (l:=PySem.Challenge.rw_learnyard_k10_whole_rows) (x := "_law_script") 12 rfl rfl ⟨rfl,by decide,by decide⟩ (λ w h Y=>PySem.W.kIn_of Y) ?F
 case F =>
  intro w mg fa h KX G hmg
  have b_len:nsIn (L2.KOf KX) mainGlobals "len" = some none:=by dsimp only[L2.KOf];k_is
  have b_sorted:nsIn (L2.KOf KX) mainGlobals "sorted" = some none:=by dsimp only[L2.KOf];k_is
  have b_tuple:nsIn (L2.KOf KX) mainGlobals "tuple" = some none:=by dsimp only[L2.KOf];k_is
  have b_list:nsIn (L2.KOf KX) mainGlobals "list" = some none:=by dsimp only[L2.KOf];k_is
  have b_sum:nsIn (L2.KOf KX) mainGlobals "sum" = some none:=by dsimp only[L2.KOf];k_is
  have b_all:nsIn (L2.KOf KX) mainGlobals "all" = some none:=by dsimp only[L2.KOf];k_is
  have b_int:nsIn (L2.KOf KX) mainGlobals "int" = some none:=by dsimp only[L2.KOf];k_is
  have b_abs:nsIn (L2.KOf KX) mainGlobals "abs" = some none:=by dsimp only[L2.KOf];k_is
  have b_range:nsIn (L2.KOf KX) mainGlobals "range" = some none:=by dsimp only[L2.KOf];k_is
  have b_isinstance:nsIn (L2.KOf KX) mainGlobals "isinstance" = some none:=by dsimp only[L2.KOf];k_is
  have b_set:nsIn (L2.KOf KX) mainGlobals "set" = some none:=by dsimp only[L2.KOf];k_is
  have b_bool:nsIn (L2.KOf KX) mainGlobals "bool" = some none:=by dsimp only[L2.KOf];k_is
  have b_ValueError:nsIn (L2.KOf KX) mainGlobals "ValueError" = some none:=by dsimp only[L2.KOf];k_is
  have b_min:nsIn (L2.KOf KX) mainGlobals "min" = some none:=by dsimp only[L2.KOf];k_is
  have b_max:nsIn (L2.KOf KX) mainGlobals "max" = some none:=by dsimp only[L2.KOf];k_is
  have F:∀d∈Tk.tx.ds,FnIn (L2.KOf KX) d.name d.st:=by
   dsimp only[L2.KOf]
   simp only[Tk.tx,List.forall_mem_cons,Tk.q5I,Tk.q32,Tk.q8r,Tk.q45,Tk.q33,Tk.q29,Tk.q2A,Tk.q1n,Tk.q46,Tk.q6j,Tk.q2T,Tk.q47,Tk.q48,Tk.q2U,Tk.q49,Tk.qD4,Tk.q6k,Tk.q2B,Tk.q4A,Tk.q5J,Tk.q6l,Tk.q34,Tk.q4B,Tk.q2V,Tk.q2C,Tk.q2W,Tk.q35,Tk.q36,Tk.q2D,Tk.q1v,Tk.q37,Tk.q38,Tk.qEj]
   refine' ⟨?_,?_,?_,?_,?_,?_,?_,?_,?_,?_,?_,?_,?_,?_,?_,?_,?_,?_,?_,?_,?_,?_,?_,?_,?_,?_,?_,?_,?_,?_,?_,?_,?_,λ _ z=>absurd z List.not_mem_nil⟩<;>(refine' qGg ?a ?l ?c ?k;(case a=>k_is);(case l=>k_is);(case c=>k_is);(case k=>k_is))
  have T:∃p,TxtOk (L2.KOf KX) Tk.tx p:=by
   dsimp only[L2.KOf]
   refine' ⟨_,Tk.txt (t0:=359) (t1:=361) (λ d h=>by simpa only [L2.KOf] using F d h) ?hb ?zk0 ?zk1 ⟨?za0,?zx0,⟨?zg0,?zh0,?zb0,?zo0,?zs0,?zt0,?zm0,?zc0⟩,?zv0⟩ ⟨?za1,?zx1,⟨?zg1,?zh1,?zb1,?zo1,?zs1,?zt1,?zm1,?zc1⟩,?zv1⟩ ⟨?za2,?zx2,⟨?zg2,?zh2,?zb2,?zo2,?zs2,?zt2,?zm2,?zc2⟩,?zv2⟩ ⟨?za3,?zx3,⟨?zg3,?zh3,?zb3,?zo3,?zs3,?zt3,?zm3,?zc3⟩,?zv3⟩ ⟨?za4,?zx4,⟨?zg4,?zh4,?zb4,?zo4,?zs4,?zt4,?zm4,?zc4⟩,?zv4⟩ ⟨?za5,?zx5,⟨?zg5,?zh5,?zb5,?zo5,?zs5,?zt5,?zm5,?zc5⟩,?zv5⟩ ?hs⟩
   (case za0=>k_is);(case zx0=>k_exc);(case zg0=>k_is);(case zh0=>k_is);(case zb0=>k_is);(case zo0=>k_is);(case zs0=>k_is);(case zt0=>k_is);(case zm0=>k_is);(case zc0=>k_is);(case zv0=>kit_is)
   (case za1=>k_is);(case zx1=>k_exc);(case zg1=>k_is);(case zh1=>k_is);(case zb1=>k_is);(case zo1=>k_is);(case zs1=>k_is);(case zt1=>k_is);(case zm1=>k_is);(case zc1=>k_is);(case zv1=>kit_is)
   (case za2=>k_is);(case zx2=>k_exc);(case zg2=>k_is);(case zh2=>k_is);(case zb2=>k_is);(case zo2=>k_is);(case zs2=>k_is);(case zt2=>k_is);(case zm2=>k_is);(case zc2=>k_is);(case zv2=>kit_is)
   (case za3=>k_is);(case zx3=>k_exc);(case zg3=>k_is);(case zh3=>k_is);(case zb3=>k_is);(case zo3=>k_is);(case zs3=>k_is);(case zt3=>k_is);(case zm3=>k_is);(case zc3=>k_is);(case zv3=>kit_is)
   (case za4=>k_is);(case zx4=>k_exc);(case zg4=>k_is);(case zh4=>k_is);(case zb4=>k_is);(case zo4=>k_is);(case zs4=>k_is);(case zt4=>k_is);(case zm4=>k_is);(case zc4=>k_is);(case zv4=>kit_is)
   (case za5=>k_is);(case zx5=>k_exc);(case zg5=>k_is);(case zh5=>k_is);(case zb5=>k_is);(case zo5=>k_is);(case zs5=>k_is);(case zt5=>k_is);(case zm5=>k_is);(case zc5=>k_is);(case zv5=>kit_is)
   (case hs =>
    intro e c Ce Cc h1 h2
    refine Tk.q3e (P:=λ e=>exmOne _ (.ref Ce) (.ref Cc)=some (Mk.subC e c)/\kitOne _ (.ref Ce) (.ref Cc)=some (Mk.subC e c)) h1 rfl ?_ ?_ ?_ ?_ ?_ ?_<;>
    (intro z;subst z;cases h1;refine Tk.q3e (P:=λ c=>exmOne _ _ (.ref Cc)=some (Mk.subC _ c)/\kitOne _ _ (.ref Cc)=some (Mk.subC _ c)) h2 rfl ?_ ?_ ?_ ?_ ?_ ?_<;>(intro z;subst z;cases h2;refine⟨?_,?_⟩;kts_exm;kit_is)))
   (case zk0=>kernel_rfl)
   (case zk1=>kernel_rfl)
   (case hb=>simp only[q07,List.forall_mem_cons];exact⟨b_len,b_sorted,b_tuple,b_list,b_sum,b_all,b_int,b_abs,b_range,b_isinstance,b_set,b_bool,b_ValueError,b_min,b_max,λ _ z=>absurd z List.not_mem_nil⟩)
  obtain⟨p,T⟩:=T
  obtain⟨fd,hb,hF⟩:=Snd.qJc (l:=PySem.Challenge.rw_learnyard_k10_whole_rows) (w:=w) (j:=32) (d:=Tk.qEj) (x := "_law_script") Snd.sset T KX G rfl rfl hmg 12
  exact⟨fd,hb,λ base kb nb=>(hF base kb nb).imp (Snd.qC7 T.pk Tk.qLg)⟩
