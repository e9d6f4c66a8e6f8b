import PyProof.Rows.All
import Wide.All
import OpenK.AllK
import Wide.FinOn
import PyProof.EqAt
import PyProof.EqKinds
import PyProof.TupleCall
import PySem.Syntax
import PySem.Sem
import PyProof.NeKinds
import PyProof.TupleKey
import KE.KSortTup
import OpenK.KOwn
import KE.KTryMore
import PyProof.NsDelKeeps
import PyProof.RulesAs
import PyProof.ListRange
import PyProof.Rows.SortRev
import PySem.SetOps
import PyProof.SetKind
import PyProof.DictKinds
import PyProof.Rows.SetFrom
import PyProof.WalksMore
import PyProof.FactsAll.set_1
import PyProof.FactsBase
import PyProof.TableTree
import PyProof.FactsTree
import PyProof.PlainAttrs
import PyProof.TableCode
import PySem.Challenge.RW_learnyard_k20_whole_fringes
open List renaming mem_cons_of_mem → Qa, mem_cons_self → Qb, getElem?_eq_some_iff → Qc, replicate → Qe, mem_cons → Qf, range → Qg, length_map → Qh, mem_append_right → Qj, mem_of_getElem? → Qk, getElem?_eq_getElem → Ql, mem_append → Qm, length_cons → Qo, mem_map → Qq, size_toArray → Qr, getElem?_map → Qs, mem_singleton → Qt, length_filter_le → Qu, mem_append_left → Qv, all_eq_true → Qw, map_cons → Qx, flatten_cons → Qy, nodup_append → Qz, length_append → QA, nodup_cons → QD, mem_range → QE, pairwise_cons → QF, mem_filter → QG, getElem?_append_left → QI, length_range → QK, length_singleton → QN, isEmpty_iff → QO, lookup_cons → QP, append_nil → QR, filter_cons → QS, getElem?_append_right → QT, mem_flatten → QU, getElem_mem → QW, getElem_of_mem → QX, set_cons_succ → QY, set_cons_zero → QZ, any_cons → Q0, any_eq_true → Q1, pairwise_lt_range → Q2, filterMap_cons → Q3, length_replicate → Q4, length_nil → Q5, getElem?_set_self → Q8, getElem?_eq_none_iff → Q9, pairwise_iff_getElem → Ja, getElem?_eq_none → Jb, getElem?_set_ne → Je, forall_mem_cons → Jf, pairwise_map → Jh, replicate_succ → Ji, toArray → Jk, take_of_length_le → Jl, getD → Jm, nodup_range → Jn, not_mem_nil → Jo, nodup_nil → Jp, take_append_drop → Jr, find?_cons → Js, map_append → Jt, map_map → Jv, append_assoc → Jw, length_erase_of_mem → Jx, getElem?_range → Jy, length_take → Jz, length_eq_zero_iff → JA, zip_cons_cons → JC
open Bool renaming and_eq_true → Qd, eq_iff_iff → QB, false_eq_true → QL, or_eq_true → Q6, not_false → Jq
open Nat renaming le_refl → Qi, le_trans → Qn, lt_of_lt_of_le → Qp, pow_le_pow_right → QC, ne_of_lt → QH, zero_le → QM, eq_of_testBit_eq → QV, lt_succ_self → Q7, lt_of_le_of_lt → Jc, lt_irrefl → Jd, lt_succ_of_lt → Jg, one_shiftLeft → Ju
open Classical renaming byContradiction → QJ, propDecidable → JB
open Option renaming some → QQ, map_eq_some_iff → Jj
noncomputable section
set_option Elab.async false
set_option linter.all false
set_option maxRecDepth 100000
namespace L2
open PySem PySem.Spec PyProof.Rows
abbrev Key:=Sum Int Str
def qAL:Key->Value->Bool
 | .inl k,v=>Value.isInt k v
 | .inr x,v=>Value.isStrOf x v
def keyH (w:World):Key->Int
 | .inl k=>hashInt k
 | .inr x=>hashStr w x
theorem q0V:∀{k:Key}{v:Value},qAL k v=true->(∃i t,k=Sum.inl i/\v=Value.int i t)\/(∃x t,k=Sum.inr x/\v=Value.str x t)
 | .inl i,v,h=>by obtain⟨t,e⟩:=Value.isInt_shape (k:=i) (v:=v) h;exact .inl ⟨i,t,rfl,e⟩
 | .inr x,v,h=>by obtain⟨t,e⟩:=Value.isStrOf_shape (x:=x) (v:=v) h;exact .inr ⟨x,t,rfl,e⟩
theorem qAr (i:Int) (t:Tok):qAL (.inl i) (.int i t)=true:=by simp[qAL,Value.isInt]
theorem qAs (x:Str) (t:Tok):qAL (.inr x) (.str x t)=true:=by simp[qAL,Value.isStrOf]
theorem qI5 (a b:Int):decide ((Sum.inl a:Key)=Sum.inl b)=(a==b):=by
 by_cases e:a=b
 ·subst e;simp
 ·have h:¬(Sum.inl a:Key)=Sum.inl b:=λ q=>e (Sum.inl.inj q);rw[decide_eq_false h];exact (beq_eq_false_iff_ne.mpr e).symm
theorem qI6 (a b:Str):decide ((Sum.inr a:Key)=Sum.inr b)=decide (a=b):=by
 by_cases e:a=b
 ·subst e;simp
 ·have h:¬(Sum.inr a:Key)=Sum.inr b:=λ q=>e (Sum.inr.inj q);rw[decide_eq_false h,decide_eq_false e]
theorem qI7 (a:Int) (b:Str):decide ((Sum.inl a:Key)=Sum.inr b)=false:=decide_eq_false (λ q=>nomatch q)
theorem qI8 (a:Str) (b:Int):decide ((Sum.inr a:Key)=Sum.inl b)=false:=decide_eq_false (λ q=>nomatch q)
def q0g (prog:Program) (w:World):PySem.KeyKind prog w Key where
 is:=qAL
 hash:=keyH w
 inj:=λ v a b ha hb=>by
  rcases q0V ha with ⟨i,t,rfl,rfl⟩|⟨x,t,rfl,rfl⟩
  ·rcases q0V hb with ⟨j,u,rfl,e⟩|⟨y,u,rfl,e⟩
   ·injection e with e1 _;rw[e1]
   ·exact nomatch e
  ·rcases q0V hb with ⟨j,u,rfl,e⟩|⟨y,u,rfl,e⟩
   ·exact nomatch e
   ·injection e with e1 _;rw[e1]
 byValue:=λ k v h=>by rcases q0V h with ⟨i,t,rfl,rfl⟩|⟨x,t,rfl,rfl⟩<;>rfl
 pyHash:=λ hv h=>by
  rcases q0V hv with ⟨i,t,rfl,rfl⟩|⟨x,t,rfl,rfl⟩
  ·exact wpAny_pyHash_int h
  ·exact wpAny_pyHash_str h
 eqBool:=λ hu hv h=>by
  rcases q0V hu with ⟨i,t,rfl,rfl⟩|⟨x,t,rfl,rfl⟩
  ·rcases q0V hv with ⟨j,u,rfl,rfl⟩|⟨y,u,rfl,rfl⟩
   ·rw[qI5] at h;exact wpAny_eqBool_int h
   ·rw[qI7] at h;exact SeqAt.EqAt.int_str i t y u _ _ _ _ h
  ·rcases q0V hv with ⟨j,u,rfl,rfl⟩|⟨y,u,rfl,rfl⟩
   ·rw[qI8] at h;exact SeqAt.EqAt.str_int x t j u _ _ _ _ h
   ·rw[qI6] at h;exact wpAny_eqBool_str h
 «strs»:=λ k x t v h=>by
  rcases q0V h with ⟨i,u,rfl,e⟩|⟨y,u,rfl,e⟩
  ·exact nomatch e
  ·injection e with e1 _
   subst e1;cases v<;>rfl
theorem q8J (prog:Program) (w:World) (i:Int) (t:Tok):(q0g prog w).is (.inl i) (.int i t)=true:=qAr i t
theorem q8K (prog:Program) (w:World) (x:Str) (t:Tok):(q0g prog w).is (.inr x) (.str x t)=true:=qAs x t
end L2
namespace L2
open PySem PySem.Spec PyProof.Rows
variable {b:Addr}
inductive V where
 |non|bl (b:Bool)|int (i:Int)|str (x:Str)|byt (b:Array UInt8)|flt (b:UInt64)|ref (a:Addr)|ty (n:String)
 deriving DecidableEq
def RelV:V->Value->Prop
 | .non,u=>u=Value.none
 | .bl b,u=>u=Value.bool b
 | .int i,u=>∃t,u=Value.int i t
 | .str x,u=>∃t,u=Value.str x t
 | .byt b,u=>∃t,u=Value.bytes b t
 | .flt b,u=>∃t,u=Value.float b t
 | .ref a,u=>u=Value.ref a
 | .ty n,u=>u=Value.type n
abbrev Vals:List V->List Value->Prop:=Paired RelV
theorem Vals.length {xs:List V}{us:List Value}(r:Vals xs us):xs.length=us.length:=Paired.length r
theorem Vals.get:∀{xs:List V}{us:List Value}{i:Nat}{x:V},Vals xs us->xs[i]? = some x->∃u,us[i]? = some u/\RelV x u
 |_,_,_,_,.nil,e=>by simp at e
 |_,_,0,_,.cons r _,e=>by simp at e;subst e;exact⟨_,rfl,r⟩
 |_,_,i+1,x,.cons _ t,e=>by obtain⟨u,h1,h2⟩:=Vals.get (i:=i) (x:=x) t (by simpa using e);exact⟨u,by simpa using h1,h2⟩
theorem Vals.append:∀{xs ys:List V}{us ws:List Value},Vals xs us->Vals ys ws->Vals (xs++ys) (us++ws)
 |_,_,_,_,.nil,s=>s
 |_,_,_,_,.cons r t,s=> .cons r (Vals.append t s)
theorem Vals.take:∀{xs:List V}{us:List Value}(n:Nat),Vals xs us->Vals (xs.take n) (us.take n)
 |_,_,0,_=> .nil
 |_,_,_+1,.nil=> .nil
 |_,_,n+1,.cons r t=> .cons r (Vals.take n t)
theorem Vals.drop:∀{xs:List V}{us:List Value}(n:Nat),Vals xs us->Vals (xs.drop n) (us.drop n)
 |_,_,0,r=>r
 |_,_,_+1,.nil=> .nil
 |_,_,n+1,.cons _ t=>Vals.drop n t
theorem Vals.none_of:∀{xs:List V}{us:List Value}{i:Nat},Vals xs us->xs[i]? = none->us[i]? = none:=λ {xs us i} r e=>by have h1:=r.length;have h2:xs.length<=i:=Q9.mp e;exact Q9.mpr (by lia)
def RelO:Option V->Option Value->Prop
 |some v,some u=>RelV v u
 |none,none=>True
 |_,_=>False
def KV {κ:Type}:List (κ×V)->List (κ×Value)->Prop:=Paired λ (p:κ×V) (q:κ×Value)=>p.1=q.1/\RelV p.2 q.2
def kV:Key->V
 | .inl i=> .int i
 | .inr x=> .str x
inductive HO where
 /-- a list -/
 |lst (xs:List V)
 /-- a tuple (never changes) -/
 |tup (xs:List V)
 /-- a dict whose keys are ints and texts;one whose keys are tuples of ints and texts (the empty one is both) -/
 |dK (kvs:List (Key×V))|dT (kvs:List (List Key×V))
 /-- a set of ints: its members,its size -/
 |set (S:Int->Bool) (n:Nat)
 /-- an instance of the class at C,its dict at dx,its attributes -/
 |ins (C dx:Addr) (fs:List (Str×V))
 /-- the dict of the instance at x -/
 |own (x:Addr)
 /-- the dict of an exception -/
 |xd (fs:List (Str×V))
 /-- a bound method,f of x -/
 |met (f x:Addr)
 /-- a range object lo,lo+1,.. below hi -/
 |rng (lo hi:Int)
 /-- a thing that is known to the object (the script;a dict while a loop walks it): read,never written while it is so -/
 |frz (o:Obj) (u:HO)
 /-- a code object's table -/
 |tbl (ps:Array Value)
 /-- any other thing,by what is true of its one object (a def of one's own: SetO a S n:=HO.ext λ h=> ..) -/
 |ext (φ:Heap->Prop)
abbrev Hp:=Addr->Option HO
def upd (H:Hp) (a:Addr) (o:HO):Hp:=λ b=>if b=a then some o else H b
theorem q0B {H:Hp}{a:Addr}{o:HO}:upd H a o a=some o:=by unfold upd;rw[if_pos rfl]
theorem q07 {H:Hp}{a:Addr}{o:HO}(h:b≠a):upd H a o b=H b:=by unfold upd;rw[if_neg h]
theorem qKz {H:Hp}{a:Addr}{o u:HO}(h:H a=some o) (h':H b=some u) (d:o≠u):a≠b:=by intro e;subst e;rw[h] at h';exact d (QQ.inj h')
theorem q08 {H:Hp}{a:Addr}{o:HO}(h:H a=some o) (h':H b=none):a≠b:=by intro e;subst e;rw[h] at h';cases h'
section
variable (P:Program) (w:World)
def q1O (H:Hp) (h:Heap) (a:Addr):HO->Prop
 | .lst xs=>xs.length<=sizeLine/\∃(its:List Value) (n:Nat),Vals xs its/\h.get? a=some {cls:= .type "list",data:= .seq its.toArray n}
 | .tup xs=>xs.length<=sizeLine/\∃its:List Value,Vals xs its/\IsTup h a its.toArray
 | .dK kvs=>kvs.length<=sizeLine/\(a==sysModules)=false/\∃vs,KV kvs vs/\h.DictOf (q0g P w) a vs
 | .dT kvs=>kvs.length<=sizeLine/\(a==sysModules)=false/\∃xs:List (List Key×Addr×Value),
   Paired (λ (p:List Key×V) (q:List Key×Addr×Value)=>p.1=q.1/\H q.2.1=some (.tup (p.1.map kV))/\RelV p.2 q.2.2) kvs xs/\
   ∃o es ep,h.get? a=some o/\o.ExactDict/\o.data = .dict es ep/\es.toList=xs.map (entryOfKey (tupleKind (q0g P w)))/\(xs.map (·.1)).Nodup
 | .set S n=>h.SetOf (intKind P w) a S n
 | .ins C dx fs=>H dx=some (.own a)/\fs.length<=1000/\dx≠a/\h.get? a=some (PySem.W.instObj C dx)/\
   ∃mA,h.Ns1 dx mA/\(∀f,RelO (fs.lookup f) (mA f))/\PySem.Within mA (fs.map (·.1))
 | .own _=>∃o,h.get? a=some o
 | .xd fs=>∃mA,h.Ns1 a mA/\∀f,RelO (fs.lookup f) (mA f)
 | .rng lo hi=>∃t u v,h.get? a=some {cls:= .type "range",data:= .fields #[.int lo t,.int hi u,.int 1 v]}
 | .frz o u=>h.get? a=some o/\q1O H h a u
 | .tbl ps=>h.get? a=some {cls:= .none,data:= .fields ps}
 | .met f x=>h.get? a=some (PySem.W.methodObj (.ref f) (.ref x))
 | .ext φ=>φ h/\(∃o,h.get? a=some o)/\∀h1 h2:Heap,φ h1->(∀o,h1.get? a=some o->h2.get? a=some o)->φ h2
def HOk (H:Hp) (h:Heap):Prop:=∀a o,H a=some o->q1O P w H h a o
end
section
variable {P:Program}{w:World}{H H':Hp}{h h':Heap}{a:Addr}{o:HO}
theorem q1O.lt (x:q1O P w H h a o):a<h.objs.size:=by
 cases o with
 |lst xs=>obtain⟨_,_,_,_,e⟩:=x;exact Heap.lt_size e
 |tup xs=>obtain⟨_,_,_,p⟩:=x;exact p.lt
 |dK kvs=>obtain⟨_,_,_,_,o,_,_,e,_⟩:=x;exact Heap.lt_size e
 |dT kvs=>obtain⟨_,_,_,_,o,_,_,e,_⟩:=x;exact Heap.lt_size e
 |set S n=>obtain⟨o,_,_,_,e,_⟩:=x;exact Heap.lt_size e
 |ins C dx fs=>obtain⟨_,_,_,e,_⟩:=x;exact Heap.lt_size e
 |own y=>obtain⟨_,e⟩:=x;exact Heap.lt_size e
 |xd fs=>obtain⟨_,⟨_,_,_,e,_⟩,_⟩:=x;exact Heap.lt_size e
 |rng lo hi=>obtain⟨_,_,_,e⟩:=x;exact Heap.lt_size e
 |frz ob u=>obtain⟨e,_⟩:=x;exact Heap.lt_size e
 |tbl ps=>exact Heap.lt_size (show h.get? a=some _ from x)
 |met f y=>exact Heap.lt_size (show h.get? a=some _ from x)
 |ext φ=>obtain⟨_,⟨_,e⟩,_⟩:=x;exact Heap.lt_size e
theorem Paired.mapP {α β:Type}{F G:α->β->Prop}:∀{l₁:List α}{l₂:List β},Paired F l₁ l₂->(∀a b,F a b->G a b)->Paired G l₁ l₂
 |_,_,.nil,_=> .nil
 |_,_,.cons r t,f=> .cons (f _ _ r) (Paired.mapP t f)
theorem q1O.stay (x:q1O P w H h a o) (k:∀b u,(b=a\/H b=some (.own a))->h.get? b=some u->h'.get? b=some u)
  (ho:∀b,H b=some (.own a)->H' b=some (.own a)) (ht:∀b xs,H b=some (.tup xs)->H' b=some (.tup xs)):q1O P w H' h' a o:=by
 induction o with
 |lst xs=>obtain⟨z,its,n,r,e⟩:=x;exact⟨z,its,n,r,k _ _ (.inl rfl) e⟩
 |tup xs=>obtain⟨z,its,r,ob,e,c⟩:=x;exact⟨z,its,r,ob,k _ _ (.inl rfl) e,c⟩
 |dK kvs=>obtain⟨z,y,vs,r,ob,es,ep,e,c⟩:=x;exact⟨z,y,vs,r,ob,es,ep,k _ _ (.inl rfl) e,c⟩
 |dT kvs =>
  obtain⟨z,y,xs,r,ob,es,ep,e,c⟩:=x;exact⟨z,y,xs,Paired.mapP r λ p q z=>⟨z.1,ht _ _ z.2.1,z.2.2⟩,ob,es,ep,k _ _ (.inl rfl) e,c⟩
 |set S n=>obtain⟨ob,es,ep,t,e,c⟩:=x;exact⟨ob,es,ep,t,k _ _ (.inl rfl) e,c⟩
 |ins C dx fs =>
  obtain⟨d,z,ne,e,mA,⟨od,es,ep,e2,c⟩,r⟩:=x;exact⟨ho _ d,z,ne,k _ _ (.inl rfl) e,mA,⟨od,es,ep,k _ _ (.inr d) e2,c⟩,r⟩
 |own y=>obtain⟨ob,e⟩:=x;exact⟨ob,k _ _ (.inl rfl) e⟩
 |xd fs=>obtain⟨mA,⟨od,es,ep,e,c⟩,r⟩:=x;exact⟨mA,⟨od,es,ep,k _ _ (.inl rfl) e,c⟩,r⟩
 |rng lo hi=>obtain⟨t,u,v,e⟩:=x;exact⟨t,u,v,k _ _ (.inl rfl) e⟩
 |frz ob u ih=>obtain⟨e,q⟩:=x;exact⟨k _ _ (.inl rfl) e,ih q⟩
 |tbl ps =>
  have e:h.get? a=some {cls:= .none,data:= .fields ps}:=x;show h'.get? a=some {cls:= .none,data:= .fields ps};exact k a _ (.inl rfl) e
 |met f y =>
  have e:h.get? a=some (PySem.W.methodObj (.ref f) (.ref y)):=x;show h'.get? a=some (PySem.W.methodObj (.ref f) (.ref y));exact k a _ (.inl rfl) e
 |ext φ=>obtain⟨p,⟨o,e⟩,st⟩:=x;exact⟨st _ _ p λ o q=>k _ _ (.inl rfl) q,⟨o,k _ _ (.inl rfl) e⟩,st⟩
theorem HOk.lt (x:HOk P w H h) (e:H a=some o):a<h.objs.size:=(x a o e).lt
theorem HOk.fresh (x:HOk P w H h) (e:h.objs.size<=a):H a=none:=by
 cases q:H a with
 |none=>rfl
 |some u=>exact absurd (Qp (x.lt q) e) (Jd _)
theorem HOk.kept (x:HOk P w H h) (k:∀b u,h.get? b=some u->h'.get? b=some u):HOk P w H h':=λ a o e =>
 (x a o e).stay (λ b u _ q=>k b u q) (λ _ q=>q) λ _ _ q=>q
theorem HOk.laid (x:HOk P w H h) (k:∀b u,h.get? b=some u->h'.get? b=some u) (hp:h.objs.size<=a) (new:q1O P w (upd H a o) h' a o):HOk P w (upd H a o) h':=λ b u e=>by
 have hn:=x.fresh hp
 by_cases hb:b=a
 ·subst hb;rw[q0B] at e;cases e;exact new
 ·rw[q07 hb] at e;exact (x b u e).stay (λ c v _ q=>k c v q) (λ c q=>by rw[q07 (q08 q hn)];exact q) λ c xs q=>by rw[q07 (q08 q hn)];exact q
end
def Rd (H:Hp) (a:Addr) (u:HO):Prop:=H a=some u\/∃o,H a=some (.frz o u)
theorem Rd.ok {P:Program}{w:World}{H:Hp}{h:Heap}{a:Addr}{u:HO}(r:Rd H a u) (x:HOk P w H h):q1O P w H h a u:=by
 rcases r with r|⟨o,r⟩
 ·exact x a u r
 ·obtain⟨_,q⟩:=x a _ r;exact q
def Mut:Option HO->Prop
 |some (.lst _)=>True
 |some (.dK _)=>True
 |some (.dT _)=>True
 |some (.set _ _)=>True
 |some (.ins _ _ _)=>True
 |some (.ext _)=>True
 |_=>False
section
variable {P:Program}{w:World}{H:Hp}{h h':Heap}{x e:Addr}{o':HO}
theorem HOk.write (ok:HOk P w H h) (mu:Mut (H x)) (he:e=x\/H e=some (.own x)) (k:∀b u,b≠e->h.get? b=some u->h'.get? b=some u) (heo:∃u,h'.get? e=some u)
  (new:q1O P w (upd H x o') h' x o'):HOk P w (upd H x o') h':=λ b u q=>by
 have nown:∀c y,H c=some (.own y)->c≠x:=λ c y r z=>by subst z;rw[r] at mu;exact mu
 have ntup:∀c xs,H c=some (.tup xs)->c≠x:=λ c xs r z=>by subst z;rw[r] at mu;exact mu
 by_cases hb:b=x
 ·subst hb;rw[q0B] at q;cases q;exact new
 ·rw[q07 hb] at q
  by_cases hbe:b=e
  ·have q':H b=some (.own x):=by
    rcases he with z|z
    ·exact absurd (hbe.trans z) hb
    ·rw[hbe];exact z
   rw[q] at q';cases q';obtain⟨v,hv⟩:=heo;exact⟨v,by rw[hbe];exact hv⟩
  ·refine (ok b u q).stay (λ c v hc r=>k c v ?_ r) (λ c r=>by rw[q07 (nown c b r)];exact r) λ c xs r=>by rw[q07 (ntup c xs r)];exact r
   rcases hc with rfl|hc
   ·exact hbe
   ·rintro rfl;rcases he with z|z
    ·exact nown c b hc z
    ·rw[hc] at z;cases z;exact hb rfl
end
structure Un (fs ex:List Addr) (H H':Hp) (h h':Heap):Prop where
 keep:∀b o,h.get? b=some o->H b=none->b∉fs->b∉ex->h'.get? b=some o
 slot:∀b o,h.get? b=some o->H b=none->b∈fs->b∉ex->∃sl,h'.get? b=some {o with slots:=sl}
 free:∀b o,h.get? b=some o->H b=none->b∉ex->H' b=none
 there:∀b o,h.get? b=some o->b∉ex->∃o',h'.get? b=some o'
 tups:∀b xs,H b=some (.tup xs)->H' b=some (.tup xs)
 frzs:∀b o u,H b=some (.frz o u)->H' b=some (.frz o u)
 tbls:∀b ps,H b=some (.tbl ps)->∃more,H' b=some (.tbl (ps++more))
section
variable {fs fs' ex ex':List Addr}{H H1 H2:Hp}{h h1 h2 h':Heap}{a x e:Addr}{o:HO}
theorem Un.any (u:Un fs ex H H1 h h1) {ob:Obj}(q:h.get? b=some ob) (n:H b=none) (hx:b∉ex):∃sl,h1.get? b=some {ob with slots:=sl}:=by
 by_cases hb:b∈fs
 ·exact u.slot b ob q n hb hx
 ·exact⟨ob.slots,u.keep b ob q n hb hx⟩
theorem Un.kept (k:∀b u,h.get? b=some u->h'.get? b=some u):Un fs ex H H h h' :=
 ⟨λ b ob q _ _ _=>k b ob q,λ b ob q _ _ _=>⟨ob.slots,k b ob q⟩,λ _ _ _ n _=>n,λ b ob q _=>⟨ob,k b ob q⟩,λ _ _ q=>q,λ _ _ _ q=>q,λ _ ps q=>⟨#[],by rw[q];simp⟩⟩
theorem Un.refl:Un fs ex H H h h:=Un.kept λ _ _ q=>q
theorem Un.laid (k:∀b u,h.get? b=some u->h'.get? b=some u) (hp:h.objs.size<=a) (hn:H a=none):Un fs ex H (upd H a o) h h' where
 keep:=λ b u q _ _ _=>k b u q
 slot:=λ b u q _ _ _=>⟨u.slots,k b u q⟩
 free:=λ b u q n _=>by rw[q07 (QH (Qp (Heap.lt_size q) hp))];exact n
 there:=λ b u q _=>⟨u,k b u q⟩
 tups:=λ b xs q=>by rw[q07 (q08 q hn)];exact q
 frzs:=λ b u xs q=>by rw[q07 (q08 q hn)];exact q
 tbls:=λ b ps q=>⟨#[],by rw[q07 (q08 q hn),q];simp⟩
theorem Un.write (mu:Mut (H x)) (he:e=x\/H e=some (.own x)) (k:∀b u,b≠e->h.get? b=some u->h'.get? b=some u) (heo:∃u,h'.get? e=some u):Un fs ex H (upd H x o) h h':=by
 have hx:∀b,H b=none->b≠x:=λ b n z=>by subst z;rw[n] at mu;exact mu
 have hb:∀b,H b=none->b≠e:=λ b n z=>by
  subst z;rcases he with r|r
  ·exact hx b n r
  ·rw[n] at r;cases r
 have hm:∀b u,H b=some u->¬Mut (some u)->b≠x:=λ b u q nm z=>by subst z;rw[q] at mu;exact nm mu
 refine⟨λ b u q n _ _=>k b u (hb b n) q,λ b u q n _ _=>⟨u.slots,k b u (hb b n) q⟩,λ b u q n _=>by rw[q07 (hx b n)];exact n,λ b u q _=>?_,
  λ b xs q=>by rw[q07 (hm b _ q λ z=>z)];exact q,λ b u xs q=>by rw[q07 (hm b _ q λ z=>z)];exact q,λ b ps q=>⟨#[],by rw[q07 (hm b _ q λ z=>z),q];simp⟩⟩
 by_cases hbe:b=e
 ·subst hbe;exact heo
 ·exact⟨u,k b u hbe q⟩
end
def trk (h:Heap) (H:Hp):List Addr:=(Qg h.objs.size).filter λ a=>(H a).isSome
def hidT (h:Heap) (H:Hp):Heap:=PySem.W.hideAll h (trk h H)
theorem qAt (h:Heap) (H:Hp):(hidT h H).objs.size=h.objs.size:=PySem.W.hideAll_size _ _
theorem qDF {h:Heap}{H:Hp}{o:Obj}(e:h.get? b=some o) (n:H b=none):(hidT h H).get? b=some o :=
 PySem.W.hideAll_get _ e λ hm=>by have q:(H b).isSome=true:=(QG.mp hm).2;rw[n] at q;simp at q
theorem qFZ {h:Heap}{H:Hp}{o:Obj}(e:(hidT h H).get? b=some o):h.get? b=some o/\H b=none:=by
 have e':h.get? b=some o:=PySem.W.of_hideAll (trk h H) e;refine⟨e',?_⟩;cases q:H b with
 |none=>rfl
 |some x =>
  have hm:b∈trk h H:=QG.mpr ⟨QE.mpr (Heap.lt_size e'),by simp[q]⟩;have z:(hidT h H).get? b=none:=PySem.W.hideAll_none (trk h H) hm;rw[z] at e;cases e
end L2
namespace L2
open PySem PySem.Spec PyProof.Rows
variable {t' i:Nat}{ch:List Addr}{x:Str}{M:Model}{A:Around}{E:Value->Shared->Prop}
structure Mod (K:PySem.W.Frag) (mg:Str->Option Value) (base:Heap):Prop where
 kin:K.In base
 glob:base.Ns mainGlobals mg
 blt:∃mb,base.Ns builtinsNs mb/\∀x:Str,x ≠ "__name__"->mb x=bootBuiltins x
 nolimit:base.NoLimit
structure Cx where
 prog:Program
 w:World
 K:PySem.W.Frag
 mg:Str->Option Value
 base:Heap
 A:Around
 N:List Str
 s₀:Shared
 H₀:Hp
 env:Env
 outer:List Env
 stack:List Env
 ex:List Addr
 fn:Str->Bool
 calm:Bool
 pn:List (Addr×Obj)
 xe:Value->Shared->Prop
def frs (l:List Env):List Addr:=l.filterMap (·.frame)
abbrev Cx.fs (X:Cx):List Addr:=frs X.outer
def Vis (sc:Scope) (x:Str):Prop:=sc.names.lookup x=some .local\/sc.names.lookup x=some .cell\/sc.names.lookup x=some .free
def Loc (sc:Scope) (x:Str):Prop:=sc.names.lookup x=some .local\/sc.names.lookup x=some .cell
def Look (env:Env) (h:Heap) (m:Str->Option Value) (x:Str) (u:Value):Prop :=
 (env.kindOf x=some .local/\m x=some u)\/((env.kindOf x=some .cell\/env.kindOf x=some .free)/\∃c,env.cells.lookup x=some c/\h.IsCell c (some u))
structure Cx.Ok (X:Cx):Prop where
 mod:Mod X.K X.mg X.base
 kind:X.env.scope.kind = .function
 glob:X.env.globals=mainGlobals
 blt:X.env.builtins=builtinsNs
 above:X.s₀.heap.objs.size<=X.env.locals
 inj:∀x y c,X.env.cells.lookup x=some c->X.env.cells.lookup y=some c->x=y
 has:∀x,(X.env.kindOf x=some .cell\/X.env.kindOf x=some .free)->∃c,X.env.cells.lookup x=some c
 cab:∀x c,X.fn x=true->X.env.cells.lookup x=some c->X.s₀.heap.objs.size<=c
 hd:X.calm=true->X.A.handled=none
 frames:X.A.frames=some X.stack
 stk:X.stack=X.outer\/(X.stack=X.env::X.outer/\X.env.frame=some X.env.locals)
 exf:∀b∈X.ex,b≠X.env.locals/\∀x c,X.env.cells.lookup x=some c->c≠b
 bs:∀b o,X.base.get? b=some o->X.s₀.heap.get? b=some o/\X.H₀ b=none
 bsz:X.base.objs.size<=X.s₀.heap.objs.size
 noex:∀b o,X.base.get? b=some o->b∉X.ex
 exfs:∀b∈X.ex,b∉X.fs
 funs:X.s₀.heap.FunFrames X.base X.outer
 frf:∀b∈X.fs,X.H₀ b=none
structure Inv (X:Cx) (pins:List (Addr×Obj)) (σ:List (Option V)) (H:Hp) (s:Shared):Prop where
 ok:X.Ok
 os:s.os=X.s₀.os
 bare:AllBare s.gens
 base:Un X.fs X.ex X.H₀ H X.s₀.heap s.heap
 loc:∃m,s.heap.Ns X.env.locals m/\∀(i:Nat) (x:Str) (v:V),X.N[i]? = some x->σ[i]? = some (some v)->Vis X.env.scope x->∃u,RelV v u/\Look X.env s.heap m x u
 cell:∀x c,X.env.cells.lookup x=some c->∃v,s.heap.IsCell c v
 free:H X.env.locals=none
 freeC:∀x c,X.env.cells.lookup x=some c->H c=none
 pin:∀p∈X.pn++pins,s.heap.get? p.1=some p.2/\H p.1=none/\p.1≠X.env.locals/\p.1∉X.fs/\∀v,p.2.data ≠ .cell v
 hok:HOk X.prog X.w H s.heap
 len:σ.length=X.N.length
section
variable {X:Cx}{pins:List (Addr×Obj)}{σ:List (Option V)}{H H':Hp}{s:Shared}{h':Heap}
theorem Cx.Ok.nofr (ok:X.Ok) {b:Addr}{o:Obj}(e:X.base.get? b=some o):b∉X.fs:=λ hb=>by have:=(ok.funs.mem hb).1;rw[e] at this;cases this
theorem Inv.bs (I:Inv X pins σ H s):∀b o,X.base.get? b=some o->s.heap.get? b=some o/\H b=none:=λ b o e =>
 ⟨I.base.keep b o (I.ok.bs b o e).1 (I.ok.bs b o e).2 (I.ok.nofr e) (I.ok.noex b o e),I.base.free b o (I.ok.bs b o e).1 (I.ok.bs b o e).2 (I.ok.noex b o e)⟩
theorem Inv.bk (I:Inv X pins σ H s):∀b o,X.base.get? b=some o->s.heap.get? b=some o:=λ b o e=>(I.bs b o e).1
theorem Inv.mod (I:Inv X pins σ H s):Mod X.K X.mg X.base:=I.ok.mod
theorem Inv.kIn (I:Inv X pins σ H s):X.K.In s.heap:=I.ok.mod.kin.keeps I.bk
theorem Inv.fr (I:Inv X pins σ H s):∃m,Fr X.base X.env.locals s.heap m :=
 let ⟨m,hn,_⟩:=I.loc
 ⟨m,hn,I.bk,Qn I.ok.bsz I.ok.above⟩
theorem Inv.lt (I:Inv X pins σ H s):X.env.locals<s.heap.objs.size:=let ⟨_,hn,_⟩:=I.loc;hn.lt
theorem Inv.sz (I:Inv X pins σ H s):X.s₀.heap.objs.size<=s.heap.objs.size:=Qn I.ok.above (Nat.le_of_lt I.lt)
theorem Inv.nofs (I:Inv X pins σ H s) {a:Addr}(h:s.heap.objs.size<=a):a∉X.fs:=λ hb=>by obtain⟨_,o,ho,_⟩:=I.ok.funs.mem hb;exact absurd (Qp (Heap.lt_size ho) (Qn I.sz h)) (Jd _)
theorem Inv.cne (I:Inv X pins σ H s):∀x c,X.env.cells.lookup x=some c->c≠X.env.locals:=λ x c e z=>by obtain⟨v,o,ho,hd⟩:=I.cell x c e;obtain⟨m,⟨o',es,ep,ho',hd',_⟩,_⟩:=I.loc;rw[z,ho'] at ho;cases ho;rw[hd'] at hd;cases hd
theorem Inv.funs (I:Inv X pins σ H s):s.heap.FunFrames X.base X.outer:=by
 have all:∀(l:List Env),(∀b∈frs l,b∈X.fs)->X.s₀.heap.FunFrames X.base l->s.heap.FunFrames X.base l:=by
  intro l
  induction l with
  |nil=>intro _ _;trivial
  |cons env r ih =>
   intro hs hl;obtain⟨hk,⟨L,o,hf,hn,ho,hd⟩,hr⟩:=hl;have hL:L∈X.fs:=hs L (by unfold frs;rw[Q3,hf];exact Qb);obtain⟨sl,e⟩:=I.base.slot L o ho (I.ok.frf L hL) hL λ z=>I.ok.exfs L z hL;exact⟨hk,⟨L,_,hf,hn,e,hd⟩,ih (λ b hb=>hs b (by unfold frs;rw[Q3,hf];exact Qa _ hb)) hr⟩
 exact all X.outer (λ _ hb=>hb) I.ok.funs
theorem Inv.stack (I:Inv X pins σ H s):s.heap.FunFrames X.base X.stack:=by
 rcases I.ok.stk with e|⟨e,hf⟩
 ·rw[e];exact I.funs
 ·rw[e];obtain⟨m,hn,_⟩:=I.loc;refine .cons (by rw[I.ok.kind];decide) hf hn ?_ I.funs;exact Heap.get?_none_of_le (Qn I.ok.bsz I.ok.above)
theorem Inv.q3R (I:Inv X pins σ H s):∀b∈frs X.stack,b∈X.env.locals::X.fs:=λ b hb=>by
 rcases I.ok.stk with e|⟨e,hf⟩
 ·rw[e] at hb;exact Qa _ hb
 ·rw[e] at hb;unfold frs at hb;rw[Q3,hf] at hb;exact hb
theorem Inv.q8L (I:Inv X pins σ H s):∀b∈frs X.stack,H b=none:=λ b hb=>by
 rcases Qf.mp (I.q3R b hb) with e|hb
 ·rw[e];exact I.free
 ·obtain⟨_,o,ho,_⟩:=I.ok.funs.mem hb;exact I.base.free b o ho (I.ok.frf b hb) λ z=>I.ok.exfs b z hb
theorem Inv.step {g':Array GenState}{t':Nat}{d':Drawn}(I:Inv X pins σ H s)
  (hch:∀b∈ch,(b∈X.ex\/X.s₀.heap.objs.size<=b)/\b≠X.env.locals/\(∀x c,X.env.cells.lookup x=some c->c≠b)/\∀p∈X.pn++pins,p.1≠b)
  (keep:∀b o,b≠X.env.locals->b∉X.fs->b∉ch->s.heap.get? b=some o->H b=none->h'.get? b=some o)
  (slot:∀b o,b≠X.env.locals->b∈X.fs->b∉ch->s.heap.get? b=some o->H b=none->∃sl,h'.get? b=some {o with slots:=sl}) (free:∀b o,b∉ch->s.heap.get? b=some o->H b=none->H' b=none)
  (there:∀b o,b∉ch->s.heap.get? b=some o->∃o',h'.get? b=some o')
  (tups:∀b xs,H b=some (.tup xs)->H' b=some (.tup xs)) (frzs:∀b o u,H b=some (.frz o u)->H' b=some (.frz o u)) (tbls:∀b ps,H b=some (.tbl ps)->∃more,H' b=some (.tbl (ps++more)))
  (ns:∀m,s.heap.Ns X.env.locals m->h'.Ns X.env.locals m) (hok:HOk X.prog X.w H' h') (hg:AllBare g') :
  Inv X pins σ H' {s with heap:=h',gens:=g',drawn:=d',toks:=t'}:=by
 have neL:∀b o,X.s₀.heap.get? b=some o->b≠X.env.locals:=λ b o e=>QH (Qp (Heap.lt_size e) I.ok.above);have neC:∀b o,X.s₀.heap.get? b=some o->b∉X.ex->b∉ch:=λ b o e hx hb=>by
  rcases (hch b hb).1 with z|z
  ·exact hx z
  ·exact absurd (Qp (Heap.lt_size e) z) (Jd _)
 have cellK:∀x c,X.env.cells.lookup x=some c->∀v,s.heap.IsCell c v->h'.IsCell c v:=λ x c e v ⟨o,ho,hd⟩=>by
  have nch:c∉ch:=λ z=>(hch c z).2.2.1 x c e rfl
  by_cases hc:c∈X.fs
  ·obtain⟨sl,q⟩:=slot c o (I.cne x c e) hc nch ho (I.freeC x c e);exact⟨_,q,hd⟩
  ·exact⟨o,keep c o (I.cne x c e) hc nch ho (I.freeC x c e),hd⟩
 refine⟨I.ok,I.os,hg,⟨λ b o e n hb hx=>?_,λ b o e n hb hx=>?_,λ b o e n hx=>?_,λ b o e hx=>?_,λ b xs e=>tups b xs (I.base.tups b xs e),λ b o xs e=>frzs b o xs (I.base.frzs b o xs e),λ b ps e=>?_⟩,?_,λ x c e=>?_,?_,λ x c e=>?_,λ p hp=>?_,hok,I.len⟩
 ·exact keep b o (neL b o e) hb (neC b o e hx) (I.base.keep b o e n hb hx) (I.base.free b o e n hx)
 ·obtain⟨sl,e1⟩:=I.base.slot b o e n hb hx;obtain⟨sl',e2⟩:=slot b _ (neL b o e) hb (neC b o e hx) e1 (I.base.free b o e n hx);exact⟨sl',e2⟩
 ·obtain⟨o',e1⟩:=I.base.there b o e hx;exact free b o' (neC b o e hx) e1 (I.base.free b o e n hx)
 ·obtain⟨o',e1⟩:=I.base.there b o e hx;exact there b o' (neC b o e hx) e1
 ·obtain⟨m1,e1⟩:=I.base.tbls b ps e;obtain⟨m2,e2⟩:=tbls b _ e1;exact⟨m1++m2,by rw[e2,Array.append_assoc]⟩
 ·obtain⟨m,hn,hl⟩:=I.loc;refine⟨m,ns m hn,λ i x v e1 e2 e3=>?_⟩;obtain⟨u,r,l⟩:=hl i x v e1 e2 e3;refine⟨u,r,?_⟩;rcases l with l|⟨k,c,e,z⟩
  ·exact .inl l
  ·exact .inr ⟨k,c,e,cellK x c e _ z⟩
 ·obtain⟨v,z⟩:=I.cell x c e;exact⟨v,cellK x c e v z⟩
 ·obtain⟨m,⟨o,_,_,ho,_⟩,_⟩:=I.loc;exact free _ o (λ z=>(hch _ z).2.1 rfl) ho I.free
 ·obtain⟨v,o,ho,hd⟩:=I.cell x c e;exact free c o (λ z=>(hch c z).2.2.1 x c e rfl) ho (I.freeC x c e)
 ·obtain⟨e,n,ne,nf,d⟩:=I.pin p hp;have nch:p.1∉ch:=λ z=>(hch p.1 z).2.2.2 p hp rfl;exact⟨keep p.1 p.2 ne nf nch e n,free p.1 p.2 nch e n,ne,nf,d⟩
theorem Inv.un {t':Nat}(I:Inv X pins σ H s) (u:Un X.fs [] H H' s.heap h') (hok:HOk X.prog X.w H' h'):Inv X pins σ H' {s with heap:=h',toks:=t'}:=by
 obtain⟨m,⟨o,es,ep,ho,r⟩,_⟩:=id I.loc;obtain⟨sl,hL⟩:=u.any ho I.free (by simp);exact I.step (g':=s.gens) (d':=s.drawn) (ch:=[]) (λ _ z=>nomatch z) (λ b o _ hb _ e n=>u.keep b o e n hb (by simp)) (λ b o _ hb _ e n=>u.slot b o e n hb (by simp)) (λ b o _ e n=>u.free b o e n (by simp)) (λ b o _ e=>u.there b o e (by simp)) u.tups u.frzs u.tbls (λ m' hm=>by obtain⟨o',es',ep',ho',r'⟩:=hm;rw[ho] at ho';cases ho';exact⟨_,es',ep',hL,r'⟩) hok I.bare
theorem Inv.call {g':Array GenState}{t':Nat}{d':Drawn}(I:Inv X pins σ H s) (u:Un (frs X.stack) ch H H' s.heap h') (hok:HOk X.prog X.w H' h') (hg:AllBare g')
  (hch:∀b∈ch,(b∈X.ex\/X.s₀.heap.objs.size<=b)/\b≠X.env.locals/\(∀x c,X.env.cells.lookup x=some c->c≠b)/\∀p∈X.pn++pins,p.1≠b) :
  Inv X pins σ H' {s with heap:=h',gens:=g',drawn:=d',toks:=t'}:=by
 obtain⟨m,⟨o,es,ep,ho,r⟩,_⟩:=id I.loc;obtain⟨sl,hL⟩:=u.any ho I.free λ z=>(hch _ z).2.1 rfl;exact I.step (ch:=ch) hch (λ b o hL hb hc e n=>u.keep b o e n (λ z=>(Qf.mp (I.q3R b z)).elim hL hb) hc) (λ b o _ _ hc e n=>u.any e n hc) (λ b o hc e n=>u.free b o e n hc) (λ b o hc e=>u.there b o e hc) u.tups u.frzs u.tbls (λ m' hm=>by obtain⟨o',es',ep',ho',r'⟩:=hm;rw[ho] at ho';cases ho';exact⟨_,es',ep',hL,r'⟩) hok hg
theorem Inv.turned {t':Nat}{it:Addr}(I:Inv X pins σ H s) (k:∀b o,b≠it->s.heap.get? b=some o->h'.get? b=some o) (hn:H it=none) (hL:it≠X.env.locals)
  (h1:it∈X.ex\/X.s₀.heap.objs.size<=it) (h2:∀x c,X.env.cells.lookup x=some c->c≠it) (h3:∀p∈X.pn++pins,p.1≠it):Inv X pins σ H {s with heap:=h',toks:=t'}:=by
 have nit:∀b u,H b=some u->b≠it:=λ b u e z=>by rw[z,hn] at e;cases e
 refine I.step (g':=s.gens) (d':=s.drawn) (ch:=[it]) (λ b hb=>?_) (λ b o _ _ hc e _=>k b o (λ z=>hc (by simp[z])) e) (λ b o _ _ hc e _=>⟨o.slots,k b o (λ z=>hc (by simp[z])) e⟩) (λ _ _ _ _ n=>n)
  (λ b o hc e=>⟨o,k b o (λ z=>hc (by simp[z])) e⟩) (λ _ _ e=>e) (λ _ _ _ e=>e) (λ b ps e=>⟨#[],by rw[e];simp⟩) (λ m hm=>?_) (λ b u e=>?_) I.bare
 ·have e:b=it:=by simpa using hb
  subst e;exact⟨h1,hL,h2,h3⟩
 ·obtain⟨o,es,ep,ho,r⟩:=hm;exact⟨o,es,ep,k _ o (Ne.symm hL) ho,r⟩
 ·refine (I.hok b u e).stay (λ c v hc q=>k c v ?_ q) (λ _ q=>q) λ _ _ q=>q;rcases hc with z|z
  ·rw[z];exact nit b u e
  ·exact nit c _ z
theorem Inv.tok (I:Inv X pins σ H s) (t:Nat):Inv X pins σ H {s with toks:=t}:=I.un (h':=s.heap) (t':=t) Un.refl I.hok
theorem Inv.kept {t':Nat}(I:Inv X pins σ H s) (k:∀b u,s.heap.get? b=some u->h'.get? b=some u):Inv X pins σ H {s with heap:=h',toks:=t'}:=I.un (Un.kept k) (I.hok.kept k)
theorem Inv.laid {a:Addr}{o:HO}{t':Nat}(I:Inv X pins σ H s) (k:∀b u,s.heap.get? b=some u->h'.get? b=some u) (hp:s.heap.objs.size<=a) (new:q1O X.prog X.w (upd H a o) h' a o) :
  Inv X pins σ (upd H a o) {s with heap:=h',toks:=t'}:=I.un (Un.laid k hp (I.hok.fresh hp)) (I.hok.laid k hp new)
theorem Inv.write {x e:Addr}{o:HO}{t':Nat}(I:Inv X pins σ H s) (mu:Mut (H x)) (he:e=x\/H e=some (.own x)) (k:∀b u,b≠e->s.heap.get? b=some u->h'.get? b=some u) (heo:∃u,h'.get? e=some u)
  (new:q1O X.prog X.w (upd H x o) h' x o):Inv X pins σ (upd H x o) {s with heap:=h',toks:=t'}:=I.un (Un.write mu he k heo) (I.hok.write mu he k heo new)
theorem Inv.weak {σ':List (Option V)}(I:Inv X pins σ H s) (hl:σ'.length=σ.length) (w:∀(i:Nat) v,σ'[i]? = some (some v)->σ[i]? = some (some v)):Inv X pins σ' H s :=
 ⟨I.ok,I.os,I.bare,I.base,let ⟨m,hn,hl'⟩:=I.loc;⟨m,hn,λ i x v e1 e2 e3=>hl' i x v e1 (w i v e2) e3⟩,I.cell,I.free,I.freeC,I.pin,I.hok,hl.trans I.len⟩
theorem Inv.q67 {pins':List (Addr×Obj)}(I:Inv X pins σ H s) (h:∀p∈pins',s.heap.get? p.1=some p.2/\H p.1=none/\p.1≠X.env.locals/\p.1∉X.fs/\∀v,p.2.data ≠ .cell v):Inv X pins' σ H s :=
 ⟨I.ok,I.os,I.bare,I.base,I.loc,I.cell,I.free,I.freeC,λ p hp=>(Qm.mp hp).elim (λ z=>I.pin p (Qv _ z)) (h p),I.hok,I.len⟩
theorem q68 {N:List Str}(hN:N.Nodup) {j:Nat}(a:N[i]? = some x) (b:N[j]? = some x):i=j:=by obtain⟨h1,e1⟩:=Qc.mp a;obtain⟨h2,e2⟩:=Qc.mp b;exact (List.getElem_inj hN).mp (e1.trans e2.symm)
theorem qAu {M:Model}{A:Around}{E:Value->Shared->Prop}{v:V}{u:Value}{Q:Unit->Shared->Prop}(I:Inv X pins σ H s) (hN:X.N.Nodup) (hi:X.N[i]? = some x) (hx:Loc X.env.scope x) (r:RelV v u)
  (h:∀s',Inv X pins (σ.set i (some v)) H s'->(∃a,Heap.SameBut a s.heap s'.heap/\(a=X.env.locals\/X.env.cells.lookup x=some a))->Q () s') (hf:X.fn x=true\/X.env.scope.names.lookup x=some .local:=by first|exact .inl rfl|exact .inr rfl|assumption):wpAny M A (storeName X.env x u) Q E s:=by
 obtain⟨m,hn,hl⟩:=id I.loc;have hcls:(X.env.scope.kind == .class || (X.env.scope.kind == .module&&X.env.locals != X.env.globals))=false:=by rw[I.ok.kind];rfl
 have hiσ:i < σ.length:=by rw[I.len];exact (Qc.mp hi).1
 have cne:=I.cne;have tracked:∀{a:Addr}{h':Heap},(∃o,s.heap.get? a=some o/\H a=none)->Heap.SameBut a s.heap h'->HOk X.prog X.w H h':=λ {a h'} ha hs b ob e=>by
  obtain⟨_,_,hfree⟩:=ha;refine (I.hok b ob e).stay (λ c w' hc q=>(hs.2 c ?_).trans q) (λ _ q=>q) λ _ _ q=>q;rintro rfl;rcases hc with rfl|hc
  ·rw[hfree] at e;cases e
  ·rw[hfree] at hc;cases hc
 rcases hx with hk|hk
 ·refine wpAny_storeName_local hk hn (λ h' hn' hs=>?_) hcls;obtain⟨oL,_,_,hoL,_⟩:=id hn;refine h _ ⟨I.ok,I.os,I.bare,⟨λ b o e n hb hx=>?_,λ b o e n hb hx=>?_,I.base.free,λ b o e hx=>?_,I.base.tups,I.base.frzs,I.base.tbls⟩,⟨_,hn',λ j y v' e1 e2 e3=>?_⟩,λ y c e=>?_,I.free,I.freeC,λ p hp=>?_,tracked ⟨oL,hoL,I.free⟩ hs,by simpa using I.len⟩ ⟨_,hs,.inl rfl⟩
  ·exact (hs.2 b (QH (Qp (Heap.lt_size e) I.ok.above))).trans (I.base.keep b o e n hb hx)
  ·obtain⟨sl,e1⟩:=I.base.slot b o e n hb hx;exact⟨sl,(hs.2 b (QH (Qp (Heap.lt_size e) I.ok.above))).trans e1⟩
  ·obtain⟨o',e1⟩:=I.base.there b o e hx;exact⟨o',(hs.2 b (QH (Qp (Heap.lt_size e) I.ok.above))).trans e1⟩
  ·by_cases hj:j=i
   ·subst hj;rw[hi] at e1;cases e1;rw[Q8 hiσ] at e2;cases e2;exact⟨u,r,.inl ⟨hk,by simp⟩⟩
   ·rw[Je (Ne.symm hj)] at e2;obtain⟨u',r',q⟩:=hl j y v' e1 e2 e3;refine⟨u',r',?_⟩;rcases q with ⟨k,e⟩|⟨k,c,e,z⟩
    ·refine .inl ⟨k,?_⟩;have:y≠x:=λ e=>hj (q68 hN e1 (e▸hi));simp[this,e]
    ·exact .inr ⟨k,c,e,z.sameBut hs (cne y c e)⟩
  ·obtain⟨w',z⟩:=I.cell y c e;exact⟨w',z.sameBut hs (cne y c e)⟩
  ·obtain⟨e,n,ne,nf,d⟩:=I.pin p hp;exact⟨(hs.2 p.1 ne).trans e,n,ne,nf,d⟩
 ·have hfn:X.fn x=true:=by
   rcases hf with z|z
   ·exact z
   ·rw[z] at hk;cases hk
  obtain⟨c,hc⟩:=I.ok.has x (.inl hk);obtain⟨w',z⟩:=I.cell x c hc;refine wpAny_storeName_cell I.ok.kind hk hc z (λ h' hc' hs=>?_);obtain⟨oc,hoc,hocd⟩:=id z;refine h {s with heap:=h'} ⟨I.ok,I.os,I.bare,⟨λ b o e n hb hx=>?_,λ b o e n hb hx=>?_,I.base.free,λ b o e hx=>?_,I.base.tups,I.base.frzs,I.base.tbls⟩,⟨m,hn.sameBut hs (Ne.symm (cne x c hc)),λ j y v' e1 e2 e3=>?_⟩,λ y c' e=>?_,I.free,I.freeC,λ p hp=>?_,tracked ⟨oc,hoc,I.freeC x c hc⟩ hs,by simpa using I.len⟩ ⟨c,hs,.inr hc⟩
  ·exact (hs.2 b (QH (Qp (Heap.lt_size e) (I.ok.cab x c hfn hc)))).trans (I.base.keep b o e n hb hx)
  ·obtain⟨sl,e1⟩:=I.base.slot b o e n hb hx;exact⟨sl,(hs.2 b (QH (Qp (Heap.lt_size e) (I.ok.cab x c hfn hc)))).trans e1⟩
  ·obtain⟨o',e1⟩:=I.base.there b o e hx;exact⟨o',(hs.2 b (QH (Qp (Heap.lt_size e) (I.ok.cab x c hfn hc)))).trans e1⟩
  ·by_cases hj:j=i
   ·subst hj;rw[hi] at e1;cases e1;rw[Q8 hiσ] at e2;cases e2;exact⟨u,r,.inr ⟨.inl hk,c,hc,hc'⟩⟩
   ·rw[Je (Ne.symm hj)] at e2;obtain⟨u',r',q⟩:=hl j y v' e1 e2 e3;refine⟨u',r',?_⟩;rcases q with q|⟨k,c',e,z'⟩
    ·exact .inl q
    ·refine .inr ⟨k,c',e,z'.sameBut hs ?_⟩;rintro rfl;exact hj (q68 hN e1 (I.ok.inj _ _ _ e hc▸hi))
  ·by_cases hcc:c'=c
   ·subst hcc;exact⟨_,hc'⟩
   ·obtain⟨w2,z2⟩:=I.cell y c' e;exact⟨w2,z2.sameBut hs hcc⟩
  ·obtain⟨e,n,ne,nf,d⟩:=I.pin p hp;refine⟨(hs.2 p.1 ?_).trans e,n,ne,nf,d⟩;intro q;rw[q,hoc] at e;have q':oc=p.2:=QQ.inj e;exact d w' (by rw[<-q'];exact hocd)
theorem q0q {M:Model}{A:Around}{E:Value->Shared->Prop}{v:V}{u:Value}{Q:Unit->Shared->Prop}(I:Inv X pins σ H s) (hN:X.N.Nodup) (hi:X.N[i]? = some x) (hx:Loc X.env.scope x) (r:RelV v u)
  (h:∀s',Inv X pins (σ.set i (some v)) H s'->Q () s') (hf:X.fn x=true\/X.env.scope.names.lookup x=some .local:=by first|exact .inl rfl|exact .inr rfl|assumption):wpAny M A (storeName X.env x u) Q E s :=
 qAu I hN hi hx r (λ s' I' _=>h s' I') hf
theorem Inv.qFa {s':Shared}(I:Inv X pins σ H s) (ho:s'.os=s.os) (u:Un (frs X.stack) ch H H' s.heap s'.heap) (hok:HOk X.prog X.w H' s'.heap) (hg:AllBare s'.gens)
  (hch:∀b∈ch,(b∈X.ex\/X.s₀.heap.objs.size<=b)/\b≠X.env.locals/\(∀x c,X.env.cells.lookup x=some c->c≠b)/\∀p∈X.pn++pins,p.1≠b):Inv X pins σ H' s':=by
 obtain⟨h',g',d',t',o'⟩:=s';have e:o'=s.os:=ho;subst e;exact I.call (g':=g') (t':=t') (d':=d') u hok hg hch
end
abbrev XK:=Value->Option Addr->Hp->Prop
abbrev St:=List (Option V)
abbrev VK:=V->Hp->Prop
def EP (X:Cx) (pins:List (Addr×Obj)) (σ:St) (Q:VK) (u:Value) (s':Shared):Prop:=∃v H',Inv X pins σ H' s'/\RelV v u/\Q v H'
def TP (X:Cx) (pins:List (Addr×Obj)) (σ:St) (Q:Bool->Hp->Prop) (b:Bool) (s':Shared):Prop:=∃H',Inv X pins σ H' s'/\Q b H'
theorem thn {α:Type}{t:Sem α}{Q Q':α->Shared->Prop}{s:Shared}(h:wpAny M A t Q E s) (hQ:∀a s,Q a s->Q' a s):wpAny M A t Q' E s:=wpAny_mono h hQ λ _ _ x=>x
end L2
namespace L2
open PySem PySem.Spec PyProof.Rows
section
variable {X:Cx}
def Gl (X:Cx) (x:Str):Prop:=X.env.kindOf x=some .globalImplicit
theorem q2X {E:Value->Shared->Prop}{pins:List (Addr×Obj)}{s:Shared}{σ:St}{H:Hp}{x:Str}{u:Value}{pos:Pos}{Q:Value->Shared->Prop}(I:Inv X pins σ H s) (hg:Gl X x) (hm:X.mg x=some u) (h:Q u s)
  (hd:(x==("__debug__":Str))=false:=by decide):wpAny (model X.prog X.w) X.A (eval (.Name x pos) X.env) Q E s :=
 Calls.Name_function_global I.ok.kind hg (Calls.loadGlobal_global (by rw[I.ok.glob];exact I.mod.glob.keeps I.bk) hm h) hd
theorem q1u {E:Value->Shared->Prop}{pins:List (Addr×Obj)}{s:Shared}{σ:St}{H:Hp}{x:Str}{u:Value}{pos:Pos}{Q:Value->Shared->Prop}(I:Inv X pins σ H s) (hg:Gl X x) (hm:X.mg x=none) (hv:bootBuiltins x=some u) (h:Q u s)
  (hn:x ≠ "__name__":=by decide) (hd:(x==("__debug__":Str))=false:=by decide):wpAny (model X.prog X.w) X.A (eval (.Name x pos) X.env) Q E s:=by
 obtain⟨mb,h1,h2⟩:=I.mod.blt;exact Calls.Name_function_global I.ok.kind hg (Calls.loadGlobal_builtin (by rw[I.ok.glob];exact I.mod.glob.keeps I.bk) hm (by rw[I.ok.blt];exact h1.keeps I.bk) ((h2 x hn).trans hv) h) hd
variable {a b:Expr}{ta tb:TE}{pos:Pos}
variable {tA tB':TT}{rest:List Expr}
end
end L2
namespace L2
open PySem PySem.Spec PyProof.Rows
variable {K:PySem.W.Frag}{tg:Expr}{P:Program}{w:World}
def SqL (K:PySem.W.Frag) (H:Hp) (a:Addr) (xs:List V):Prop :=
 Rd H a (.lst xs)\/
  ∃(o:Obj) (its:Array Value) (n:Nat),K.lookup a=some o/\o.cls = .type "list"/\o.dict=none/\o.data = .seq its n/\its.size<=sizeLine/\Vals xs its.toList
def SqT (K:PySem.W.Frag) (H:Hp) (a:Addr) (xs:List V):Prop :=
 Rd H a (.tup xs)\/
  ∃(o:Obj) (its:Array Value) (n:Nat),K.lookup a=some o/\o.cls = .type "tuple"/\o.data = .seq its n/\its.size<=sizeLine/\Vals xs its.toList
def absV:Value->Option V
 | .none=>some .non
 | .bool b=>some (.bl b)
 | .int i _=>some (.int i)
 | .str x _=>some (.str x)
 | .bytes b _=>some (.byt b)
 | .float b _=>some (.flt b)
 | .ref a=>some (.ref a)
 | .type n=>some (.ty n)
 |_=>none
theorem RelV.abs {x:V}{u:Value}(r:RelV x u):absV u=some x:=by
 cases x with
 |non=>cases r;rfl
 |bl _=>cases r;rfl
 |int _=>obtain⟨t,rfl⟩:=r;rfl
 |str _=>obtain⟨t,rfl⟩:=r;rfl
 |byt _=>obtain⟨t,rfl⟩:=r;rfl
 |flt _=>obtain⟨t,rfl⟩:=r;rfl
 |ref _=>cases r;rfl
 |ty _=>cases r;rfl
theorem RelV.inj {x y:V}{u:Value}(r:RelV x u) (q:RelV y u):x=y:=QQ.inj (r.abs.symm.trans q.abs)
theorem Vals.inj:∀{xs ys:List V}{us:List Value},Vals xs us->Vals ys us->xs=ys
 |_,_,_,.nil,.nil=>rfl
 |_,_,_,.cons r t,.cons r' t'=>by rw[r.inj r',Vals.inj t t']
section
variable {X:Cx}{pins:List (Addr×Obj)}{σ:St}{H:Hp}{s:Shared}{a:Addr}{xs ys:List V}
theorem SqL.of (h:H a=some (.lst xs)):SqL K H a xs:= .inl (.inl h)
theorem SqT.of (h:H a=some (.tup xs)):SqT K H a xs:= .inl (.inl h)
theorem Inv.list (I:Inv X pins σ H s) (h:SqL X.K H a xs):∃its:List Value,Vals xs its/\PlainL s.heap a its.toArray/\xs.length<=sizeLine:=by
 rcases h with h|⟨o,its,n,hk,hc,hd,hs,hz,r⟩
 ·obtain⟨z,its,n,r,e⟩:=h.ok I.hok;exact⟨its,r,⟨_,n,e,rfl,rfl,rfl⟩,z⟩
 ·refine⟨its.toList,r,⟨o,n,I.kIn a o hk,hc,hd,by simpa using hs⟩,?_⟩;have e:=r.length;simp only[Array.length_toList] at e;lia
theorem Inv.tuple (I:Inv X pins σ H s) (h:SqT X.K H a xs):∃its:List Value,Vals xs its/\IsTup s.heap a its.toArray/\xs.length<=sizeLine:=by
 rcases h with h|⟨o,its,n,hk,hc,hs,hz,r⟩
 ·obtain⟨z,its,r,p⟩:=h.ok I.hok;exact⟨its,r,p,z⟩
 ·refine⟨its.toList,r,⟨o,I.kIn a o hk,hc,n,by simpa using hs⟩,?_⟩;have e:=r.length;simp only[Array.length_toList] at e;lia
theorem Inv.qDG (I:Inv X pins σ H s) (h:SqL X.K H a xs) (h':SqL X.K H a ys):xs=ys:=by
 obtain⟨its,r,⟨o,n,e,_,_,d⟩,_⟩:=I.list h;obtain⟨its',r',⟨o',n',e',_,_,d'⟩,_⟩:=I.list h';rw[e] at e';cases e';rw[d] at d';injection d' with d1 _
 have:its=its':=by simpa using congrArg Array.toList d1
 subst this;exact r.inj r'
theorem Inv.qAv (I:Inv X pins σ H s) (h:SqT X.K H a xs) (h':SqT X.K H a ys):xs=ys:=by
 obtain⟨its,r,⟨o,e,_,n,d⟩,_⟩:=I.tuple h;obtain⟨its',r',⟨o',e',_,n',d'⟩,_⟩:=I.tuple h';rw[e] at e';cases e';rw[d] at d';injection d' with d1 _
 have:its=its':=by simpa using congrArg Array.toList d1
 subst this;exact r.inj r'
end
abbrev Cx.wish (X:Cx) (E:Value->Shared->Prop):Cx:={X with xe:=E}
theorem Cx.Ok.wish {X:Cx}(ok:X.Ok) (E:Value->Shared->Prop):(X.wish E).Ok :=
 ⟨ok.mod,ok.kind,ok.glob,ok.blt,ok.above,ok.inj,ok.has,ok.cab,ok.hd,ok.frames,ok.stk,ok.exf,ok.bs,ok.bsz,ok.noex,ok.exfs,ok.funs,ok.frf⟩
theorem Cx.Ok.q2Y {X:Cx}{E:Value->Shared->Prop}(ok:(X.wish E).Ok):X.Ok :=
 ⟨ok.mod,ok.kind,ok.glob,ok.blt,ok.above,ok.inj,ok.has,ok.cab,ok.hd,ok.frames,ok.stk,ok.exf,ok.bs,ok.bsz,ok.noex,ok.exfs,ok.funs,ok.frf⟩
section
variable {X:Cx}{pins:List (Addr×Obj)}{σ:St}{H:Hp}{s:Shared}{E:Value->Shared->Prop}
theorem Inv.wish (I:Inv X pins σ H s) (E:Value->Shared->Prop):Inv (X.wish E) pins σ H s:=⟨I.ok.wish E,I.os,I.bare,I.base,I.loc,I.cell,I.free,I.freeC,I.pin,I.hok,I.len⟩
theorem Inv.q2Y (I:Inv (X.wish E) pins σ H s):Inv X pins σ H s:=⟨I.ok.q2Y,I.os,I.bare,I.base,I.loc,I.cell,I.free,I.freeC,I.pin,I.hok,I.len⟩
end
section
variable {X:Cx}{st:Stmt}{rest:List Stmt}{t u:TS}{e:Expr}{te:TE}{pos:Pos}
theorem Inv.quiet {pins:List (Addr×Obj)}{σ:St}{H:Hp}{s:Shared}(I:Inv X pins σ H s):interactive X.env=false:=by simp[interactive,I.ok.kind]
end
abbrev TG:=V->St->Hp->(St->Hp->Prop)->Prop
abbrev TGs:=List V->St->Hp->(St->Hp->Prop)->Prop
def PG (X:Cx) (target:Expr) (t:TG):Prop :=
 ∀(pins:List (Addr×Obj)) (s:Shared) (σ:St) (H:Hp) (v:V) (u:Value) (Q:St->Hp->Prop),Inv X pins σ H s->RelV v u->t v σ H Q->
  wpAny (model X.prog X.w) X.A (assign target X.env u) (λ _ s'=>∃σ' H',Inv X pins σ' H' s'/\Q σ' H') X.xe s
def PGs (X:Cx) (ts:List Expr) (t:TGs):Prop :=
 ∀(pins:List (Addr×Obj)) (s:Shared) (σ:St) (H:Hp) (vs:List V) (us:List Value) (Q:St->Hp->Prop),Inv X pins σ H s->Vals vs us->t vs σ H Q->
  wpAny (model X.prog X.w) X.A (assignInOrder ((assignEach ts X.env).map (·.2)) us) (λ _ s'=>∃σ' H',Inv X pins σ' H' s'/\Q σ' H') X.xe s
section
variable {X:Cx}{pos:Pos}
def qL0 (i:Nat):TG:=λ v σ H Q=>Q (σ.set i (some v)) H
theorem qAw {i:Nat}{x:Str}(hN:X.N.Nodup) (hi:X.N[i]? = some x) (hx:Loc X.env.scope x) (hf:X.fn x=true\/X.env.scope.names.lookup x=some .local:=by first|exact .inl rfl|exact .inr rfl|assumption):PG X (.Name x pos) (qL0 i):=by intro pins s σ H v u Q I r h;exact wpAny_assign_Name (q0q I hN hi hx r (λ s' I'=>⟨_,H,I',h⟩) hf)
def gNil:TGs:=λ vs σ H Q=>vs=[]/\Q σ H
def qL1 (t:TG) (u:TGs):TGs:=λ vs σ H Q=>∃v r,vs=v::r/\t v σ H λ σ' H'=>u r σ' H' Q
theorem qFb:PGs X [] gNil:=by intro pins s σ H vs us Q I r h;obtain⟨e,h⟩:=h;subst e;cases r;exact assignInOrder_nil ⟨σ,H,I,h⟩
theorem q9B {e:Expr}{es:List Expr}{t:TG}{u:TGs}(h1:PG X e t) (h2:PGs X es u)
  (hs:(assignEach (e::es) X.env).map (·.2)=assign e X.env::(assignEach es X.env).map (·.2):=by rfl):PGs X (e::es) (qL1 t u):=by
 intro pins s σ H vs us Q I r h;obtain⟨v,vr,e1,h⟩:=h;subst e1;cases r with
 |cons r rr =>
  rw[hs];refine assignInOrder_cons (thn (h1 pins s σ H _ _ _ I r h) λ _ s1 ⟨σ1,H1,I1,q1⟩=>?_);exact h2 pins s1 σ1 H1 _ _ Q I1 rr q1
def gTup (K:PySem.W.Frag) (n:Nat) (t:TGs):TG:=λ v σ H Q=>∃a xs,v = .ref a/\SqT K H a xs/\xs.length=n/\t xs σ H Q
theorem qI9 {es:List Expr}{k:Nat}{t:TGs}{n:Nat}(hc:X.calm=true) (h:PGs X es t)
  (hn:(assignEach es X.env).length=n:=by rfl) (hst:(assignEach es X.env).findIdx? (·.1)=none:=by rfl):PG X (.Tuple es k pos) (gTup X.K n t):=by
 intro pins s σ H v u Q I r hw;obtain⟨a,xs,e1,hq,hl,hw⟩:=hw;subst e1;cases r;obtain⟨its,rv,ht,hz⟩:=I.tuple hq;refine assign_Tuple_tuple (I.ok.hd hc) ht (by simp[hn,<-hl,rv.length]) hst λ h' hx=>?_;have I1:Inv X pins σ H {s with heap:=h'}:=I.kept (t':=s.toks) λ b o e=>hx b o (QH (Heap.lt_size e)) e;exact h pins _ σ H xs _ Q I1 (by simpa using rv) hw
end
structure It where
 go:Nat->Hp->Prop
 yld:Nat->Hp->V->Hp->Prop
 stop:Nat->Hp->Prop
def FpOk (X:Cx) (pins:List (Addr×Obj)) (H:Hp) (b:Addr):Prop :=
 H b=none/\b≠X.env.locals/\b∉X.fs/\(b∈X.ex\/X.s₀.heap.objs.size<=b)/\(∀x c,X.env.cells.lookup x=some c->c≠b)/\∀p∈X.pn++pins,p.1≠b
theorem Inv.fpOk {X:Cx}{pins:List (Addr×Obj)}{σ:St}{H H':Hp}{s:Shared}{b:Addr}(I:Inv X pins σ H s) (hb:s.heap.objs.size<=b) (hn:H' b=none):FpOk X pins H' b:=by
 refine⟨hn,Nat.ne_of_gt (Qp I.lt hb),I.nofs hb,.inr (Qn I.sz hb),λ x c e z=>?_,λ p hp z=>?_⟩
 ·obtain⟨v,q⟩:=I.cell x c e;exact absurd (Qp q.lt (by rw[z];exact hb)) (Jd _)
 ·exact absurd (Qp (Heap.lt_size (I.pin p hp).1) (by rw[z];exact hb)) (Jd _)
structure Turn (P:Program) (w:World) (K:PySem.W.Frag) (tg:Expr) (J:It) (fp:List Addr) (it:Addr) (tn:Nat->Heap->Prop):Prop where
 mem:it∈fp
 obj:∀i h,tn i h->∀b∈fp,∃o,h.get? b=some o/\∀v,o.data ≠ .cell v
 keep:∀i h h',tn i h->(∀b∈fp,∀o,h.get? b=some o->h'.get? b=some o)->tn i h'
 item:∀(X:Cx),X.prog=P->X.w=w->X.K=K->X.calm=true->∀(i:Nat) (pins:List (Addr×Obj)) (s:Shared) (σ:St) (H:Hp) (E:Value->Shared->Prop),Inv X pins σ H s->(∀b∈fp,FpOk X pins H b)->tn i s.heap->J.go i H->
  wpAny (model P w) X.A (pyNext (.ref it)) (λ r s1=>∃u,r=some u/\
   wpAny (model P w) X.A (letOwnedTupleGo tg (.ref it) u) (λ _ s2=>∃x H',Inv X pins σ H' s2/\RelV x u/\J.yld i H x H'/\tn (i+1) s2.heap/\∀b∈fp,H' b=none) E s1) E s
 done:∀(X:Cx),X.prog=P->X.w=w->X.K=K->X.calm=true->∀(i:Nat) (pins:List (Addr×Obj)) (s:Shared) (σ:St) (H:Hp) (E:Value->Shared->Prop),Inv X pins σ H s->(∀b∈fp,FpOk X pins H b)->tn i s.heap->J.stop i H->
  wpAny (model P w) X.A (pyNext (.ref it)) (λ r s1=>r=none/\Inv X pins σ H s1) E s
 self:∀(A:Around) (i:Nat) (s:Shared) (Q:Value->Shared->Prop) (E:Value->Shared->Prop),tn i s.heap->Q (.ref it) s->wpAny (model P w) A (pyIter (.ref it)) Q E s
def PIE (X:Cx) (pins:List (Addr×Obj)) (σ:St) (tg:Expr) (R:It->Hp->Prop) (itv:Value) (s2:Shared):Prop :=
 ∃(it:Addr) (fp:List Addr) (tn:Nat->Heap->Prop) (J:It) (H':Hp),itv = .ref it/\Inv X pins σ H' s2/\Turn X.prog X.w X.K tg J fp it tn/\tn 0 s2.heap/\(∀b∈fp,FpOk X pins H' b)/\R J H'
theorem qDH {M:Model}{A:Around}{E:Value->Shared->Prop}{s:Shared}{it:Addr}{u:Value}{o:Obj}{n:String}{vs:Array Value}{Q:Unit->Shared->Prop}(ho:s.heap.get? it=some o) (hc:o.cls = .type n) (hd:o.data = .fields vs)
  (hn:["enumerate", "zip", "dict_itemiterator", "dict_reverseitemiterator", "odict_iterator", "itertools.zip_longest", "itertools.pairwise"].contains n=false) (hQ:Q () s):wpAny M A (letOwnedTupleGo tg (.ref it) u) Q E s:=by
 unfold letOwnedTupleGo;cases tg<;>first
  |exact wpAny_pure hQ
  |(cases u<;>first
    |exact wpAny_pure hQ
    |(refine wpAny_bind (wpAny_load ho ?_)
      rw[hc,hd];show wpAny M A (if (["enumerate", "zip", "dict_itemiterator", "dict_reverseitemiterator", "odict_iterator", "itertools.zip_longest", "itertools.pairwise"].contains n&&vs[0]?==some (rawInt _))=true then _ else _) Q E s;rw[if_neg (by intro h;rw[hn,Bool.false_and] at h;cases h)];exact wpAny_pure hQ))
def Itl (K:PySem.W.Frag) (a:Addr):It :=
 ⟨λ i H=>∃xs x,SqL K H a xs/\xs[i]? = some x,λ i H x H'=>H'=H/\∀xs,SqL K H a xs->xs[i]? = some x,λ i H=>∃xs,SqL K H a xs/\xs.length<=i⟩
def Itt (K:PySem.W.Frag) (a:Addr):It :=
 ⟨λ i H=>∃xs x,SqT K H a xs/\xs[i]? = some x,λ i H x H'=>H'=H/\∀xs,SqT K H a xs->xs[i]? = some x,λ i H=>∃xs,SqT K H a xs/\xs.length<=i⟩
def Itr (lo:Int) (n:Nat):It:=⟨λ i _=>i<n,λ i H x H'=>H'=H/\x = .int (lo+i),λ i _=>n<=i⟩
theorem qAx (a it:Addr):Turn P w K tg (Itl K a) [it] it (λ i h=>h.IsListIter it a i) where
 mem:=by simp
 obj:=λ i h st b hb=>by
  have e:b=it:=by simpa using hb
  subst e;obtain⟨o,e,c,d⟩:=st;exact⟨o,e,λ v z=>by rw[d] at z;cases z⟩
 keep:=λ i h h' st k=>st.at λ o e=>k it (by simp) o e
 item:=by intro X hP hw hK hc i pins s σ H E I hf st hg;subst hP hw hK;obtain⟨xs,x,hq,hx⟩:=hg;obtain⟨its,rv,p,hz⟩:=I.list hq;obtain⟨u,hu,ru⟩:=rv.get hx;obtain⟨f0,f1,f2,f3,f4,f5⟩:=hf it (by simp);refine wpAny_pyNext_list_item st p.isList (x:=u) (by simpa using hu) λ h' st' sb=>?_;have I1:Inv X pins σ H {s with heap:=h'}:=I.turned (t':=s.toks) (λ b o hb e=>(sb.2 b hb).trans e) f0 f1 f3 f4 f5;obtain⟨o,e,c,d⟩:=id st';exact⟨u,rfl,qDH (s:={s with heap:=h'}) e c d (by decide) ⟨x,H,I1,ru,⟨rfl,λ ys hy=>by rw[I.qDG hy hq];exact hx⟩,st',λ b hb=>(hf b hb).1⟩⟩
 done:=by intro X hP hw hK hc i pins s σ H E I hf st hg;subst hP hw hK;obtain⟨xs,hq,hx⟩:=hg;obtain⟨its,rv,p,hz⟩:=I.list hq;obtain⟨f0,f1,f2,f3,f4,f5⟩:=hf it (by simp);have hl:=rv.length;exact wpAny_pyNext_list_end (I.ok.hd hc) st p.isList (by simp;lia) λ h' eb=>⟨rfl,I.turned (t':=s.toks) (λ b o hb e=>eb b o hb e) f0 f1 f3 f4 f5⟩
 self:=λ _ _ _ _ _ st h=>wpAny_pyIter_listiter st h
theorem qAM (a it:Addr):Turn P w K tg (Itt K a) [it] it (λ i h=>h.IsTupleIter it a i) where
 mem:=by simp
 obj:=λ i h st b hb=>by
  have e:b=it:=by simpa using hb
  subst e;obtain⟨o,e,c,d⟩:=st;exact⟨o,e,λ v z=>by rw[d] at z;cases z⟩
 keep:=λ i h h' st k=>st.at λ o e=>k it (by simp) o e
 item:=by intro X hP hw hK hc i pins s σ H E I hf st hg;subst hP hw hK;obtain⟨xs,x,hq,hx⟩:=hg;obtain⟨its,rv,p,hz⟩:=I.tuple hq;obtain⟨u,hu,ru⟩:=rv.get hx;obtain⟨f0,f1,f2,f3,f4,f5⟩:=hf it (by simp);refine wpAny_pyNext_tuple_item st (show s.heap.IsTuple a its.toArray from p) (x:=u) (by simpa using hu) λ h' st' sb=>?_;have I1:Inv X pins σ H {s with heap:=h'}:=I.turned (t':=s.toks) (λ b o hb e=>(sb.2 b hb).trans e) f0 f1 f3 f4 f5;obtain⟨o,e,c,d⟩:=id st';exact⟨u,rfl,qDH (s:={s with heap:=h'}) e c d (by decide) ⟨x,H,I1,ru,⟨rfl,λ ys hy=>by rw[I.qAv hy hq];exact hx⟩,st',λ b hb=>(hf b hb).1⟩⟩
 done:=by intro X hP hw hK hc i pins s σ H E I hf st hg;subst hP hw hK;obtain⟨xs,hq,hx⟩:=hg;obtain⟨its,rv,p,hz⟩:=I.tuple hq;obtain⟨f0,f1,f2,f3,f4,f5⟩:=hf it (by simp);have hl:=rv.length;exact wpAny_pyNext_tuple_end (I.ok.hd hc) st (show s.heap.IsTuple a its.toArray from p) (by simp;lia) λ h' eb=>⟨rfl,I.turned (t':=s.toks) (λ b o hb e=>eb b o hb e) f0 f1 f3 f4 f5⟩
 self:=λ _ _ _ _ _ st h=>wpAny_pyIter_tupleiter st h
theorem qAN (it:Addr) (lo:Int) (n:Nat):Turn P w K tg (Itr lo n) [it] it (λ i h=>IsRangeIter h it (lo+(i:Nat)*1) ((n:Int)-(i:Nat)) 1) where
 mem:=by simp
 obj:=λ i h st b hb=>by
  have e:b=it:=by simpa using hb
  subst e;exact⟨_,st,λ v z=>by have z':Data.fields _=Data.cell v:=z;cases z'⟩
 keep:=λ i h h' st k=>k it (by simp) _ st
 item:=by intro X hP hw hK hc i pins s σ H E I hf st hg;subst hP hw hK;obtain⟨f0,f1,f2,f3,f4,f5⟩:=hf it (by simp);have W:=Walks.range (prog:=X.prog) (w:=X.w) (I.ok.hd hc) it lo 1 n;refine W.item i s _ _ hg st λ v h' tk hv st' kk=>?_;obtain⟨t,rfl⟩:=hv;have I1:Inv X pins σ H {s with heap:=h',toks:=tk}:=I.turned (λ b o hb e=>kk b o (by simpa using hb) e) f0 f1 f3 f4 f5;refine⟨_,rfl,qDH (s:={s with heap:=h',toks:=tk}) (n := "range_iterator") st' rfl rfl (by decide) ⟨.int (lo+i),H,I1,⟨t,?_⟩,⟨rfl,rfl⟩,st',λ b hb=>(hf b hb).1⟩⟩;rw[Int.mul_one]
 done:=by intro X hP hw hK hc i pins s σ H E I hf st hg;subst hP hw hK;obtain⟨f0,f1,f2,f3,f4,f5⟩:=hf it (by simp);exact wpAny_pyNext_range_end (I.ok.hd hc) st (by have:n<=i:=hg;lia) λ h' eb=>⟨rfl,I.turned (t':=s.toks) (λ b o hb e=>eb b o hb e) f0 f1 f3 f4 f5⟩
 self:=λ _ _ _ _ _ st h=>wpAny_pyIter_rangeiter st h
end L2
namespace L2
open PySem PySem.Spec PyProof.Rows
variable {pins:List (Addr×Obj)}{σ:St}{H:Hp}{s:Shared}{fp:List Addr}
section
variable {X:Cx}{tg:Expr}
theorem q9C {R:It->Hp->Prop}{E:Value->Shared->Prop}{lo hi:Int}{t u v:Tok}{tk:Nat}(I:Inv X pins σ H s) (h1:-(2^62)<=lo) (h2:lo<2^62) (h3:-(2^62)<=hi) (h4:hi<2^62)
  (q:R (Itr lo (hi-lo).toNat) H):wpAny (model X.prog X.w) X.A (pyIter (.ref s.heap.objs.size)) (PIE X pins σ tg R) E {s with heap:=s.heap.push {cls:= .type "range",data:= .fields #[.int lo t,.int hi u,.int 1 v]},toks:=tk}:=by
 refine wpAny_pyIter_range (IsRange.new ..) (small_one h1 h2 h3 h4) ?_;have I1:Inv X pins σ H {s with heap:=s.heap.push {cls:= .type "range",data:= .fields #[.int lo t,.int hi u,.int 1 v]},toks:=tk}:=I.kept λ b o e=>Heap.get?_push_of_some _ e;refine⟨(s.heap.push {cls:= .type "range",data:= .fields #[.int lo t,.int hi u,.int 1 v]}).objs.size,[(s.heap.push {cls:= .type "range",data:= .fields #[.int lo t,.int hi u,.int 1 v]}).objs.size],_,_,H,rfl,
  I1.kept (t':=tk) λ b o e=>Heap.get?_push_of_some _ e,qAN _ lo (hi-lo).toNat,?_,λ b hb=>?_,q⟩
 ·have e1:lo+((0:Nat):Int)*1=lo:=by simp
  have e2:(((hi-lo).toNat:Nat):Int)-((0:Nat):Int)=Builtin.Range.rangeSize lo hi 1:=by rw[rangeSize_one];split<;>lia
  show IsRangeIter _ _ (lo+((0:Nat):Int)*1) ((((hi-lo).toNat:Nat):Int)-((0:Nat):Int)) 1;rw[e1,e2];exact Heap.get?_push_size _ rfl
 ·have e:b=(s.heap.push {cls:= .type "range",data:= .fields #[.int lo t,.int hi u,.int 1 v]}).objs.size:=by simpa using hb
  subst e;exact I1.fpOk (Qi _) (I1.hok.fresh (Qi _))
def q71 (fp:List Addr) (h:Heap):List (Addr×Obj):=fp.filterMap λ b=>(h.get? b).map λ o=>(b,o)
theorem q1d {h:Heap}{b:Addr}{o:Obj}(hb:b∈fp) (e:h.get? b=some o):(b,o)∈q71 fp h:=List.mem_filterMap.mpr ⟨b,hb,by rw[e];rfl⟩
theorem qAy {h:Heap}{p:Addr×Obj}(hp:p∈q71 fp h):p.1∈fp/\h.get? p.1=some p.2:=by
 obtain⟨b,hb,e⟩:=List.mem_filterMap.mp hp;cases q:h.get? b with
 |none=>rw[q] at e;cases e
 |some o =>
  rw[q] at e;have e':(b,o)=p:=QQ.inj e;subst e';exact⟨hb,q⟩
theorem Inv.pinned (I:Inv X pins σ H s) (hf:∀b∈fp,FpOk X pins H b) (ho:∀b∈fp,∃o,s.heap.get? b=some o/\∀v,o.data ≠ .cell v):Inv X (pins++q71 fp s.heap) σ H s :=
 I.q67 λ p hp=>(Qm.mp hp).elim (λ z=>I.pin p (Qj _ z)) λ z=>by obtain⟨hb,e⟩:=qAy z;obtain⟨f0,f1,f2,_⟩:=hf p.1 hb;obtain⟨o,e',d⟩:=ho p.1 hb;rw[e] at e';cases e';exact⟨e,f0,f1,f2,d⟩
theorem Inv.q14 {pl:List (Addr×Obj)}(I:Inv X (pins++pl) σ H s):Inv X pins σ H s:=I.q67 λ p hp=>I.pin p (Qj _ (Qv _ hp))
end
end L2
namespace L2
open PySem PySem.Spec PyProof.Rows
variable {f:Value->Value->Sem Value}
abbrev R2:=V->V->Hp->VK->Prop
def OpR (X:Cx) (f:Value->Value->Sem Value) (r:R2):Prop :=
 ∀(pins:List (Addr×Obj)) (s:Shared) (σ:St) (H:Hp) (x y:V) (v u:Value) (Q:VK),Inv X pins σ H s->RelV x v->RelV y u->r x y H Q->
  wpAny (model X.prog X.w) X.A (f v u) (EP X pins σ Q) X.xe s
def qDI (X:Cx) (f:Value) (r:List V->Hp->VK->Prop):Prop :=
 ∀(pins:List (Addr×Obj)) (s:Shared) (σ:St) (H:Hp) (xs:List V) (us:List Value) (Q:VK),Inv X pins σ H s->Vals xs us->r xs H Q->
  wpAny (model X.prog X.w) X.A (call f us) (EP X pins σ Q) X.xe s
def TruR (X:Cx) (r:V->Hp->(Bool->Hp->Prop)->Prop):Prop :=
 ∀(pins:List (Addr×Obj)) (s:Shared) (σ:St) (H:Hp) (x:V) (v:Value) (Q:Bool->Hp->Prop),Inv X pins σ H s->RelV x v->r x H Q->
  wpAny (model X.prog X.w) X.A (truthy v) (TP X pins σ Q) X.xe s
def rI (C:Int->Int->Prop) (g:Int->Int->V):R2:=λ x y H Q=>∃i j,x = .int i/\y = .int j/\C i j/\Q (g i j) H
def rI0 (g:Int->Int->V):R2:=λ x y H Q=>∃i j,x = .int i/\y = .int j/\Q (g i j) H
section
variable {X:Cx}{a b c:Expr}{ta tb tc:TE}{pos:Pos}
theorem opI {f:Value->Value->Sem Value}{C:Int->Int->Prop}{g:Int->Int->Int}
  (rule:∀(i j:Int) (t u:Tok) (s:Shared) (Q:Value->Shared->Prop) (E:Value->Shared->Prop),C i j->Q (.int (g i j) s.toks) {s with toks:=s.toks+1}->wpAny (model X.prog X.w) X.A (f (.int i t) (.int j u)) Q E s) :
  OpR X f (rI C λ i j=> .int (g i j)):=by
 intro pins s σ H x y v u Q I rx ry h;obtain⟨i,j,rfl,rfl,hc,q⟩:=h;obtain⟨t,rfl⟩:=rx;obtain⟨t',rfl⟩:=ry;exact rule i j t t' s _ _ hc ⟨.int (g i j),H,I.tok _,⟨_,rfl⟩,q⟩
theorem opI0 {f:Value->Value->Sem Value}{g:Int->Int->Int}
  (rule:∀(i j:Int) (t u:Tok) (s:Shared) (Q:Value->Shared->Prop) (E:Value->Shared->Prop),Q (.int (g i j) s.toks) {s with toks:=s.toks+1}->wpAny (model X.prog X.w) X.A (f (.int i t) (.int j u)) Q E s) :
  OpR X f (rI0 λ i j=> .int (g i j)):=by
 intro pins s σ H x y v u Q I rx ry h;obtain⟨i,j,rfl,rfl,q⟩:=h;obtain⟨t,rfl⟩:=rx;obtain⟨t',rfl⟩:=ry;exact rule i j t t' s _ _ ⟨.int (g i j),H,I.tok _,⟨_,rfl⟩,q⟩
theorem opB0 {g:Int->Int->Bool}
  (rule:∀(i j:Int) (t u:Tok) (s:Shared) (Q:Value->Shared->Prop) (E:Value->Shared->Prop),Q (.bool (g i j)) s->wpAny (model X.prog X.w) X.A (f (.int i t) (.int j u)) Q E s) :
  OpR X f (rI0 λ i j=> .bl (g i j)):=by
 intro pins s σ H x y v u Q I rx ry h;obtain⟨i,j,rfl,rfl,q⟩:=h;obtain⟨t,rfl⟩:=rx;obtain⟨t',rfl⟩:=ry;exact rule i j t t' s _ _ ⟨.bl (g i j),H,I,rfl,q⟩
def CDiv (i j:Int):Prop:=0<j/\j<1073741824
def CPow (i j:Int):Prop:=0<=j/\j<=1000000/\i.natAbs<2^64
def CMul (i j:Int):Prop:=(-(2^64)<i/\i<2^64)\/(-(2^64)<j/\j<2^64)
theorem CMul.ok {i j:Int}(h:CMul i j):IntMulOk i j:=by
 rcases h with ⟨h1,h2⟩|⟨h1,h2⟩
 ·exact .of_left (intBits_le_64 h1 h2)
 ·exact .of_right (intBits_le_64 h1 h2)
theorem q5e (k:Nat):(0:Int)<=2^k:=by rw[two_pow_cast];exact Int.natCast_nonneg _
theorem qIA:OpR X (binaryOp .Add) (rI0 λ i j=> .int (i+j)):=opI0 λ _ _ _ _ _ _ _ q=>add_int q
theorem qIB:OpR X (binaryOp .Sub) (rI0 λ i j=> .int (i-j)):=opI0 λ _ _ _ _ _ _ _ q=>sub_int q
theorem qIC:OpR X (binaryOp .Mult) (rI CMul λ i j=> .int (i*j)):=opI λ _ _ _ _ _ _ _ hc q=>mul_int q hc.ok
theorem qFc:OpR X (binaryOp .FloorDiv) (rI CDiv λ i j=> .int (i / j)):=opI λ i j _ _ _ _ _ hc q=>by have h1:(0:Int)<j:=hc.1;have h2:j<1073741824:=hc.2;exact floordiv_int (by lia) (by rw[Int.fdiv_eq_ediv_of_nonneg i (by lia)];exact q) (.inl (PyProof.noPylong_small (by lia)))
theorem qID:OpR X (binaryOp .Mod) (rI (λ _ j=>0<j) λ i j=> .int (i % j)):=opI λ i j _ _ _ _ _ hc q=>by have h1:(0:Int)<j:=hc;exact mod_int' (by lia) (by rw[Int.fmod_eq_emod_of_nonneg i (by lia)];exact q)
theorem qIE:OpR X (binaryOp .LShift) (rI CPow λ i j=> .int (i*2^j.toNat)):=opI λ _ _ _ _ _ _ _ hc q=>lshift_int_small hc.1 hc.2.1 hc.2.2 q
theorem qIF:OpR X (binaryOp .RShift) (rI (λ _ j=>0<=j) λ i j=> .int (i / 2^j.toNat)):=opI λ i j _ _ _ _ _ hc q =>
 rshift_int hc (by rw[Int.fdiv_eq_ediv_of_nonneg i (q5e _)];exact q)
theorem qIG:OpR X (binaryOp .BitAnd) (rI0 λ i j=> .int (Builtin.bitAnd i j)):=opI0 λ _ _ _ _ _ _ _ q=>and_int q
theorem qL2:OpR X (binaryOp .BitOr) (rI0 λ i j=> .int (Builtin.bitOr i j)):=opI0 λ _ _ _ _ _ _ _ q=>or_int q
theorem qIH:OpR X (binaryOp .BitXor) (rI0 λ i j=> .int (Builtin.bitXor i j)):=opI0 λ _ _ _ _ _ _ _ q=>xor_int q
theorem qFd:OpR X (inplaceOp .Add) (rI0 λ i j=> .int (i+j)):=opI0 λ _ _ _ _ _ _ _ q=>iadd_int q
theorem qFe:OpR X (inplaceOp .Sub) (rI0 λ i j=> .int (i-j)):=opI0 λ _ _ _ _ _ _ _ q=>isub_int q
theorem qFf:OpR X (inplaceOp .Mult) (rI CMul λ i j=> .int (i*j)):=opI λ _ _ _ _ _ _ _ hc q=>imul_int q hc.ok
theorem qDJ:OpR X (inplaceOp .FloorDiv) (rI CDiv λ i j=> .int (i / j)):=opI λ i j _ _ _ _ _ hc q=>by have h1:(0:Int)<j:=hc.1;have h2:j<1073741824:=hc.2;exact ifloordiv_int (by lia) (by rw[Int.fdiv_eq_ediv_of_nonneg i (by lia)];exact q) (.inl (PyProof.noPylong_small (by lia)))
theorem qFg:OpR X (inplaceOp .Mod) (rI (λ _ j=>0<j) λ i j=> .int (i % j)):=opI λ i j _ _ _ _ _ hc q=>by have h1:(0:Int)<j:=hc;exact imod_int (by lia) (by rw[Int.fmod_eq_emod_of_nonneg i (by lia)];exact q)
theorem qFh:OpR X (inplaceOp .LShift) (rI CPow λ i j=> .int (i*2^j.toNat)):=opI λ _ _ _ _ _ _ _ hc q=>ilshift_int_small hc.1 hc.2.1 hc.2.2 q
theorem qFi:OpR X (inplaceOp .RShift) (rI (λ _ j=>0<=j) λ i j=> .int (i / 2^j.toNat)):=opI λ i j _ _ _ _ _ hc q =>
 irshift_int hc (by rw[Int.fdiv_eq_ediv_of_nonneg i (q5e _)];exact q)
theorem qFj:OpR X (inplaceOp .BitAnd) (rI0 λ i j=> .int (Builtin.bitAnd i j)):=opI0 λ _ _ _ _ _ _ _ q=>iand_int q
theorem qII:OpR X (inplaceOp .BitOr) (rI0 λ i j=> .int (Builtin.bitOr i j)):=opI0 λ _ _ _ _ _ _ _ q=>ior_int q
theorem qFk:OpR X (inplaceOp .BitXor) (rI0 λ i j=> .int (Builtin.bitXor i j)):=opI0 λ _ _ _ _ _ _ _ q=>ixor_int q
end
section
variable {X:Cx}{a b c:Expr}{ta tb tc:TE}{pos:Pos}
theorem q31 {pins:List (Addr×Obj)}{σ:St}{H:Hp}{s:Shared}{Q:VK}{k k':Bool}(I:Inv X pins σ H s) (q:Q (.bl k) H) (e:k=k'):EP X pins σ Q (.bool k') s:=by subst e;exact⟨.bl k,H,I,rfl,q⟩
theorem qL3:OpR X (compareOp .LtE) (rI0 λ i j=> .bl (decide (i<=j))):=opB0 λ _ _ _ _ _ _ _ q=>le_int q
theorem qL4:OpR X (compareOp .Gt) (rI0 λ i j=> .bl (decide (j<i))):=opB0 λ _ _ _ _ _ _ _ q=>gt_int q
theorem qIJ:OpR X (compareOp .Is) (λ x y H Q=>y = .non/\Q (.bl (decide (x = .non))) H):=by
 intro pins s σ H x y v u Q I rx ry h;obtain⟨rfl,q⟩:=h;cases ry;refine is_none_gen (q31 I q ?_);cases x<;>first
  |(cases rx;rfl)
  |(obtain⟨t,rfl⟩:=rx;rfl)
theorem qFl:OpR X (compareOp .IsNot) (λ x y H Q=>y = .non/\Q (.bl (!decide (x = .non))) H):=by
 intro pins s σ H x y v u Q I rx ry h;obtain⟨rfl,q⟩:=h;cases ry;refine isnot_none_gen (q31 I q ?_);cases x<;>first
  |(cases rx;rfl)
  |(obtain⟨t,rfl⟩:=rx;rfl)
def TruV (K:PySem.W.Frag) (x:V) (H:Hp) (k:Bool):Prop :=
 match x with
 | .non=>k=false
 | .bl b=>k=b
 | .int i=>k=(i != 0)
 | .str y=>y.length<=sizeLine/\k=((y.length:Int) != 0)
 | .byt y=>y.size<=sizeLine/\k=((y.size:Int) != 0)
 | .ref p=>(∃xs,SqL K H p xs/\k=!xs.isEmpty)\/(∃xs,SqT K H p xs/\k=!xs.isEmpty)\/∃kvs,H p=some (.dK kvs)/\k=!kvs.isEmpty
 |_=>False
theorem qAO {κ:Type}{kvs:List (κ×V)}{vs:List (κ×Value)}(r:KV kvs vs):(!vs.isEmpty)=!kvs.isEmpty:=by cases r<;>rfl
theorem q5f {xs:List V}{its:List Value}(r:Vals xs its):(!its.toArray.isEmpty)=!xs.isEmpty:=by cases r<;>simp
theorem q72:(sizeLine:Nat)<2^63:=by rw[sizeLine_eq];decide
theorem qIK:TruR X (λ x H Q=>∃k,TruV X.K x H k/\Q k H):=by
 intro pins s σ H x v Q I rx h;obtain⟨k,e,q⟩:=h;have hl:=q72;have hs:sizeLine=16777216:=sizeLine_eq;cases x with
 |non =>
  cases rx;have e':k=false:=e;subst e';exact truthy_none ⟨H,I,q⟩
 |bl b =>
  cases rx;have e':k=b:=e;subst e';exact wpAny_truthy_bool ⟨H,I,q⟩
 |int i =>
  obtain⟨t,rfl⟩:=rx;have e':k=(i != 0):=e;subst e';exact PySem.P.truthy_int ⟨H,I,q⟩
 |str y =>
  obtain⟨t,rfl⟩:=rx;obtain⟨hy,e'⟩:y.length<=sizeLine/\k=((y.length:Int) != 0):=e;subst e';exact PySem.P.truthy_str (by lia) ⟨H,I.tok _,q⟩
 |byt y =>
  obtain⟨t,rfl⟩:=rx;obtain⟨hy,e'⟩:y.size<=sizeLine/\k=((y.size:Int) != 0):=e;subst e';exact PySem.W.truthy_bytes (by lia) ⟨H,I.tok _,q⟩
 |ref p =>
  cases rx;have e':(∃xs,SqL X.K H p xs/\k=!xs.isEmpty)\/(∃xs,SqT X.K H p xs/\k=!xs.isEmpty)\/∃kvs,H p=some (.dK kvs)/\k=!kvs.isEmpty:=e;rcases e' with ⟨xs,hx,e'⟩|⟨xs,hx,e'⟩|⟨kvs,hx,e'⟩
  ·subst e';obtain⟨its,r,pl,hz⟩:=I.list hx;have hlen:=r.length;exact wpAny_truthy_list pl.isList (by simp only[Qr];lia) ⟨H,I.tok _,by rw[q5f r];exact q⟩
  ·subst e';obtain⟨its,r,pl,hz⟩:=I.tuple hx;have hlen:=r.length;exact truthy_tuple pl (by simp only[Qr];lia) ⟨H,I.tok _,by rw[q5f r];exact q⟩
  ·subst e';obtain⟨hz,hS,vs,r,m⟩:kvs.length<=sizeLine/\(p==sysModules)=false/\∃vs,KV kvs vs/\s.heap.DictOf (q0g X.prog X.w) p vs:=I.hok p _ hx;have hlen:kvs.length=vs.length:=Paired.length r;exact wpAny_truthy_dict hS m (by lia) ⟨H,I.tok _,by rw[qAO r];exact q⟩
 |_=>exact (show False from e).elim
theorem qAP:OpR X (binaryOp .Add) (λ x y H Q=>∃i j,x = .str i/\y = .str j/\i.length+j.length<=sizeLine/\Q (.str (i++j)) H):=by intro pins s σ H x y v u Q I rx ry h;obtain⟨i,j,rfl,rfl,hz,q⟩:=h;obtain⟨t,rfl⟩:=rx;obtain⟨t',rfl⟩:=ry;exact add_str (λ t' tk=>⟨.str (i++j),H,I.tok _,⟨_,rfl⟩,q⟩) hz
theorem vals1 {x:V}{us:List Value}(r:Vals [x] us):∃u,us=[u]/\RelV x u:=by
 cases r with
 |cons r1 r2=>cases r2;exact⟨_,rfl,r1⟩
end
end L2
namespace L2
open PySem PySem.Spec PyProof.Rows
theorem RelO.some_of {v:V}{o:Option Value}(r:RelO (some v) o):∃u,o=some u/\RelV v u:=by
 cases o with
 |none=>exact (show False from r).elim
 |some u=>exact⟨u,rfl,r⟩
end L2
namespace L2
open PySem PySem.Spec PyProof.Rows
variable {A:Around}{K:PySem.W.Frag}
structure Room (k:Nat) (A:Around):Prop where
 hd:A.handled=none
 dp:A.depth+3*k+5<recursionLimit
 un:A.units+16*k+200<cLine
theorem Room.mono {j k:Nat}(r:Room k A) (h:j<=k):Room j A:=⟨r.hd,by have:=r.dp;lia,by have:=r.un;lia⟩
theorem Room.deeper {k:Nat}(r:Room (k+1) A) (env:Env):Room k (A.deeper env) :=
 ⟨r.hd,by have:=r.dp;show A.depth+1+3*k+5<_;lia,by have:=r.un;show A.units+3+16*k+200<_;lia⟩
theorem Room.depth {k:Nat}(r:Room k A):A.depth<recursionLimit:=by have:=r.dp;lia
theorem Room.units {k:Nat}(r:Room k A):A.units+64<cLine:=by have:=r.un;lia
abbrev Sp:=List V->Hp->VK->XK->Prop
abbrev CXT:=List Env->Hp->Shared->XK->Value->Shared->Prop
structure Env0 (P:Program) (w:World) (K:PySem.W.Frag) (mg:Str->Option Value) (base:Heap) (A:Around) (outer:List Env) (s:Shared) (H:Hp):Prop where
 frames:A.frames=some outer
 mod:Mod K mg base
 bs:∀b o,base.get? b=some o->s.heap.get? b=some o/\H b=none
 bsz:base.objs.size<=s.heap.objs.size
 funs:s.heap.FunFrames base outer
 frf:∀b∈frs outer,H b=none
 hok:HOk P w H s.heap
 bare:AllBare s.gens
def CE (outer:List Env) (P:Program) (w:World) (H:Hp) (s:Shared) (Q:VK) (u:Value) (s':Shared):Prop :=
 ∃v H',s'.os=s.os/\AllBare s'.gens/\Un (frs outer) [] H H' s.heap s'.heap/\HOk P w H' s'.heap/\RelV v u/\Q v H'
def CR (CX:CXT) (outer:List Env) (P:Program) (w:World) (H:Hp) (s:Shared) (Q:VK) (E:XK) (r:Result) (s':Shared):Prop :=
 match r with
 | .ok (.ret u)=>CE outer P w H s Q u s'
 | .ok _=>False
 | .error e=>CX outer H s E e s'
structure FnOk (P:Program) (w:World) (K:PySem.W.Frag) (mg:Str->Option Value) (base:Heap) (CX:CXT) (k:Nat) (f:Addr) (fd:FuncData) (ps:List Str) (sp:Sp):Prop where
 len:∀vs H Q E,sp vs H Q E->vs.length=ps.length
 run:∀(A:Around) (outer:List Env) (s:Shared) (H:Hp) (args:Args) (us:List Value) (vs:List V) (Q:VK) (E:XK),Room k A->Env0 P w K mg base A outer s H->BindsTo s fd args (ps.zip us)->Vals vs us->sp vs H Q E->
  codeAny (model P w) A (.call (.ref f) args) (CR CX outer P w H s Q E) s
theorem FnOk.imp {P:Program}{w:World}{mg:Str->Option Value}{base:Heap}{CX:CXT}{k:Nat}{f:Addr}{fd:FuncData}{ps:List Str}{sp sp':Sp}(F:FnOk P w K mg base CX k f fd ps sp)
  (h:∀vs H Q E,sp' vs H Q E->sp vs H Q E):FnOk P w K mg base CX k f fd ps sp' :=
 ⟨λ vs H Q E q=>F.len vs H Q E (h _ _ _ _ q),λ A outer s H args us vs Q E hr he hb hv hs=>F.run A outer s H args us vs Q E hr he hb hv (h _ _ _ _ hs)⟩
section
variable {X:Cx}{pins:List (Addr×Obj)}{σ:St}{H:Hp}{s s':Shared}
theorem Inv.env0 (I:Inv X pins σ H s):Env0 X.prog X.w X.K X.mg X.base X.A X.stack s H :=
 ⟨I.ok.frames,I.ok.mod,I.bs,Qn I.ok.bsz I.sz,I.stack,I.q8L,I.hok,I.bare⟩
theorem Inv.after {Q:VK}{u:Value}(I:Inv X pins σ H s) (h:CE X.stack X.prog X.w H s Q u s'):EP X pins σ Q u s':=by obtain⟨v,H',os,bare,un,hok,r,q⟩:=h;obtain⟨hh,g,d,t,os'⟩:=s';obtain rfl:os'=s.os:=os;exact⟨v,H',I.call (h':=hh) (g':=g) (d':=d) (t':=t) (ch:=[]) un hok bare (λ b z=>absurd z (by simp)),r,q⟩
end
def Binds (K:PySem.W.Frag) (fd:FuncData) (ps:List Str) (ds:List Value):Prop :=
 ∀(s:Shared) (us:List Value),K.In s.heap->(us++ds).length=ps.length->BindsTo s fd ⟨us,[]⟩ (ps.zip (us++ds))
theorem Binds.all {fd:FuncData}{ps:List Str}(h:∀us:List Value,us.length=ps.length->bindArgs fd ⟨us,[]⟩=pure (ps.zip us)):Binds K fd ps []:=λ s us _ hl=>by rw[QR] at hl |-;exact .of_eq (h us hl)
section
variable {X:Cx}{CX:CXT}{k:Nat}{f C:Addr}{fd:FuncData}{ps:List Str}{sp:Sp}{dvs:List V}{ds:List Value}{E:XK}{x m:Str}{p pos apos:Pos}{e o:Expr}{es:List Expr}{ta:TE}{t:TA}
structure Mk (K:PySem.W.Frag) (C f:Addr):Prop where
 makes:PySem.W.makesIn K C=true
 init:PySem.W.findIn K (.ref C) "__init__" = some (some (.ref f))
 fn:PySem.W.isFn K (.ref f)=true
 kp:PySem.W.keepIn K (.ref C)=true
end
structure FnScope (N P:List Str) (sc:Scope):Prop where
 kind:sc.kind = .function
 co:sc.isCoroutine=false
 gen:sc.isGenerator=false
 nd:N.Nodup
 pre:N.take P.length=P
 par:∀x∈P,sc.names.lookup x=some .local\/sc.names.lookup x=some .cell
 nofree:∀y∈sc.names,y.2 ≠ .free
theorem q73 {kindOf:Str->Option NameKind}{x:Str}:∀{binds:List (Str×Value)}{m:Str->Option Value},(∀v,(x,v)∉binds)->bindL kindOf binds m x=m x
 |[],_,_=>rfl
 |(n,v)::r,m,h=>by
  unfold bindL;rw[q73 λ w hw=>h w (Qa _ hw)];split
  ·have:x≠n:=(by rintro rfl;exact h v Qb);simp[this]
  ·rfl
theorem q74 {kindOf:Str->Option NameKind}{x:Str}:∀{binds:List (Str×Value)}{m:Str->Option Value},(∀v,(x,v)∉binds)->bindC kindOf binds m x=m x
 |[],_,_=>rfl
 |(n,v)::r,m,h=>by
  unfold bindC;rw[q74 λ w hw=>h w (Qa _ hw)];split
  ·rfl
  ·have:x≠n:=(by rintro rfl;exact h v Qb);simp[this]
theorem q75 {kindOf:Str->Option NameKind}{x:Str}{v:Value}:∀{P:List Str}{vs:List Value}{i:Nat}{m:Str->Option Value},P.Nodup->P[i]? = some x->vs[i]? = some v->kindOf x=some .local->
  bindL kindOf (P.zip vs) m x=some v
 |[],_,_,_,_,h,_,_=>by simp at h
 |_::_,[],_,_,_,_,h,_=>by simp at h
 |p::P,w::vs,0,m,nd,h1,h2,hk=>by simp at h1 h2;subst h1;subst h2;show bindL kindOf ((p,w)::P.zip vs) m p=_;unfold bindL;rw[q73 λ v hv=>(QD.mp nd).1 (List.of_mem_zip hv).1,if_pos hk];simp
 |p::P,w::vs,i+1,m,nd,h1,h2,hk=>by show bindL kindOf ((p,w)::P.zip vs) m x=_;unfold bindL;exact q75 (i:=i) (QD.mp nd).2 (by simpa using h1) (by simpa using h2) hk
theorem q76 {kindOf:Str->Option NameKind}{x:Str}{v:Value}:∀{P:List Str}{vs:List Value}{i:Nat}{m:Str->Option Value},P.Nodup->P[i]? = some x->vs[i]? = some v->kindOf x≠some .local->
  bindC kindOf (P.zip vs) m x=some v
 |[],_,_,_,_,h,_,_=>by simp at h
 |_::_,[],_,_,_,_,h,_=>by simp at h
 |p::P,w::vs,0,m,nd,h1,h2,hk=>by simp at h1 h2;subst h1;subst h2;show bindC kindOf ((p,w)::P.zip vs) m p=_;unfold bindC;rw[q74 λ v hv=>(QD.mp nd).1 (List.of_mem_zip hv).1,if_neg hk];simp
 |p::P,w::vs,i+1,m,nd,h1,h2,hk=>by show bindC kindOf ((p,w)::P.zip vs) m x=_;unfold bindC;exact q76 (i:=i) (QD.mp nd).2 (by simpa using h1) (by simpa using h2) hk
def start (N:List Str) (vs:List V):St:=vs.map some++Qe (N.length-vs.length) none
def cxOf (CX:CXT) (P:Program) (w:World) (K:PySem.W.Frag) (mg:Str->Option Value) (base:Heap) (N:List Str) (qual:Str) (scope:Scope) (f:Addr) (cd:Value) (A:Around) (outer:List Env) (s:Shared) (H:Hp) (E:XK):Cx where
 prog:=P
 w:=w
 K:=K
 mg:=mg
 base:=base
 A:=A.deeper (envOfC qual scope s.heap.objs.size f cd)
 N:=N
 s₀:=s
 H₀:=H
 env:=envOfC qual scope s.heap.objs.size f cd
 outer:=outer
 stack:=envOfC qual scope s.heap.objs.size f cd::outer
 ex:=[]
 calm:=true
 fn:=λ _=>true
 pn:=[]
 xe:=λ e s'=>wpAny (model P w) (A.deeper (envOfC qual scope s.heap.objs.size f cd)) (leaving (envOfC qual scope s.heap.objs.size f cd) e) (λ _ s''=>CX outer H s E e s'') (λ e' s''=>CX outer H s E e' s'') s'
theorem q9D {sc:Scope}{n:Nat}{x:Str}(h:sc.names.lookup x=some .cell):∃c,(cellsFrom n sc.names []).lookup x=some c:=by have q:=PySem.W.cellsFrom_some sc.names n [] (.inl h);exact Option.isSome_iff_exists.mp q
theorem q77 {CX:CXT}{P:Program}{w:World}{mg:Str->Option Value}{base:Heap}{N ps:List Str}{qual:Str}{scope:Scope}{f:Addr}{cd:Value}{outer:List Env}{s s1:Shared}{H:Hp}{E:XK}{us:List Value}{vs:List V}
  (S:FnScope N ps scope) (hd:A.handled=none) (e0:Env0 P w K mg base A outer s H) (hl:vs.length=ps.length) (r:Vals vs us)
  (x:InCallC s s.heap.objs.size (bindL (envOfC qual scope s.heap.objs.size f cd).kindOf (ps.zip us) λ _=>none) (cellsFrom (s.heap.objs.size+1) scope.names []) (bindC (envOfC qual scope s.heap.objs.size f cd).kindOf (ps.zip us) λ _=>none) s1) :
  Inv (cxOf CX P w K mg base N qual scope f cd A outer s H E) [] (start N vs) H s1:=by
 have hpl:ps.length<=N.length:=by have:=congrArg List.length S.pre;rw[Jz] at this;lia
 obtain⟨h1,tk,rfl,hk⟩:=x.done;have noA:∀b:Addr,b∉(cxOf CX P w K mg base N qual scope f cd A outer s H E).ex:=λ b z=>absurd (show b∈([]:List Addr) from z) (by simp);refine⟨⟨e0.mod,S.kind,rfl,rfl,Qi _,λ y z c h1 h2=>?_,λ y hy=>?_,λ y c _ h=>?_,λ _=>hd,Around.frames_deeper e0.frames,.inr ⟨rfl,rfl⟩,λ b z=>absurd z (noA b),e0.bs,e0.bsz,λ b _ _=>noA b,λ b z=>absurd z (noA b),e0.funs,e0.frf⟩,
  rfl,e0.bare,Un.kept hk,⟨_,x.toInCall.ns,λ i y v h1 h2 h3=>?_⟩,λ y c h=>⟨_,x.cell y c h⟩,e0.hok.fresh (Qi _),λ y c h=>?_,λ p hp=>absurd (show p∈([]:List (Addr×Obj)) from hp) (by simp),e0.hok.kept hk,?_⟩
 ·exact name_of_addr x.apart (PySem.mem_of_lookup h1) (PySem.mem_of_lookup h2)
 ·have hy:scope.names.lookup y=some .cell\/scope.names.lookup y=some .free:=hy;rcases hy with hy|hy
  ·exact q9D hy
  ·exact absurd rfl (S.nofree _ (PySem.mem_of_lookup hy))
 ·exact Nat.le_of_lt (x.above y c (PySem.mem_of_lookup h))
 ·have hi:i<vs.length:=by
   unfold start at h2
   by_cases hi:i<vs.length
   ·exact hi
   ·rw[QT (by simpa using hi)] at h2;rw[List.getElem?_replicate] at h2;split at h2<;>cases h2
  have ha:vs[i]? = some v:=by
   unfold start at h2;rw[QI (by simpa using hi),Qs] at h2;cases e:vs[i]? with
   |none=>rw[e] at h2;cases h2
   |some a=>rw[e] at h2;cases h2;rfl
  obtain⟨u,hu,rv⟩:=r.get ha;have hp:ps[i]? = some y:=by rw[<-S.pre,List.getElem?_take_of_lt (by lia)];exact h1
  have ndP:ps.Nodup:=by rw[<-S.pre];exact S.nd.sublist (List.take_sublist _ _)
  refine⟨u,rv,?_⟩;rcases S.par y (Qk hp) with k|k
  ·exact .inl ⟨k,q75 ndP hp hu k⟩
  ·obtain⟨c,e⟩:=q9D (n:=s.heap.objs.size+1) k;refine .inr ⟨.inl k,c,e,?_⟩;have q:=x.cell y c e;rw[q76 ndP hp hu (by show scope.names.lookup y≠_;rw[k];decide)] at q;exact q
 ·exact e0.hok.fresh (Nat.le_of_lt (x.above y c (PySem.mem_of_lookup h)))
 ·unfold start;show _=N.length;rw[QA,Qh,Q4];lia
end L2
namespace L2
open PySem PySem.Spec PyProof.Rows
variable {xs:List (List Key×Addr×Value)}{H':Hp}{Q:Value->Shared->Prop}
section
variable {κ:Type}[DecidableEq κ]
def valV (kvs:List (κ×V)) (k:κ):Option V:=(kvs.find? λ kv=>decide (kv.1=k)).map (·.2)
def putK (kvs:List (κ×V)) (k:κ) (v:V):List (κ×V) :=
 if (kvs.any λ kv=>decide (kv.1=k))=true then kvs.map (λ kv=>if kv.1=k then (kv.1,v) else kv) else kvs++[(k,v)]
theorem q3S {p:κ×V}{r:List (κ×V)}{k:κ}(e:p.1=k):valV (p::r) k=some p.2:=by simp[valV,Js,e]
theorem q2p {p:κ×V}{r:List (κ×V)}{k:κ}(e:¬p.1=k):valV (p::r) k=valV r k:=by simp[valV,Js,e]
theorem q9E (k:κ):∀kvs:List (κ×V),(kvs.any λ kv=>decide (kv.1=k))=(valV kvs k).isSome
 |[]=>rfl
 |p::r=>by
  rw[Q0]
  by_cases e:p.1=k
  ·simp only[q3S e,decide_eq_true e,Bool.true_or,Option.isSome_some]
  ·rw[q2p e,decide_eq_false e,Bool.false_or];exact q9E k r
theorem q4v (kvs:List (κ×V)) (k:κ) (v:V):(putK kvs k v).length<=kvs.length+1:=by
 unfold putK;split
 ·rw[Qh];lia
 ·rw[QA,Qo,Q5];lia
theorem RelO.q2Z {o:Option V}{u:Option Value}(r:RelO o u):o.isSome=u.isSome:=by
 cases o with
 |none=>cases u with
  |none=>rfl
  |some _=>exact (show False from r).elim
 |some _=>cases u with
  |none=>exact (show False from r).elim
  |some _=>rfl
theorem KV.val {kvs:List (κ×V)}{vs:List (κ×Value)}(r:KV kvs vs) (k:κ):RelO (valV kvs k) (valueAt vs k):=by
 unfold KV at r
 induction r with
 |nil=>exact True.intro
 |@cons p q ps qs h t ih =>
  obtain⟨h1,h2⟩:=h
  by_cases e:p.1=k
  ·have e':q.1=k:=h1.symm.trans e;have b:valueAt (q::qs) k=some q.2:=(by simp[valueAt,Js,e']);rw[q3S e,b];exact h2
  ·have e':¬q.1=k:=λ z=>e (h1.trans z);have b:valueAt (q::qs) k=valueAt qs k:=(by simp[valueAt,Js,e']);rw[q2p e,b];exact ih
theorem KV.any {kvs:List (κ×V)}{vs:List (κ×Value)}(r:KV kvs vs) (k:κ):(kvs.any λ kv=>decide (kv.1=k))=vs.any λ kv=>decide (kv.1=k):=by
 unfold KV at r
 induction r with
 |nil=>rfl
 |cons h t ih=>rw[Q0,Q0,ih,h.1]
theorem KV.repl {kvs:List (κ×V)}{vs:List (κ×Value)}(r:KV kvs vs) (k:κ) {y:V}{u:Value}(ry:RelV y u) :
  KV (kvs.map λ kv=>if kv.1=k then (kv.1,y) else kv) (vs.map λ kv=>if kv.1=k then (kv.1,u) else kv):=by
 unfold KV at r |-
 induction r with
 |nil=>exact .nil
 |@cons p q ps qs h t ih =>
  rw[Qx,Qx];refine .cons ?_ ih;obtain⟨h1,h2⟩:=h
  by_cases e:p.1=k
  ·rw[if_pos e,if_pos (h1.symm.trans e)];exact⟨h1,ry⟩
  ·rw[if_neg e,if_neg (λ z=>e (h1.trans z))];exact⟨h1,h2⟩
theorem KV.put {kvs:List (κ×V)}{vs:List (κ×Value)}(r:KV kvs vs) (k:κ) {y:V}{u:Value}(ry:RelV y u):KV (putK kvs k y) (stored vs k u):=by
 unfold putK stored;rw[r.any k]
 by_cases e:(vs.any λ kv=>decide (kv.1=k))=true
 ·rw[if_pos e,if_pos e];exact r.repl k ry
 ·rw[if_neg e,if_neg e];exact Paired.snoc r ⟨rfl,ry⟩
theorem KV.length {kvs:List (κ×V)}{vs:List (κ×Value)}(r:KV kvs vs):kvs.length=vs.length:=Paired.length r
end
theorem qAQ {P:Program}{w:World}{k:Key}{u:Value}(r:RelV (kV k) u):(q0g P w).is k u=true:=by
 cases k with
 |inl i=>obtain⟨t,e⟩:=(show ∃t,u=Value.int i t from r);subst e;exact q8J P w i t
 |inr x=>obtain⟨t,e⟩:=(show ∃t,u=Value.str x t from r);subst e;exact q8K P w x t
theorem q78 {P:Program}{w:World}:∀{ks:List Key}{us:List Value},Vals (ks.map kV) us->ItemsAre (q0g P w) ks us
 |[],_,r=>by rw[List.map_nil] at r;cases r;exact .nil
 |k::ks,_,r=>by
  rw[Qx] at r;cases r with
  |cons h t=>exact .cons (qAQ h) (q78 t)
abbrev KT (H:Hp):List (List Key×V)->List (List Key×Addr×Value)->Prop:=Paired λ p q=>p.1=q.1/\H q.2.1=some (.tup (p.1.map kV))/\RelV p.2 q.2.2
theorem KT.val {H:Hp}{kvs:List (List Key×V)}(r:KT H kvs xs) (k:List Key):RelO (valV kvs k) ((atKey xs k).map (·.2)):=by
 induction r with
 |nil=>exact True.intro
 |@cons p q ps qs h t ih =>
  obtain⟨h1,_,h2⟩:=h
  by_cases e:p.1=k
  ·have e':q.1=k:=h1.symm.trans e;have b:atKey (q::qs) k=some q.2:=(by simp[atKey,Js,e']);rw[q3S e,b];exact h2
  ·have e':¬q.1=k:=λ z=>e (h1.trans z);have b:atKey (q::qs) k=atKey qs k:=(by simp[atKey,Js,e']);rw[q2p e,b];exact ih
theorem KT.repl {H:Hp}{kvs:List (List Key×V)}(r:KT H kvs xs) (k:List Key) {y:V}{u:Value}(ry:RelV y u) :
  KT H (kvs.map λ kv=>if kv.1=k then (kv.1,y) else kv) (xs.map (putAt k u)):=by
 induction r with
 |nil=>exact .nil
 |@cons p q ps qs h t ih =>
  rw[Qx,Qx];refine .cons ?_ ih;obtain⟨h1,h2,h3⟩:=h;unfold putAt
  by_cases e:p.1=k
  ·rw[if_pos e,if_pos (h1.symm.trans e)];exact⟨h1,h2,ry⟩
  ·rw[if_neg e,if_neg (λ z=>e (h1.trans z))];exact⟨h1,h2,h3⟩
theorem KT.put {H:Hp}{kvs:List (List Key×V)}(r:KT H kvs xs) (k:List Key) {b:Addr}{y:V}{u:Value}(hb:H b=some (.tup (k.map kV))) (ry:RelV y u) :
  KT H (putK kvs k y) (storedH xs k b u):=by
 have e:(kvs.any λ kv=>decide (kv.1=k))=(atKey xs k).isSome:=by rw[q9E,(r.val k).q2Z,Option.isSome_map]
 unfold putK storedH;rw[e]
 by_cases q:(atKey xs k).isSome=true
 ·rw[if_pos q,if_pos q];exact r.repl k ry
 ·rw[if_neg q,if_neg q];exact Paired.snoc r ⟨rfl,hb,ry⟩
theorem KT.keeps {H:Hp}{kvs:List (List Key×V)}(r:KT H kvs xs) (ht:∀b ys,H b=some (.tup ys)->H' b=some (.tup ys)):KT H' kvs xs :=
 Paired.mapP r λ _ _ z=>⟨z.1,ht _ _ z.2.1,z.2.2⟩
section
variable {P:Program}{w:World}{H:Hp}{h:Heap}{a:Addr}
theorem qIL {u:HO}(ok:HOk P w H h) (e:Rd H a u):q1O P w H h a u:=e.ok ok
theorem q8M {kvs:List (Key×V)}(ok:HOk P w H h) (e:Rd H a (.dK kvs)):kvs.length<=sizeLine/\(a==sysModules)=false/\∃vs,KV kvs vs/\h.DictOf (q0g P w) a vs :=
 show q1O P w H h a (.dK kvs) from qIL ok e
theorem qFm {kvs:List (Key×V)}(ok:HOk P w H h) (e:H a=some (.dK kvs)):kvs.length<=sizeLine/\(a==sysModules)=false/\∃vs,KV kvs vs/\h.DictOf (q0g P w) a vs:=q8M ok (.inl e)
theorem q79 {ks:List Key}(ok:HOk P w H h) (e:H a=some (.tup (ks.map kV))):(tupleKind (q0g P w)).is h ks a:=by
 obtain⟨_,its,r,o,h1,h2,n,h3⟩:=(show q1O P w H h a (.tup (ks.map kV)) from ok a _ e)
 exact⟨o,its.toArray,n,h1,h2,h3,by simpa using q78 r⟩
theorem qAz {kvs:List (List Key×V)}(ok:HOk P w H h) (e:Rd H a (.dT kvs)):kvs.length<=sizeLine/\(a==sysModules)=false/\
  ∃xs,KT H kvs xs/\h.DictOfH (tupleKind (q0g P w)) a xs:=by
 obtain⟨z,y,xs,r,o,es,ep,h1,h2,h3,h4,h5⟩:=(show q1O P w H h a (.dT kvs) from qIL ok e)
 refine⟨z,y,xs,r,o,es,ep,h1,h2,h3,h4,λ x hx=>?_,h5⟩;have all:∀{l:List (List Key×V)}{m:List (List Key×Addr×Value)},KT H l m->∀x∈m,(tupleKind (q0g P w)).is h x.1 x.2.1:=by
  intro l m q
  induction q with
  |nil=>intro x hx;exact nomatch hx
  |@cons p q ps qs hq t ih =>
   intro x hx;rcases Qf.mp hx with e|hx
   ·subst e;exact q79 ok (by rw[<-hq.1];exact hq.2.1)
   ·exact ih x hx
 exact all r x hx
theorem qL5 {kvs:List (List Key×V)}(ok:HOk P w H h) (e:H a=some (.dT kvs)):kvs.length<=sizeLine/\(a==sysModules)=false/\
  ∃xs,KT H kvs xs/\h.DictOfH (tupleKind (q0g P w)) a xs:=qAz ok (.inl e)
end
def DGet (H:Hp) (a:Addr) (y:V) (r:Option V):Prop :=
 (∃kvs k,Rd H a (.dK kvs)/\y=kV k/\r=valV kvs k)\/∃kvs k b,Rd H a (.dT kvs)/\y = .ref b/\H b=some (.tup (k.map kV))/\r=valV kvs k
def DPut (H:Hp) (a:Addr) (y v:V) (H':Hp):Prop :=
 (∃kvs k,H a=some (.dK kvs)/\y=kV k/\kvs.length<sizeLine/\H'=upd H a (.dK (putK kvs k v)))\/
 ∃kvs k b,H a=some (.dT kvs)/\y = .ref b/\H b=some (.tup (k.map kV))/\kvs.length<sizeLine/\H'=upd H a (.dT (putK kvs k v))
theorem DPut.k {H:Hp}{a:Addr}{kvs:List (Key×V)}{k:Key}{v:V}(e:H a=some (.dK kvs)) (hl:kvs.length<sizeLine):DPut H a (kV k) v (upd H a (.dK (putK kvs k v))):= .inl ⟨kvs,k,e,rfl,hl,rfl⟩
section
variable {X:Cx}{pins:List (Addr×Obj)}{σ:St}{H:Hp}{s:Shared}{a:Addr}{y v:V}{u r:Value}{o:Option V}{A:Around}{E:Value->Shared->Prop}
theorem Inv.big (I:Inv X pins σ H s):sysModules<s.heap.objs.size:=by have h:mainGlobals<s.heap.objs.size:=(I.mod.glob.keeps I.bk).lt;exact Nat.lt_trans (by decide) h
theorem qB0 (hu:A.units+1<cLine) (I:Inv X pins σ H s) (g:DGet H a y (some v)) (ry:RelV y u) (h:∀w' s',Inv X pins σ H s'->RelV v w'->Q w' s') :
  wpAny (model X.prog X.w) A (getItem (.ref a) u) Q E s:=by
 rcases g with ⟨kvs,k,e,ey,l⟩|⟨kvs,k,b,e,ey,eb,l⟩
 ·subst ey;obtain⟨z,hd,vs,rel,dd⟩:=q8M I.hok e;obtain⟨w',hw,rw'⟩:=RelO.some_of (v:=v) (o:=valueAt vs k) (by rw[l];exact rel.val k);exact wpAny_getItem_of (qAQ ry) dd.mapOf hw (h w' _ (I.tok _) rw')
 ·subst ey;cases (show u=Value.ref b from ry);obtain⟨z,hd,xs,rel,dd⟩:=qAz I.hok e;obtain⟨w',hw,rw'⟩:=RelO.some_of (v:=v) (o:=(atKey xs k).map (·.2)) (by rw[l];exact rel.val k);obtain⟨p,hp,hp2⟩:=Jj.mp hw;refine wpAny_getItem_heap (tupleKind_room_in1 hu) (q79 I.hok eb) dd hp ?_;rw[hp2];exact h w' _ (I.tok _) rw'
theorem d_in (hu:A.units+1<cLine) (I:Inv X pins σ H s) (g:DGet H a y o) (ry:RelV y u) (h:∀s',Inv X pins σ H s'->Q (.bool o.isSome) s') :
  wpAny (model X.prog X.w) A (compareOp .In u (.ref a)) Q E s:=by
 rcases g with ⟨kvs,k,e,ey,l⟩|⟨kvs,k,b,e,ey,eb,l⟩
 ·subst ey;obtain⟨z,hd,vs,rel,dd⟩:=q8M I.hok e;refine wpAny_in_of (qAQ ry) hd dd.mapOf ?_;rw[<-(rel.val k).q2Z,<-l];exact h _ (I.tok _)
 ·subst ey;cases (show u=Value.ref b from ry);obtain⟨z,hd,xs,rel,dd⟩:=qAz I.hok e;refine wpAny_in_heap (tupleKind_room_in1 hu) (q79 I.hok eb) hd dd ?_;have q:=(rel.val k).q2Z;rw[Option.isSome_map] at q;rw[<-q,<-l];exact h _ (I.tok _)
theorem qFn (hu:A.units+1<cLine) (I:Inv X pins σ H s) (g:DGet H a y o) (ry:RelV y u) (h:∀s',Inv X pins σ H s'->Q (.bool (!o.isSome)) s') :
  wpAny (model X.prog X.w) A (compareOp .NotIn u (.ref a)) Q E s:=by
 rcases g with ⟨kvs,k,e,ey,l⟩|⟨kvs,k,b,e,ey,eb,l⟩
 ·subst ey;obtain⟨z,hd,vs,rel,dd⟩:=q8M I.hok e;refine wpAny_notIn_of (qAQ ry) hd dd.mapOf ?_;rw[<-(rel.val k).q2Z,<-l];exact h _ (I.tok _)
 ·subst ey;cases (show u=Value.ref b from ry);obtain⟨z,hd,xs,rel,dd⟩:=qAz I.hok e;refine wpAny_notIn_heap (tupleKind_room_in1 hu) (q79 I.hok eb) hd dd ?_;have q:=(rel.val k).q2Z;rw[Option.isSome_map] at q;rw[<-q,<-l];exact h _ (I.tok _)
theorem q8N {h':Heap}{t':Nat}{ob:HO}(I:Inv X pins σ H s) (mu:Mut (H a)) (hs:Heap.SameBut a s.heap h') (he:∃q,h'.get? a=some q) (new:q1O X.prog X.w (upd H a ob) h' a ob) :
  Inv X pins σ (upd H a ob) {s with heap:=h',toks:=t'} :=
 I.write (x:=a) (e:=a) mu (.inl rfl) (λ b q hb z=>(hs.2 b hb).trans z) he new
theorem qEr {P:Program}{w:World}{h':Heap}{kvs:List (Key×V)}{vs:List (Key×Value)}(z:kvs.length<=sizeLine) (hd:(a==sysModules)=false) (rel:KV kvs vs) (dd:h'.DictOf (q0g P w) a vs) :
  q1O P w H' h' a (.dK kvs):=⟨z,hd,vs,rel,dd⟩
theorem qB1 {Q:Unit->Shared->Prop}(hu:A.units+1<cLine) (I:Inv X pins σ H s) (g:DPut H a y v H') (ry:RelV y u) (rv:RelV v r) (h:∀s',Inv X pins σ H' s'->Q () s') :
  wpAny (model X.prog X.w) A (setItem (.ref a) u r) Q E s:=by
 rcases g with ⟨kvs,k,e,ey,l,eH⟩|⟨kvs,k,b,e,ey,eb,l,eH⟩
 ·subst ey eH;obtain⟨z,hd,vs,rel,dd⟩:=qFm I.hok e;have hz:vs.length<=sizeLine:=by rw[<-rel.length];exact z
  have hl:(putK kvs k v).length<=sizeLine:=by have:=q4v kvs k v;lia
  refine wpAny_setItem_pairs (hsz:=hz) (qAQ ry) dd λ h' dd' hs=>h _ ?_;have he:∃q,h'.get? a=some q:=let ⟨q,_,_,hq,_⟩:=dd';⟨q,hq⟩;exact q8N I (by rw[e];exact True.intro) hs he (qEr hl hd (rel.put k rv) dd')
 ·subst ey eH;cases (show u=Value.ref b from ry);obtain⟨z,hd,xs,rel,dd⟩:=qL5 I.hok e;have hz:xs.length<=sizeLine:=by rw[<-Paired.length rel];exact z
  have hl:(putK kvs k v).length<=sizeLine:=by have:=q4v kvs k v;lia
  refine wpAny_setItem_heap (hsz:=hz) (tupleKind_room_in1 hu) (q79 I.hok eb) dd λ h' dd' hs=>h _ ?_;obtain⟨q,es,ep,hq,h2,h3,h4,_,h5⟩:=dd';refine q8N I (by rw[e];exact True.intro) hs ⟨q,hq⟩ ⟨hl,hd,_,(rel.put k eb rv).keeps λ c ys ec=>?_,q,es,ep,hq,h2,h3,h4,h5⟩;rw[q07 (qKz ec e (λ z=>nomatch z))];exact ec
end
section
variable {X:Cx}{pins:List (Addr×Obj)}{σ:St}{H:Hp}{s:Shared}{a:Addr}{kvs:List (Key×V)}{k:Key}{u:Value}{A:Around}{E:Value->Shared->Prop}
theorem qL6 (I:Inv X pins σ H s) (e:Rd H a (.dK kvs)) (h:∀t s',Inv X pins σ H s'->Q (.int kvs.length t) s'):wpAny (model X.prog X.w) A (call (.builtin "len") [.ref a]) Q E s:=by obtain⟨z,hd,vs,rel,dd⟩:=q8M I.hok e;refine call_len_dict hd dd (by rw[<-rel.length];rw[sizeLine_eq] at z;lia) ?_;rw[<-rel.length];exact h _ _ (I.tok _)
end
theorem qDK {P:Program}{w:World}{H:Hp}(h:Heap) (hb:sysModules<h.objs.size):q1O P w H (h.push {cls:= .type "dict",data:= .dict #[]}) h.objs.size (.dK []) :=
 ⟨QM _,beq_eq_false_iff_ne.mpr (Ne.symm (QH hb)),[],.nil,Heap.DictOf.new h⟩
abbrev VV:List (V×V)->List (Value×Value)->Prop:=Paired λ p q=>RelV p.1 q.1/\RelV p.2 q.2
def qEs (kvs more:List (Key×V)):List (Key×V):=more.foldl (λ acc kv=>putK acc kv.1 kv.2) kvs
theorem KV.merge:∀{more:List (Key×V)}{rs:List (Key×Value)}{kvs:List (Key×V)}{vs:List (Key×Value)},KV more rs->KV kvs vs->KV (qEs kvs more) (merged vs rs):=by
 intro more rs kvs vs r;unfold KV at r
 induction r generalizing kvs vs with
 |nil=>intro q;exact q
 |@cons p q ps qs h t ih =>
  intro r0;have e:KV (putK kvs p.1 p.2) (stored vs q.1 q.2):=by have:=r0.put p.1 h.2;rw[<-h.1];exact this
  exact ih e
theorem q5g {P:Program}{w:World}:∀{kvs:List (Key×V)}{ws:List (Value×Value)},VV (kvs.map λ kv=>(kV kv.1,kv.2)) ws->∃rs,Carries (q0g P w) ws rs/\KV kvs rs
 |[],_,r=>by rw[List.map_nil] at r;cases r;exact⟨[],True.intro,.nil⟩
 |p::kvs,_,r=>by
  rw[Qx] at r;cases r with
  |@cons a b as bs h t =>
   obtain⟨rs,c,q⟩:=q5g (P:=P) (w:=w) t;obtain⟨b1,b2⟩:=b;exact⟨(p.1,b2)::rs,⟨qAQ h.1,rfl,c⟩,.cons ⟨rfl,h.2⟩ q⟩
def IsD (H:Hp) (a:Addr):Prop:=(∃kvs,Rd H a (.dK kvs))\/∃kvs,Rd H a (.dT kvs)
theorem qIM {X:Cx}{pins:List (Addr×Obj)}{σ:St}{H:Hp}{s:Shared}{a:Addr}(I:Inv X pins σ H s) (d:IsD H a) :
  s.TypeIs (.ref a) "dict"/\(∀b,Value.ref a = .ref b->∃ob,s.heap.get? b=some ob/\ob.dict=none)/\(a==sysModules)=false:=by
 rcases d with ⟨kvs,e⟩|⟨kvs,e⟩
 ·obtain⟨_,hd,vs,_,dd⟩:=q8M I.hok e;refine⟨dd.typeIs,λ b q=>?_,hd⟩;cases q;obtain⟨ob,_,_,h1,h2,_⟩:=dd;exact⟨ob,h1,h2.2.1⟩
 ·obtain⟨_,hd,xs,_,dd⟩:=qAz I.hok e;refine⟨dd.typeIs,λ b q=>?_,hd⟩;cases q;obtain⟨ob,_,_,h1,h2,_⟩:=dd;exact⟨ob,h1,h2.2.1⟩
end L2
namespace HT
open PySem PyProof.Rows
section
variable {prog:Program}{w:World}{A:Around}{E:Value->Shared->Prop}{s:Shared}
theorem qFo {t b:Addr}{vs ws:List Value}{Q:Value->Shared->Prop}(ht:IsTup s.heap t vs.toArray) (hb:IsTup s.heap b ws.toArray) (hv:vs≠[])
  (h1:ws=[]->Q (.ref t) s) (h2:ws≠[]->Q (.ref s.heap.objs.size) {s with heap:=s.heap.push {cls:= .type "tuple",data:= .seq (vs++ws).toArray}})
  (hsz:vs.length+ws.length<=sizeLine):wpAny (model prog w) A (binaryOp .Add (.ref t) (.ref b)) Q E s:=by
 obtain⟨⟨cls,dd,data,sl⟩,ho,hc,n,hd⟩:=id ht;obtain⟨⟨cls2,dd2,data2,sl2⟩,ho2,hc2,n2,hd2⟩:=id hb;simp only at hc hd hc2 hd2;subst hc hd hc2 hd2;have e:vs.toArray++ws.toArray=(vs++ws).toArray:=by simp
 by_cases hw:ws=[]
 ·exact concat_meets ⟨_,ho,rfl⟩ ⟨_,ho2,rfl⟩ noFill_tuple_add seq_tuple_add PySem.F.slot_tuple_add PySem.F.entry_tuple_add (PySem.F.args_tuple_add_2 _ _)
   (tuple_addW1 t b vs.toArray ws.toArray n n2 dd dd2 sl sl2 (by simpa using hv) (by simp[hw])) ⟨ho,ho2,h1 hw⟩
 ·refine concat_meets ⟨_,ho,rfl⟩ ⟨_,ho2,rfl⟩ noFill_tuple_add seq_tuple_add PySem.F.slot_tuple_add PySem.F.entry_tuple_add (PySem.F.args_tuple_add_2 _ _)
   (tuple_addW2 t b vs.toArray ws.toArray n n2 dd dd2 sl sl2 (by simpa using hv) (by simpa using hw) (by rw[Qr,Qr];exact hsz)) ⟨ho,ho2,?_⟩
  rw[e];exact h2 hw
def sIx (n d:Nat):Option Int->Nat
 |none=>d
 |some v=>if v<0 then (v+(n:Int)).toNat else min v.toNat n
theorem qIN (n d:Nat) (hd:d<=n) (o:Option Int):sIx n d o<=n:=by
 cases o with
 |none=>exact hd
 |some v =>
  show (if v<0 then (v+(n:Int)).toNat else min v.toNat n)<=n
  by_cases hv:v<0
  ·rw[if_pos hv];lia
  ·rw[if_neg hv];exact Nat.min_le_right _ _
theorem qB2 (v:Int) (n d:Nat):(if v<0 then max (v+(n:Int)) 0 else min v (n:Int))=((sIx n d (some v):Nat):Int):=by
 show (if v<0 then max (v+(n:Int)) 0 else min v (n:Int))=(((if v<0 then (v+(n:Int)).toNat else min v.toNat n):Nat):Int)
 by_cases hv:v<0
 ·simp only[if_pos hv];lia
 ·simp only[if_neg hv];lia
theorem qAR (lo hi:Option Int) (n:Nat):Builtin.Slice.sliceAdjust lo hi 1 (n:Int)=(((sIx n 0 lo:Nat):Int),((sIx n n hi:Nat):Int)):=by
 have h1:¬((1:Int)<0):=by lia
 unfold Builtin.Slice.sliceAdjust;simp only[h1,if_false];refine Prod.ext ?_ ?_
 ·cases lo with
  |none=>rfl
  |some v=>exact qB2 v n 0
 ·cases hi with
  |none=>rfl
  |some v=>exact qB2 v n n
theorem qAS (i j:Nat):Builtin.Slice.slicePlaces (i:Int) (j:Int) 1=j-i:=by
 unfold Builtin.Slice.slicePlaces;have h1:(1:Int) > 0:=by lia
 simp only[h1,if_true,Int.ediv_one];split<;>lia
theorem q5h {v:Value}{o:Option Int}{Q:Option Int->Shared->Prop}(p:IsPart v o) (h:Q o s):wpAny (model prog w) A (Builtin.Slice.slicePartIndex v) Q E s:=by
 cases p with
 |none=>exact slicePart_none h
 |int i t=>exact slicePart_int h
theorem q2V {sl:Addr}{vl vu:Value}{lo hi:Option Int}{n:Nat}{Q:Int×Int×Nat->Shared->Prop}(hs:s.heap.IsSliceOf sl vl vu .none) (pl:IsPart vl lo) (pu:IsPart vu hi)
  (h:Q (((sIx n 0 lo:Nat):Int),1,sIx n n hi-sIx n 0 lo) s):wpAny (model prog w) A (Builtin.Slice.sliceApplied (.ref sl) (pure (n:Int))) Q E s:=by
 obtain⟨os,hos,hcs,hds⟩:=id hs;unfold Builtin.Slice.sliceApplied Builtin.Slice.sliceFields;refine wpAny_bind (wpAny_bind (wpAny_field hos hds (x:=vl) rfl (wpAny_bind (wpAny_field hos hds (x:=vu) rfl (wpAny_bind (wpAny_field hos hds (x:= .none) rfl (wpAny_pure ?_)))))));refine wpAny_bind (slicePart_none ?_);show wpAny _ _ (if ((1:Int)==0)=true then _ else _) _ _ s;rw[if_neg (by decide)];refine wpAny_bind (q5h pl (wpAny_bind (q5h pu (wpAny_bind (wpAny_pure ?_)))));show wpAny _ _ (match Builtin.Slice.sliceAdjust lo hi 1 (n:Int) with|(lo,hi)=>pure (lo,(1:Int),Builtin.Slice.slicePlaces lo hi 1)) _ _ s;rw[qAR lo hi n];show wpAny _ _ (pure (((sIx n 0 lo:Nat):Int),(1:Int),Builtin.Slice.slicePlaces ((sIx n 0 lo:Nat):Int) ((sIx n n hi:Nat):Int) 1)) _ _ s;rw[qAS];exact wpAny_pure h
theorem qDL (xs:Array Value) (i k:Nat):((Qg k).filterMap λ (m:Nat)=>xs[((i:Int)+(m:Int)*1).toNat]?).toArray=((xs.toList.drop i).take k).toArray:=by
 have e:(λ (m:Nat)=>xs[((i:Int)+(m:Int)*1).toNat]?)=λ m=>xs[i+m]?:=by
  funext m;have:((i:Int)+(m:Int)*1).toNat=i+m:=by lia
  rw[this]
 rw[e];have:=pick_run xs i k;rw[List.filterMap_map] at this;have e2:((λ x=>xs[x]?) ∘ λ x=>i+x)=λ m=>xs[i+m]?:=rfl;rw[e2] at this;rw[this]
theorem q40 {t sl:Addr}{items:Array Value}{vl vu:Value}{lo hi:Option Int}{Q:Value->Shared->Prop}(ht:IsTup s.heap t items) (hs:s.heap.IsSliceOf sl vl vu .none) (pl:IsPart vl lo) (pu:IsPart vu hi)
  (hw:¬(sIx items.size 0 lo=0/\sIx items.size items.size hi=items.size))
  (h:Q (.ref s.heap.objs.size) {s with heap:=s.heap.push {cls:= .type "tuple",data:= .seq ((items.toList.drop (sIx items.size 0 lo)).take (sIx items.size items.size hi-sIx items.size 0 lo)).toArray}})
  (hsz:items.size<=sizeLine):wpAny (model prog w) A (getItem (.ref t) (.ref sl)) Q E s:=by
 have htake:sizeOk (.seq ((items.toList.drop (sIx items.size 0 lo)).take (sIx items.size items.size hi-sIx items.size 0 lo)).toArray):=by show ((items.toList.drop (sIx items.size 0 lo)).take (sIx items.size items.size hi-sIx items.size 0 lo)).toArray.size<=sizeLine;rw[Qr,Jz,List.length_drop,Array.length_toList];lia
 have hj:sIx items.size items.size hi<=items.size:=qIN _ _ (Qi _) hi;obtain⟨os,hos,hcs,hds⟩:=id hs;have hTs:s.TypeIs (.ref sl) "slice":=⟨os,hos,hcs⟩
 unfold getItem
 try with_reducible refine wpAny_holding ?_
 first|refine wpAny_bind (wpAny_pure ?_)|skip
 refine wpAny_bind (wpAny_sequenceKey ht.typeIs (by decide) ?_);refine wpAny_bind (wpAny_callSpecial?_slot (name:=Str.ofString "__getitem__") ht.typeIs PyProof.Rows.slot_tuple_getitem
  (wpAny_call_entry PyProof.Rows.slot_tuple_getitem ht.typeIs entry_tuple_getitem ?_ (args_tuple_getitem _ _)))
 show wpAny _ _ (Builtin.Tuple.tupleItemsOf (.ref t) >>= _) _ _ s;refine wpAny_bind (tupleItemsOf_ ht ?_);refine wpAny_bind (wpAny_typeOf hTs ?_);rw[if_pos (by decide)];refine wpAny_bind (q2V hs pl pu ?_);have hno:¬((((sIx items.size 0 lo:Nat):Int)==0&&(1:Int)==1&&(sIx items.size items.size hi-sIx items.size 0 lo)==items.size)=true):=by intro q;rw[Qd,Qd] at q;have q1:((sIx items.size 0 lo:Nat):Int)=0:=eq_of_beq q.1.1;have q2:sIx items.size items.size hi-sIx items.size 0 lo=items.size:=eq_of_beq q.2;exact hw ⟨by lia,by lia⟩
 show wpAny _ _ (if (((sIx items.size 0 lo:Nat):Int)==0&&(1:Int)==1&&(sIx items.size items.size hi-sIx items.size 0 lo)==items.size)=true then _ else _) _ _ s;rw[if_neg hno,qDL]
 first
  |exact wpAny_bind (m:=Builtin.Tuple.tupleExact _) (wpAny_newObj_type (wpAny_pure ⟨_,rfl,wpAny_pure h⟩) htake)
  |exact wpAny_bind (m:=Builtin.Tuple.tupleExact _) (wpAny_newObj_type (wpAny_bind (wpAny_pure (wpAny_pure ⟨_,rfl,wpAny_pure h⟩))) htake)
  |exact wpAny_bind (wpAny_bind (m:=Builtin.Tuple.tupleExact _) (wpAny_newObj_type (wpAny_pure (wpAny_pure ⟨_,rfl,wpAny_pure h⟩)) htake))
  |exact wpAny_bind (wpAny_bind (m:=Builtin.Tuple.tupleExact _) (wpAny_newObj_type (wpAny_pure ⟨_,rfl,wpAny_pure h⟩) htake))
end
end HT
namespace L2
open PySem PySem.Spec PyProof.Rows
section
variable {X:Cx}{e:Expr}{te:TE}{lo hi:Option Expr}{tl th:TO}{pos p2:Pos}
def SlR (X:Cx) (r:V->Option Int->Option Int->Hp->VK->Prop):Prop :=
 ∀(pins:List (Addr×Obj)) (s:Shared) (σ:St) (H:Hp) (x:V) (v vl vu:Value) (lo hi:Option Int) (sl:Addr) (Q:VK),Inv X pins σ H s->RelV x v->s.heap.IsSliceOf sl vl vu .none->IsPart vl lo->IsPart vu hi->r x lo hi H Q->
  ∃T id,typeLookup (.type T) "__getitem__" = pure (some (.builtin id))/\s.TypeIs v T/\wpAny (model X.prog X.w) X.A (getItem v (.ref sl)) (EP X pins σ Q) X.xe s
def cutV (xs:List V) (lo hi:Option Int):List V:=(xs.drop (HT.sIx xs.length 0 lo)).take (HT.sIx xs.length xs.length hi-HT.sIx xs.length 0 lo)
theorem q3A (xs:List V) (lo hi:Option Int):(cutV xs lo hi).length<=xs.length:=by unfold cutV;rw[Jz,List.length_drop];lia
def rSlT (K:PySem.W.Frag):V->Option Int->Option Int->Hp->VK->Prop:=λ x lo hi H Q=>∃a xs,x = .ref a/\SqT K H a xs/\
 ¬(HT.sIx xs.length 0 lo=0/\HT.sIx xs.length xs.length hi=xs.length)/\∀p,H p=none->Q (.ref p) (upd H p (.tup (cutV xs lo hi)))
theorem qIO:SlR X (rSlT X.K):=by
 intro pins s σ H x v vl vu lo hi sl Q I rx hs pl pu h;obtain⟨a,xs,rfl,hx,hw,q⟩:=h;cases rx;obtain⟨its,r,ht,hz⟩:=I.tuple hx;have hlen:its.toArray.size=xs.length:=by rw[Qr];exact r.length.symm
 refine⟨"tuple",_,PyProof.Rows.slot_tuple_getitem.lookup,ht.typeIs,?_⟩;refine HT.q40 ht hs pl pu (by rw[hlen];exact hw) ?_ (by rw[hlen];exact hz);rw[hlen];refine⟨.ref s.heap.objs.size,_,I.laid (t':=s.toks) (o:= .tup (cutV xs lo hi)) (λ b ob q=>Heap.get?_push_of_some _ q) (Qi _) ?_,rfl,q _ (I.hok.fresh (Qi _))⟩;exact⟨Qn (q3A xs lo hi) hz,_,(r.drop (HT.sIx xs.length 0 lo)).take (HT.sIx xs.length xs.length hi-HT.sIx xs.length 0 lo),IsTup.new _ _⟩
def qL7 (K:PySem.W.Frag):R2:=λ x y H Q=>∃a b xs ys,x = .ref a/\y = .ref b/\SqT K H a xs/\SqT K H b ys/\xs≠[]/\xs.length+ys.length<=sizeLine/\
 (ys=[]->Q (.ref a) H)/\(ys≠[]->∀p,H p=none->Q (.ref p) (upd H p (.tup (xs++ys))))
theorem Vals.q69 {xs:List V}{us:List Value}(r:Vals xs us):us=[]↔xs=[]:=by
 cases r with
 |nil=>simp
 |cons _ _=>simp
theorem qFp:OpR X (binaryOp .Add) (qL7 X.K):=by intro pins s σ H x y v u Q I rx ry h;obtain⟨a,b,xs,ys,rfl,rfl,ha,hb,hx,hz,q1,q2⟩:=h;cases rx;cases ry;obtain⟨its,r1,p1,_⟩:=I.tuple ha;obtain⟨its2,r2,p2,_⟩:=I.tuple hb;refine HT.qFo p1 p2 (λ z=>hx (r1.q69.mp z)) (λ z=>⟨.ref a,H,I,rfl,q1 (r2.q69.mp z)⟩) (λ z=>?_) (by rw[<-r1.length,<-r2.length];exact hz);refine⟨.ref s.heap.objs.size,_,I.laid (t':=s.toks) (o:= .tup (xs++ys)) (λ b ob q=>Heap.get?_push_of_some _ q) (Qi _) ?_,rfl,q2 (λ w=>z (r2.q69.mpr w)) _ (I.hok.fresh (Qi _))⟩;exact⟨by rw[QA];exact hz,_,r1.append r2,IsTup.new _ _⟩
end
end L2
namespace L2
open PySem PySem.Spec PyProof.Rows
def ixN (n:Nat) (i:Int):Option Nat:=if 0<=i then (if i<n then some i.toNat else none) else if -(n:Int)<=i then some (i+n).toNat else none
def atI {α:Type}(xs:List α) (i:Int):Option α:=(ixN xs.length i).bind λ j=>xs[j]?
theorem qFq {n:Nat}{i:Int}{j:Nat}(h:ixN n i=some j):seqIndex? i n=some j/\j<n/\-(n:Int)<=i/\i<n:=by
 unfold ixN at h
 by_cases h0:0<=i
 ·rw[if_pos h0] at h
  by_cases h1:i<n
  ·rw[if_pos h1] at h;have e:i.toNat=j:=QQ.inj h;exact⟨by rw[seqIndex_of h0 h1,e],by lia,by lia,h1⟩
  ·rw[if_neg h1] at h;cases h
 ·rw[if_neg h0] at h
  by_cases h1:-(n:Int)<=i
  ·rw[if_pos h1] at h;have e:(i+n).toNat=j:=QQ.inj h;exact⟨by rw[seqIndex_neg (by lia) h1,e],by lia,h1,by lia⟩
  ·rw[if_neg h1] at h;cases h
theorem qB3 {α:Type}{xs:List α}{i:Int}{v:α}(h:atI xs i=some v):∃j,seqIndex? i xs.length=some j/\xs[j]? = some v/\j<xs.length/\-(xs.length:Int)<=i/\i<xs.length:=by
 unfold atI at h;cases e:ixN xs.length i with
 |none=>rw[e] at h;cases h
 |some j =>
  rw[e] at h;obtain⟨h1,h2,h3,h4⟩:=qFq e;exact⟨j,h1,h,h2,h3,h4⟩
def q8O (b:Expr):Prop:=∀o i,subscripted b false o i=operate [o,i] (getItem o i)
def IxR (X:Cx) (r:R2):Prop :=
 ∀(value slice:Expr) (pins:List (Addr×Obj)) (s:Shared) (σ:St) (H:Hp) (x y:V) (v u:Value) (Q:VK),Inv X pins σ H s->RelV x v->RelV y u->r x y H Q->
  subscripted slice false v u=operate [v,u] (getItem v u)->wpAny (model X.prog X.w) X.A (subscriptTail value slice v u) (EP X pins σ Q) X.xe s
section
variable {X:Cx}{a b:Expr}{ta tb:TE}{pos:Pos}
def rIxL (K:PySem.W.Frag):R2:=λ x y H Q=>∃p xs i v,x = .ref p/\y = .int i/\SqL K H p xs/\atI xs i=some v/\Q v H
def rIxT (K:PySem.W.Frag):R2:=λ x y H Q=>∃p xs i v,x = .ref p/\y = .int i/\SqT K H p xs/\atI xs i=some v/\Q v H
theorem qB4:IxR X (rIxL X.K):=by
 intro value slice pins s σ H x y v u Q I rx ry h hs;obtain⟨p,xs,i,z,rfl,rfl,hq,he,q⟩:=h;cases rx;obtain⟨t,rfl⟩:=ry;obtain⟨its,r,pl,hz⟩:=I.list hq;obtain⟨j,h1,h2,h3,h4,h5⟩:=qB3 he;obtain⟨w,ew,rw'⟩:=r.get h2;have hl:=r.length;have hn:=q72;have fin:EP X pins σ Q w s:=⟨z,H,I,rw',q⟩
 by_cases h0:0<=i
 ·have hj:i.toNat=j:=by rw[seqIndex_of h0 h5] at h1;exact QQ.inj h1
  exact item_listR pl.isList h0 (by lia) (by rw[hj];simpa using ew) fin hs
 ·have hj:(i+(its.toArray.size:Int)).toNat=j:=by rw[seqIndex_neg (by lia) h4] at h1;rw[Qr,<-hl];exact QQ.inj h1
  exact subscriptTail_builtinR (x:=w) pl.isList.typeIs slot_list_getitem.lookup
   (wpAny_getItem_list_neg (Q:=λ r s'=>r=w/\EP X pins σ Q r s') pl.isList (by lia) (by rw[Qr]<;>lia) (by lia) (by rw[hj];simpa using ew) ⟨rfl,fin⟩) hs
theorem qIP:IxR X (rIxT X.K):=by
 intro value slice pins s σ H x y v u Q I rx ry h hs;obtain⟨p,xs,i,z,rfl,rfl,hq,he,q⟩:=h;cases rx;obtain⟨t,rfl⟩:=ry;obtain⟨its,r,pl,hz⟩:=I.tuple hq;obtain⟨j,h1,h2,h3,h4,h5⟩:=qB3 he;obtain⟨w,ew,rw'⟩:=r.get h2;have hl:=r.length;have hn:=q72;have fin:EP X pins σ Q w s:=⟨z,H,I,rw',q⟩
 exact subscriptTail_builtinR (x:=w) pl.typeIs slot_tuple_getitem.lookup
  (getItem_tuple (j:=j) (Q:=λ r s'=>r=w/\EP X pins σ Q r s') pl (by lia) (by lia) (by rw[Qr,<-hl];exact h1) (by simpa using ew) ⟨rfl,fin⟩) hs
theorem q7A (lo hi:Option Int) (n:Nat):(sliceBounds lo hi none n).1=((HT.sIx n 0 lo:Nat):Int)/\(sliceBounds lo hi none n).2.1=((HT.sIx n n hi:Nat):Int)/\(sliceBounds lo hi none n).2.2=1:=by
 refine⟨?_,?_,rfl⟩
 ·cases lo with
  |none=>simp[sliceBounds,HT.sIx]
  |some i =>
   simp only[sliceBounds,HT.sIx,Option.getD_none,show (1:Int) > 0 by decide,if_true]
   by_cases h:i<0
   ·simp only[h,if_true]<;>lia
   ·simp only[h,if_false]<;>lia
 ·cases hi with
  |none=>simp[sliceBounds,HT.sIx]
  |some i =>
   simp only[sliceBounds,HT.sIx,Option.getD_none,show (1:Int) > 0 by decide,if_true]
   by_cases h:i<0
   ·simp only[h,if_true]<;>lia
   ·simp only[h,if_false]<;>lia
theorem q6A (its:List Value) (lo hi:Option Int):slicePick its.toArray lo hi none=((its.drop (HT.sIx its.length 0 lo)).take (HT.sIx its.length its.length hi-HT.sIx its.length 0 lo)).toArray:=by obtain⟨h1,h2,h3⟩:=q7A lo hi its.toArray.size;unfold slicePick;rw[h1,h2,h3];simp only[sliceRange_one,pick_run,Qr]<;>rfl
def rSlL (K:PySem.W.Frag):V->Option Int->Option Int->Hp->VK->Prop:=λ x lo hi H Q=>∃a xs,x = .ref a/\SqL K H a xs/\∀p,H p=none->Q (.ref p) (upd H p (.lst (cutV xs lo hi)))
theorem qFr:SlR X (rSlL X.K):=by intro pins s σ H x v vl vu lo hi sl Q I rx hs pl pu h;obtain⟨a,xs,rfl,hx,q⟩:=h;cases rx;obtain⟨its,r,ht,hz⟩:=I.list hx;have hlen:=r.length;refine⟨"list",_,slot_list_getitem.lookup,ht.isList.typeIs,?_⟩;refine wpAny_getItem_list_slice ht.isList hs pl pu .none (by simp) ?_ (by rw[Qr]<;>lia);rw[q6A,<-hlen];refine⟨.ref s.heap.objs.size,_,I.laid (t':=s.toks) (o:= .lst (cutV xs lo hi)) (λ b ob q=>Heap.get?_push_of_some _ q) (Qi _) ?_,rfl,q _ (I.hok.fresh (Qi _))⟩;exact⟨Qn (q3A xs lo hi) hz,_,0,(r.drop (HT.sIx xs.length 0 lo)).take (HT.sIx xs.length xs.length hi-HT.sIx xs.length 0 lo),Heap.get?_push_size _ rfl⟩
theorem q4V:qDI X (.builtin "len") (λ xs H Q=>∃p ys,xs=[.ref p]/\(SqL X.K H p ys\/SqT X.K H p ys)/\Q (.int ys.length) H):=by
 intro pins s σ H xs us Q I r h;obtain⟨p,ys,rfl,hq,q⟩:=h;obtain⟨u,rfl,rx⟩:=vals1 r;cases rx;have hn:=q72;rcases hq with hq|hq
 ·obtain⟨its,r',pl,hz⟩:=I.list hq;have hlen:=r'.length;exact Calls.call_len_list pl.isList (by simp only[Qr]<;>lia) ⟨.int ys.length,H,I.tok _,⟨s.toks+1,by rw[Qr,hlen]⟩,q⟩
 ·obtain⟨its,r',pl,hz⟩:=I.tuple hq;have hlen:=r'.length;exact len_tuple pl (by simp only[Qr]<;>lia) ⟨.int ys.length,H,I.tok _,⟨s.toks+1,by rw[Qr,hlen]⟩,q⟩
theorem q7B:qDI X (.builtin "len") (λ xs H Q=>∃z,xs=[.str z]/\z.length<=sizeLine/\Q (.int z.length) H):=by intro pins s σ H xs us Q I r h;obtain⟨z,rfl,hz,q⟩:=h;obtain⟨u,rfl,t,rfl⟩:=vals1 r;have hn:=q72;exact len_str (by lia) ⟨.int z.length,H,I.tok _,⟨_,rfl⟩,q⟩
theorem q4W:qDI X (.type "list") (λ xs H Q=>∃p ys,xs=[.ref p]/\(SqL X.K H p ys\/SqT X.K H p ys)/\∀l,H l=none->Q (.ref l) (upd H l (.lst ys))):=by
 intro pins s σ H xs us Q I r h;obtain⟨p,ys,rfl,hq,q⟩:=h;obtain⟨u,rfl,rx⟩:=vals1 r;cases rx;have fin:∀(its:List Value),Vals ys its->ys.length<=sizeLine->∀(h':Heap) (c':Nat),(∀b o',s.heap.get? b=some o'->h'.get? b=some o')->
   h'.get? s.heap.objs.size=some {cls:= .type "list",dict:=none,data:= .seq its.toArray c',slots:=#[]}->EP X pins σ Q (.ref s.heap.objs.size) {s with heap:=h'}:=λ its r' hz h' c' kp e =>
  ⟨.ref s.heap.objs.size,_,I.laid (t':=s.toks) kp (Qi _) (show q1O X.prog X.w _ h' _ (.lst ys) from⟨hz,its,c',r',e⟩),rfl,q _ (I.hok.fresh (Qi _))⟩
 rcases hq with hq|hq
 ·obtain⟨its,r',pl,hz⟩:=I.list hq;have hlen:=r'.length;obtain⟨o,ho,hc,n,hd⟩:=pl.isList;exact call_list_seq p (.inl rfl) ho hc hd (λ h' c' kp e=>fin its r' hz h' c' kp e) (by simp only[Qr]<;>lia)
 ·obtain⟨its,r',pl,hz⟩:=I.tuple hq;have hlen:=r'.length;obtain⟨o,ho,hc,n,hd⟩:=pl;exact call_list_seq p (.inr rfl) ho hc hd (λ h' c' kp e=>fin its r' hz h' c' kp e) (by simp only[Qr]<;>lia)
theorem q3T:qDI X (.type "tuple") (λ xs H Q=>∃p ys,xs=[.ref p]/\((SqL X.K H p ys/\∀l,H l=none->Q (.ref l) (upd H l (.tup ys)))\/(SqT X.K H p ys/\Q (.ref p) H))):=by
 intro pins s σ H xs us Q I r h;obtain⟨p,ys,rfl,h⟩:=h;obtain⟨u,rfl,rx⟩:=vals1 r;cases rx;rcases h with ⟨hq,q⟩|⟨hq,q⟩
 ·obtain⟨its,r',pl,hz⟩:=I.list hq;have hlen:=r'.length;refine call_tuple_list pl.isList (λ h' kp=>?_) (by simp only[Qr]<;>lia);have I1:Inv X pins σ H {s with heap:=h'}:=I.kept (t':=s.toks) kp;have I2:Inv X pins σ (upd H h'.objs.size (.tup ys)) {s with heap:=h'.push {cls:= .type "tuple",data:= .seq its.toArray}} :=
   I1.laid (t':=s.toks) (λ b o e=>Heap.get?_push_of_some _ e) (Qi _) (show q1O X.prog X.w _ _ _ (.tup ys) from⟨hz,its,r',IsTup.new _ _⟩)
  exact⟨.ref h'.objs.size,_,I2,rfl,q _ (I1.hok.fresh (Qi _))⟩
 ·obtain⟨its,r',pl,hz⟩:=I.tuple hq;exact call_tuple_same pl ⟨.ref p,H,I,rfl,q⟩
def tyV (K:PySem.W.Frag) (T:String) (x:V) (H:Hp):Prop:=match x with
 | .str _=>T = "str"
 | .int _=>T = "int"
 | .ref p=>(T = "list"/\∃xs,SqL K H p xs)\/(T = "tuple"/\∃o,K.lookup p=some o/\o.cls = .type "tuple"/\o.dict=none)\/
   (T = "dict"/\((∃kvs,H p=some (.dK kvs))\/∃kvs,H p=some (.dT kvs)))\/(T = "set"/\∃S n,H p=some (.set S n))
 |_=>False
theorem q7C {pins:List (Addr×Obj)}{σ:St}{H:Hp}{s:Shared}{T:String}{x:V}{v:Value}(I:Inv X pins σ H s) (r:RelV x v) (ty:tyV X.K T x H) :
  s.TypeIs v T/\∀a,v = .ref a->∃ob,s.heap.get? a=some ob/\ob.dict=none:=by
 cases x with
 |str z =>
  obtain⟨t,rfl⟩:=r;cases (show T = "str" from ty);exact⟨typeIs_str s z t,λ _ e=>nomatch e⟩
 |int i =>
  obtain⟨t,rfl⟩:=r;cases (show T = "int" from ty);exact⟨typeIs_int s i t,λ _ e=>nomatch e⟩
 |ref p =>
  cases r;rcases ty with ⟨rfl,xs,hq⟩|⟨rfl,o,hk,hc,hd⟩|⟨rfl,hk⟩|⟨rfl,S,n,hk⟩
  ·obtain⟨its,_,pl,_⟩:=I.list hq;refine⟨pl.isList.typeIs,λ a e=>?_⟩;cases e;obtain⟨o,n,e,c,hd,_⟩:=pl;exact⟨o,e,hd⟩
  ·refine⟨⟨o,I.kIn p o hk,hc⟩,λ a e=>?_⟩;cases e;exact⟨o,I.kIn _ o hk,hd⟩
  ·have z:∃o,s.heap.get? p=some o/\o.ExactDict:=by
    rcases hk with ⟨kvs,hk⟩|⟨kvs,hk⟩
    ·obtain⟨_,_,_,_,o,_,_,e,ex,_⟩:=I.hok p _ hk;exact⟨o,e,ex⟩
    ·obtain⟨_,_,_,_,o,_,_,e,ex,_⟩:=I.hok p _ hk;exact⟨o,e,ex⟩
   obtain⟨o,e,ex⟩:=z;refine⟨⟨o,e,ex.1⟩,λ a e2=>?_⟩;cases e2;exact⟨o,e,ex.2.1⟩
  ·obtain⟨o,_,_,_,e,ex,_⟩:=I.hok p _ hk;refine⟨⟨o,e,ex.1⟩,λ a e2=>?_⟩;cases e2;exact⟨o,e,ex.2.1⟩
 |_=>exact False.elim ty
variable {o e:Expr}{es:List Expr}{to:TE}{t:TA}{name:Str}{apos cpos:Pos}{T id:String}{r:V->List V->Hp->VK->Prop}
end
end L2
namespace L2
open PySem PySem.Spec PyProof.Rows
def MtM (X:Cx) (id:String) (r:V->List V->Hp->VK->Prop):Prop :=
 ∀(pins:List (Addr×Obj)) (s:Shared) (σ:St) (H:Hp) (x:V) (xs:List V) (v:Value) (us:List Value) (Q:VK),Inv X pins σ H s->RelV x v->Vals xs us->r x xs H Q->
  wpAny (model X.prog X.w) X.A (call (.builtin id) (v::us)) (EP X pins σ Q) X.xe s
theorem Vals.one:∀{x:V}{us:List Value},Vals [x] us->∃u,us=[u]/\RelV x u
 |_,_,.cons r .nil=>⟨_,rfl,r⟩
theorem Vals.zero:∀{us:List Value},Vals [] us->us=[]
 |_,.nil=>rfl
theorem Vals.dropLast {xs:List V}{us:List Value}(h:Vals xs us):Vals xs.dropLast us.dropLast:=by
 induction h with
 |nil=>exact .nil
 |cons r t ih =>
  cases t with
  |nil=>exact .nil
  |cons q t'=>exact .cons r ih
theorem Vals.rep {xs:List V}{us:List Value}(h:Vals xs us):∀k:Nat,Vals (Qe k xs).flatten (Qe k us).flatten
 |0=> .nil
 |k+1=>by rw[Ji,Ji,Qy,Qy];exact Vals.append h (Vals.rep h k)
theorem qAT {α:Type}(l:List α):l.eraseIdx (l.length-1)=l.dropLast:=by
 induction l with
 |nil=>rfl
 |cons a r ih =>
  cases r with
  |nil=>rfl
  |cons b r =>
   have e:(a::b::r).length-1=((b::r).length-1)+1:=by have h1:(a::b::r).length=r.length+2:=rfl;have h2:(b::r).length=r.length+1:=rfl;lia
   rw[e,List.eraseIdx_cons_succ,ih]
   all_goals rfl
section
variable {X:Cx}{pins:List (Addr×Obj)}{σ:St}{H:Hp}{s:Shared}{l b:Addr}{xs ys zs:List V}
theorem Inv.lset {its its':List Value}{n:Nat}{f:Array Value->Array Value}{t':Nat}(I:Inv X pins σ H s) (hH:H l=some (.lst xs))
  (e:s.heap.get? l=some {cls:= .type "list",data:= .seq its.toArray n}) (hf:f its.toArray=its'.toArray) (hv:Vals ys its') (hz:ys.length<=sizeLine) :
  Inv X pins σ (upd H l (.lst ys)) {s with heap:=s.heap.update l (Obj.mapSeq f),toks:=t'}:=by
 have q:=PySem.IsL.update e f;rw[hf] at q;refine I.write (x:=l) (e:=l) (by rw[hH];exact trivial) (.inl rfl) (λ b' u hb hu=>(Heap.get?_update_other s.heap (Obj.mapSeq f) (Ne.symm hb)).trans hu) ⟨_,q⟩ ?_;exact⟨hz,its',_,hv,q⟩
theorem Inv.lnew {its:List Value}{t':Nat}(I:Inv X pins σ H s) (hv:Vals ys its) (hz:ys.length<=sizeLine) :
  Inv X pins σ (upd H s.heap.objs.size (.lst ys)) {s with heap:=s.heap.push {cls:= .type "list",data:= .seq its.toArray},toks:=t'} :=
 I.laid (λ _ _ q=>Heap.get?_push_of_some _ q) (Qi _) ⟨hz,its,0,hv,Heap.get?_push_size _ rfl⟩
theorem Inv.fresh (I:Inv X pins σ H s):H s.heap.objs.size=none:=I.hok.fresh (Qi _)
theorem Inv.lstM (I:Inv X pins σ H s) (hH:H l=some (.lst xs)):xs.length<=sizeLine/\∃(its:List Value) (n:Nat),Vals xs its/\xs.length=its.length/\s.heap.get? l=some {cls:= .type "list",data:= .seq its.toArray n}:=by obtain⟨z,its,n,r,e⟩:=I.hok l _ hH;exact⟨z,its,n,r,r.length,e⟩
theorem qDM {n:Nat}(h:n<=sizeLine):Builtin.List.listTooLong n=false:=by unfold Builtin.List.listTooLong;exact decide_eq_false (by lia)
end
section
variable {X:Cx}
def qFs:V->List V->Hp->VK->Prop:=λ x vs H Q=>∃l xs y,x = .ref l/\vs=[y]/\H l=some (.lst xs)/\xs.length<sizeLine/\Q .non (upd H l (.lst (xs++[y])))
theorem q3U:MtM X "list.append" qFs:=by intro pins s σ H x vs v us Q I rx rv h;obtain⟨l,xs,y,rfl,rfl,hH,hz,q⟩:=h;cases rx;obtain⟨u,rfl,ru⟩:=rv.one;obtain⟨z,its,n,r,hl,e⟩:=I.lstM hH;refine call_meets F.slot_list_append ⟨_,e,rfl⟩ F.entry_list_append (F.args_list_append_2 _ _) (PySem.list_append l its.toArray n u (by rw[Qr];lia)) ⟨e,?_⟩;refine⟨.non,_,I.lset (its':=its++[u]) hH e (by simp) (r.append (.cons ru .nil)) ?_,rfl,q⟩;rw[QA,QN];lia
def qFt:V->List V->Hp->VK->Prop:=λ x vs H Q=>∃l b xs zs,x = .ref l/\vs=[.ref b]/\H l=some (.lst xs)/\H b=some (.lst zs)/\xs.length+zs.length<=sizeLine/\Q .non (upd H l (.lst (xs++zs)))
theorem qB5:MtM X "list.extend" qFt:=by
 intro pins s σ H x vs v us Q I rx rv h;obtain⟨l,b,xs,zs,rfl,rfl,hH,hB,hz,q⟩:=h;cases rx;obtain⟨u,rfl,ru⟩:=rv.one;cases ru;obtain⟨z,its,n,r,hl,e⟩:=I.lstM hH;obtain⟨z2,its2,n2,r2,hl2,e2⟩:=I.lstM hB;have hsz:its.toArray.size+its2.toArray.size<=sizeLine:=by rw[Qr,Qr];lia
 have hlong:¬(!its.toArray.isEmpty&&Builtin.List.listTooLong (its.toArray.size+its2.toArray.size))=true:=by rw[qDM hsz,Bool.and_false];exact Bool.false_ne_true
 refine call_meets F.slot_list_extend ⟨_,e,rfl⟩ F.entry_list_extend (F.args_list_extend_2 _ _)
  (AutoSeq1.list_extend_list_list_0 l its.toArray n b its2.toArray n2 hlong (by rw[Qr];lia) (by lia)) ⟨e,e2,?_⟩
 refine⟨.non,_,I.lset (its':=its++its2) hH e (by simp) (r.append r2) ?_,rfl,q⟩;rw[QA];lia
def rPop:V->List V->Hp->VK->Prop:=λ x vs H Q=>∃l xs y,x = .ref l/\vs=[]/\H l=some (.lst xs)/\xs[xs.length-1]? = some y/\Q y (upd H l (.lst xs.dropLast))
theorem qIQ:MtM X "list.pop" rPop:=by
 intro pins s σ H x vs v us Q I rx rv h;obtain⟨l,xs,y,rfl,rfl,hH,hy,q⟩:=h;cases rx;have hus:=rv.zero;subst hus;obtain⟨z,its,n,r,hl,e⟩:=I.lstM hH;obtain⟨u,hu,ru⟩:=r.get hy;have hy':its.toArray[its.toArray.size-1]? = some u:=by show its.toArray[its.length-1]? = some u;rw[<-Array.getElem?_toList,<-hl];exact hu
 refine call_meets F.slot_list_pop ⟨_,e,rfl⟩ F.entry_list_pop (F.args_list_pop_1 _) (MeetsSeq.list_pop_last l its.toArray n u hy' (by rw[Qr];lia)) ⟨e,?_⟩;refine⟨y,_,I.lset (its':=its.dropLast) hH e ?_ r.dropLast ?_,ru,q⟩
 ·show its.toArray.eraseIdxIfInBounds (its.toArray.size-1)=its.dropLast.toArray;rw[Qr,List.eraseIdxIfInBounds_toArray,qAT]
 ·rw[List.length_dropLast];lia
theorem len_rep {α:Type}(xs:List α) (k:Nat):(Qe k xs).flatten.length=k*xs.length:=by
 induction k with
 |zero=>simp
 |succ k ih=>rw[Ji,Qy,QA,ih,Nat.succ_mul,Nat.add_comm]
end
end L2
namespace Att
open PySem PySem.W PySem.Calls PyProof.Rows
theorem q4w {P:Params}{h:Heap}:∀(ns:List Int) (vs:List Value),WellAll P h vs (ns.map WData.int)->IntsAre vs ns:=by
 intro ns
 induction ns with
 |nil =>
  intro vs w;rw[List.map_nil] at w;cases w;exact .nil
 |cons n ns ih =>
  intro vs w;rw[Qx] at w;cases w with
  |cons a b =>
   cases a;exact .cons _ _ (ih _ b)
theorem qB6 {l:OpenLaw}{n:Nat}(hn:l.most=some n) {P:Params}{h:Heap}{args:List WData}{vals:List Value}
  (hpre:l.row.toRowW.claim.pre args=true) (hwl:WellAll P h vals args) :
  ∃a vs ns,vals=[Value.ref a]/\args=[WData.list (ns.map WData.int)]/\h.get? a=some {cls:= .type "list",data:= .seq vs.toArray}/\IntsAre vs ns/\ns.length<=n:=by
 have hsh:WShape.hasAll [] args [.list .int]=true:=(pre_splitW hpre).1;have hc:l.pre.holds [] {args:=args}=true:=(pre_splitW hpre).2;obtain⟨d,r,rfl,h1,h2⟩:=hasAllW_cons hsh;obtain rfl:=hasAllW_nil h2;obtain⟨xs,rfl,h3⟩:=hasW_list h1;obtain⟨ns,rfl⟩:=items_int h3;have hlen:ns.length<=n:=by
  unfold OpenLaw.pre at hc;have h4:(WTm.not (.lt (.lit (.int (n:Int))) (.len (.arg 0)))).holds [] {args:=[.list (ns.map .int)]}=true:=by have h4:=(holds_andW hc).1;rw[hn] at h4;exact h4
  have h5:=condW_of h4 (w_not (w_lt w_lit (w_len_list (w_arg rfl))));rw[Qh] at h5;refine Nat.le_of_not_lt λ q=>?_;have q':(n:Int)<((ns.length:Nat):Int):=by lia
  first
   |(rw[decide_eq_true q'] at h5;exact absurd h5 (by decide))
   |(simp at h5;lia)
 cases hwl with
 |cons w1 w2 =>
  cases w2;cases w1 with
  |list ho hall=>exact⟨_,_,ns,rfl,rfl,ho,q4w ns _ hall,hlen⟩
theorem qB7 (l:OpenLaw) (args:List WData):l.row.toRowW.claim.post args (.bool true) args=true :=
 postW_of (r:=l.row.toRowW) (X:=(true==true))
  (show WShape.has [] (.bool true) .bool=true by first|rfl|decide|simp[WShape.has,WShape.arms,WShape.armsAll])
  (show (WTm.eq .res (.lit (.bool true))).value [] {args:=args,res:=some (.bool true),after:=args}=some (.bool (true==true)) from w_eq_bool (w_res rfl) w_lit) rfl
theorem q8P {l:OpenLaw}{n:Nat}{q:Program}{loose:List Str}{XP:(Str->Option Value)->Heap->Prop}{YP:World->Heap->Prop}{d:DefRec}
  (hn:l.most=some n) (hdf:d.params.defaults=[])
  (call:∀(w:World) (s₀ s₁:Shared) (mg mb:Str->Option Value) (fa:Addr) (o:Obj) (pm cd doc:Value) (a:Addr) (vs:List Value) (ns:List Int),
   Ground q loose [] XP w s₀ mg mb s₁.heap->YP w s₁.heap->
   s₁.heap.get? fa=some o->o.data = .func (docDef d.name d.params d.body d.scope pm cd doc)->s₁.heap.CodeRec cd d.name->mg d.name=some (.ref fa)->
   s₁.heap.get? a=some {cls:= .type "list",data:= .seq vs.toArray}->IntsAre vs ns->ns.length<=n->s₁.gens=#[]->
   codeAny (model l.prog w) callerA (.call (.ref fa) ⟨[.ref a],[]⟩) (λ r s'=>r = .ok (.ret (.bool true))/\OldK s₁.heap s'.heap/\s'.os=s₁.os/\AllBare s'.gens) s₁) :
  WalkO q loose XP YP l.row.toRowW d [] (λ f vs=>PySem.call f vs):=by
 intro w s₀ s₁ mg mb G Y fa o pm cd doc dV kV ho hd hcd hD hmg hg args vals as hpre hlay hrd hwl hlo;obtain rfl:dV = .none:=Dflts.none hD hdf;obtain rfl:kV = .none:=Dflts.noKw hD;obtain⟨a,vs,ns,rfl,rfl,hobj,hints,hlen⟩:=qB6 hn hpre hwl;refine enter_call (codeAny_mono (call w s₀ s₁ mg mb fa o pm cd doc a vs ns G Y ho (fd_plain hd) hcd hmg hobj hints hlen hg) λ r s' hq=>?_);obtain⟨rfl,h2,h3,h4⟩:=hq;exact⟨.inl ⟨.bool true,.bool true,[],rfl,λ _=>rfl,.bool true,qB7 l _,λ _=>⟨List.Pairwise.nil,λ _ hm=>(nomatch hm)⟩⟩,h2,h3,h4⟩
end Att
namespace L2
open PySem PySem.Spec PyProof.Rows
theorem q7D:∀{vs:List Value}{ns:List Int},IntsAre vs ns->Vals (ns.map V.int) vs
 |_,_,.nil=> .nil
 |_,_,.cons n t h=> .cons ⟨t,rfl⟩ (q7D h)
def Only (H:Hp):Prop:=∀b,H b=none\/∃o xs,H b=some (.frz o (.lst xs))
theorem qDN {P:Program}{w:World}{K:PySem.W.Frag}{mg mb:Str->Option Value}{CX:CXT}{k:Nat}{fa a:Addr}{fd:FuncData}{x:Str}{sp:Sp}{s₁:Shared}{vs:List Value}{ns:List Int}
  (KX:K.In s₁.heap) (hns:s₁.heap.Ns mainGlobals mg) (hb:s₁.heap.Ns builtinsNs mb) (hbb:∀x:Str,x ≠ "__name__"->mb x=bootBuiltins x) (hlim:s₁.heap.NoLimit) (hg:s₁.gens=#[])
  (ha:s₁.heap.get? a=some {cls:= .type "list",data:= .seq vs.toArray}) (hi:IntsAre vs ns) (hl:ns.length<=sizeLine) (hr:Room k callerA)
  (F:∀base:Heap,K.In base->base.Ns mainGlobals mg->FnOk P w K mg base CX k fa fd [x] sp) (hbind:∀(s:Shared) (u:Value),BindsTo s fd ⟨[u],[]⟩ [(x,u)])
  (hsp:∀H:Hp,Only H->SqL K H a (ns.map V.int)->sp [.ref a] H (λ v _=>v = .bl true) λ _ _ _=>False)
  (hCX:∀H e s',CX [] H s₁ (λ _ _ _=>False) e s'->False) :
  codeAny (model P w) callerA (.call (.ref fa) ⟨[.ref a],[]⟩) (λ r s'=>r = .ok (.ret (.bool true))/\OldK s₁.heap s'.heap/\s'.os=s₁.os/\AllBare s'.gens) s₁:=by
 have rv:=q7D hi;have lenV:=hi.length;have core:∀H:Hp,Only H->SqL K H a (ns.map V.int)->HOk P w H s₁.heap->(∀b,H b≠none->b=a)->(H a≠none->K.lookup a=none)->
   codeAny (model P w) callerA (.call (.ref fa) ⟨[.ref a],[]⟩) (λ r s'=>r = .ok (.ret (.bool true))/\OldK s₁.heap s'.heap/\s'.os=s₁.os/\AllBare s'.gens) s₁:=by
  intro H hO hS hok hA hK;have base_of:∀{b:Addr}{o:Obj},s₁.heap.get? b=some o->H b=none->(hidT s₁.heap H).get? b=some o:=λ e n=>qDF e n;have noA:∀{b:Addr}{o:Obj}{es:Array DictEntry}{ep:Nat},s₁.heap.get? b=some o->o.data = .dict es ep->H b=none:=λ {b o es ep} e d=>by
   cases q:H b with
   |none=>rfl
   |some u =>
    have e':b=a:=hA b (by rw[q];simp);subst e';rw[ha] at e;cases e;have d':Data.seq vs.toArray _=Data.dict es ep:=d;cases d'
  have nsK:∀{b:Addr}{m:Str->Option Value},s₁.heap.Ns b m->(hidT s₁.heap H).Ns b m:=λ {b m} ⟨o,es,ep,e,d,r⟩=>⟨o,es,ep,base_of e (noA e d),d,r⟩
  have hKb:K.In (hidT s₁.heap H):=λ b o e=>base_of (KX b o e) (by
   cases q:H b with
   |none=>rfl
   |some u =>
    have e':b=a:=hA b (by rw[q];simp);subst e';rw[hK (by rw[q];simp)] at e;cases e)
  have hM:Mod K mg (hidT s₁.heap H):=⟨hKb,nsK hns,⟨mb,nsK hb,hbb⟩,let ⟨mc,h1,h2⟩:=hlim;⟨mc,nsK h1,h2⟩⟩
  have e0:Env0 P w K mg (hidT s₁.heap H) callerA [] s₁ H:=⟨rfl,hM,λ b o e=>qFZ e,Nat.le_of_eq (qAt _ _),trivial,λ b hb=>absurd (show b∈([]:List Addr) from hb) (by simp),hok,.of_eq hg⟩
  refine codeAny_mono ((F _ hKb (nsK hns)).run callerA [] s₁ H ⟨[.ref a],[]⟩ [.ref a] [.ref a] _ _ hr e0 (hbind s₁ (.ref a)) (.cons rfl .nil) (hsp H hO hS)) λ r s' h=>?_;cases r with
  |error e=>exact (hCX H e s' h).elim
  |ok fl =>
   cases fl with
   |next=>exact False.elim h
   |brk=>exact False.elim h
   |cont=>exact False.elim h
   |ret u =>
    obtain⟨v,H',os,bare,un,hok',r',q⟩:=h;have q':v = .bl true:=q;subst q';obtain rfl:u=Value.bool true:=r';refine⟨rfl,OldK.of_keep λ b o e=>?_,os,bare⟩;cases q:H b with
    |none=>exact un.keep b o e q (by intro z;exact absurd (show b∈([]:List Addr) from z) (by simp)) (by simp)
    |some u =>
     rcases hO b with z|⟨ob,xs,z⟩
     ·rw[q] at z;cases z
     ·have z2:=un.frzs b ob _ z;obtain⟨e1,_⟩:=hok b _ z;obtain⟨e2,_⟩:=hok' b _ z2;rw[e] at e1;cases e1;exact e2
 cases hk:K.lookup a with
 |some o =>
  have e:=KX a o hk;rw[ha] at e;cases e;refine core (λ _=>none) (λ _=> .inl rfl) (.inr ⟨_,vs.toArray,_,hk,rfl,rfl,rfl,by rw[Qr,lenV];exact hl,by simpa using rv⟩) (λ b u z=>by have z':(none:Option HO)=some u:=z;cases z') (λ b z=>absurd rfl z) λ z=>absurd rfl z
 |none =>
  refine core (λ b=>if b=a then some (.frz {cls:= .type "list",data:= .seq vs.toArray} (.lst (ns.map V.int))) else none) (λ b=>?_) (.inl (.inr ⟨{cls:= .type "list",data:= .seq vs.toArray},if_pos rfl⟩)) (λ b u z=>?_) (λ b z=>?_) λ _=>hk
  ·by_cases hb:b=a
   ·exact .inr ⟨_,_,if_pos hb⟩
   ·exact .inl (if_neg hb)
  ·by_cases hb:b=a
   ·have z':=(if_pos hb).symm.trans z;cases z';subst hb;exact⟨ha,by rw[Qh];exact hl,vs,_,rv,ha⟩
   ·have z':=(if_neg hb).symm.trans z;cases z'
  ·by_cases hb:b=a
   ·exact hb
   ·exact absurd (if_neg hb) z
end L2
namespace L2
open PySem PySem.Spec PyProof.Rows
abbrev KOf {K:PySem.W.Frag}{h:Heap}(_:K.In h):PySem.W.Frag:=K
theorem qFu {l:PySem.W.OpenLaw}{n k:Nat}{q:Program}{loose:List Str}{XP:(Str->Option Value)->Heap->Prop}{YP:World->Heap->Prop}{d:DefRec}{K:Params->PySem.W.Frag}{CX:World->CXT}{sp:World->Sp}{x:Str}
  (hn:l.most=some n) (hn2:n<=sizeLine) (hdf:d.params.defaults=[]) (hr:Room k callerA)
  (hY:∀(w:World) (h:Heap),YP w h->(K w.params).In h)
  (F:∀(w:World) (mg:Str->Option Value) (fa:Addr) (h:Heap),(K w.params).In h->h.Ns mainGlobals mg->mg d.name=some (.ref fa)->
   ∃fd:FuncData,(∀(s:Shared) (u:Value),BindsTo s fd ⟨[u],[]⟩ [(x,u)])/\
    ∀base:Heap,(K w.params).In base->base.Ns mainGlobals mg->FnOk l.prog w (K w.params) mg base (CX w) k fa fd [x] (sp w))
  (hsp:∀(w:World) (H:Hp) (a:Addr) (ns:List Int),ns.length<=n->Only H->SqL (K w.params) H a (ns.map V.int)->sp w [.ref a] H (λ v _=>v = .bl true) λ _ _ _=>False)
  (hCX:∀(w:World) (H:Hp) (s:Shared) (e:Value) (s':Shared),CX w [] H s (λ _ _ _=>False) e s'->False) :
  PySem.W.WalkO q loose XP YP l.row.toRowW d [] (λ f vs=>PySem.call f vs):=by
 refine Att.q8P hn hdf λ w s₀ s₁ mg mb fa o pm cd doc a vs ns G Y ho hd hcd hmg hobj hints hlen hg=>?_;have KX:=hY w _ Y;obtain⟨fd,hb,hF⟩:=F w mg fa _ KX G.T.g hmg;exact qDN KX G.T.g G.T.b G.T.builtins G.T.nolimit hg hobj hints (Qn hlen hn2) hr hF hb (λ H hO hS=>hsp w H a ns hlen hO hS) λ H e s'=>hCX w H s₁ e s'
end L2
namespace L2
open PySem PySem.Spec PyProof.Rows
def q3B (s:Stmt):Arguments:=match s with
 | .FunctionDef _ a _ _ _ _ _ _ _ _=>a
 |_=>{posonlyargs:=[],args:=[],vararg:=none,kwonlyargs:=[],kw_defaults:=[],kwarg:=none,defaults:=[]}
def q2D (s:Stmt):List Stmt:=match s with
 | .FunctionDef _ _ b _ _ _ _ _ _ _=>b
 |_=>[]
def q1C (s:Stmt):Scope:=match s with
 | .FunctionDef _ _ _ _ _ _ sc _ _ _=>sc
 |_=>{kind:= .function,names:=[],isGenerator:=false,isCoroutine:=false}
structure Fun (K:PySem.W.Frag) (x qual:Str) (st:Stmt) (f:Addr) (fd:FuncData):Prop where
 ex:∃(oc:Value) (od:Option Addr) (kV doc pm:Value) (an:Option Addr) (cdv ct:Value) (osl:Array (Option Value)),
  fd=PySem.W.fnOf x qual (q3B st) (q2D st) (q1C st) .none kV doc pm an cdv ct/\K.lookup f=some ⟨oc,od,.func fd,osl⟩/\PySem.W.codeIn K cdv qual=true
 kp:PySem.W.keepIn K (.ref f)=true
section
variable {P:Program}{w:World}{K:PySem.W.Frag}{mg:Str->Option Value}{base:Heap}
theorem Fun.binds {x qual:Str}{st:Stmt}{f:Addr}{fd:FuncData}{ps:List Str}(F:Fun K x qual st f fd)
  (h:∀(kV doc pm:Value) (an:Option Addr) (cdv ct:Value) (us:List Value),us.length=ps.length->bindArgs (PySem.W.fnOf x qual (q3B st) (q2D st) (q1C st) .none kV doc pm an cdv ct) ⟨us,[]⟩=pure (ps.zip us)):Binds K fd ps []:=by
 obtain⟨oc,od,kV,doc,pm,an,cdv,ct,osl,rfl,lk,hcd⟩:=F.ex;exact .all (h kV doc pm an cdv ct)
theorem qIR {x qual:Str}{st:Stmt}{f:Addr}{oc:Value}{od an:Option Addr}{osl:Array (Option Value)}{kV doc pm cdv ct:Value}(l:K.lookup f=some ⟨oc,od,.func (PySem.W.fnOf x qual (q3B st) (q2D st) (q1C st) .none kV doc pm an cdv ct),osl⟩)
  (c:PySem.W.codeIn K cdv qual=true) (k:PySem.W.keepIn K (.ref f)=true):Fun K x qual st f (PySem.W.fnOf x qual (q3B st) (q2D st) (q1C st) .none kV doc pm an cdv ct):=⟨⟨oc,od,kV,doc,pm,an,cdv,ct,osl,rfl,l,c⟩,k⟩
end
end L2
set_option autoImplicit false
namespace Ev
theorem oB {α β:Type}{o:Option α}{f:α->Option β}{b:β}(h:o.bind f=some b):∃a,o=some a/\f a=some b:=Option.bind_eq_some_iff.mp h
theorem oM {α β:Type}{o:Option α}{f:α->β}{b:β}(h:o.map f=some b):∃a,o=some a/\f a=b:=Jj.mp h
open PySem
inductive D where
 |non|bl (b:Bool)|int (i:Int)|str (x:Str)|tup (xs:List D)|lst (xs:List D)|dct (ks vs:List D)|exc (c:Nat)
 deriving Inhabited
inductive R (α:Type) where
 |ok (a:α)|err (c:Nat)|stuck
 deriving Inhabited
def R.bind {α β:Type}:R α->(α->R β)->R β
 | .ok a,f=>f a
 | .err c,_=> .err c
 | .stuck,_=> .stuck
@[simp] theorem q00 {α β:Type}(a:α) (f:α->R β):(R.ok a).bind f=f a:=rfl
@[simp] theorem qKk {α β:Type}(c:Nat) (f:α->R β):(R.err c).bind f = .err c:=rfl
@[simp] theorem qHy {α β:Type}(f:α->R β):(R.stuck:R α).bind f = .stuck:=rfl
def b2i (b:Bool):Int:=if b then 1 else 0
mutual
noncomputable def eqb:D->D->Bool
 | .non,.non=>true
 | .bl a,.bl b=>a==b
 | .int a,.int b=>decide (a=b)
 | .bl a,.int b=>decide (b2i a=b)
 | .int a,.bl b=>decide (a=b2i b)
 | .str a,.str b=>decide (a=b)
 | .tup a,.tup b=>eqbL a b
 | .lst a,.lst b=>eqbL a b
 |_,_=>false
noncomputable def eqbL:List D->List D->Bool
 |[],[]=>true
 |a::l,b::m=>eqb a b&&eqbL l m
 |_,_=>false
end
def plN:Nat->D->Bool
 |_,.non=>true
 |_,.bl _=>true
 |_,.int _=>true
 |_,.str _=>true
 |k+1,.tup a=>a.all (plN k)
 |k+1,.lst a=>a.all (plN k)
 |_,_=>false
def pl (d:D):Bool:=plN 8 d
def plL (l:List D):Bool:=l.all pl
mutual
noncomputable def ltb:D->D->Bool
 | .int a,.int b=>decide (a<b)
 | .tup a,.tup b=>ltbL a b
 | .lst a,.lst b=>ltbL a b
 |_,_=>false
noncomputable def ltbL:List D->List D->Bool
 |[],_::_=>true
 |a::l,b::m=>if eqb a b then ltbL l m else ltb a b
 |_,[]=>false
end
mutual
noncomputable def q0r:D->D->Bool
 | .int _,.int _=>true
 | .tup a,.tup b=>q0w a b
 | .lst a,.lst b=>q0w a b
 |_,_=>false
noncomputable def q0w:List D->List D->Bool
 |a::l,b::m=>if eqb a b then q0w l m else q0r a b
 |_,_=>true
end
mutual
def q02:D->Bool
 | .int _=>true
 | .tup a=>q09 a
 |_=>false
def q09:List D->Bool
 |[]=>true
 |a::l=>q02 a&&q09 l
end
def ins (x:D):List D->List D
 |[]=>[x]
 |y::l=>if ltb x y then x::y::l else y::ins x l
def q21:List D->List D
 |[]=>[]
 |x::l=>ins x (q21 l)
def q3V (p:D->D->Bool) (l:List D):Bool:=l.all λ a=>l.all λ b=>p a b
def dedup:List D->List D
 |[]=>[]
 |x::l=>if l.any (eqb x) then dedup l else x::dedup l
def qDO (l:List D):Bool:=decide ((dedup l).length=l.length)
def tr:D->R Bool
 | .non=> .ok false
 | .bl b=> .ok b
 | .int i=> .ok (i != 0)
 | .str x=> .ok (x.length != 0)
 | .tup xs=> .ok (!xs.isEmpty)
 | .lst xs=> .ok (!xs.isEmpty)
 | .dct _ _=> .stuck
 | .exc _=> .stuck
inductive Op2 where|add|sub|mul|fdiv|mod|shl|shr|band|bor|bxor
 deriving DecidableEq,Repr
inductive Cm where|eq|ne|lt|le|gt|ge|isN|notN|mem|nmem
 deriving DecidableEq,Repr
inductive Bi where
 |len|sorted|sortedRev|sortedSet|tuple|list|sum|all|bits|count|index|min2|max2|toInt|abs|isTup|isLst|isInt|isBool|isVal|isExc (c:Nat)
 deriving DecidableEq,Repr
def big:Nat:=1000000
def lstD (f:List D->R D):D->R D
 | .lst xs=>f xs
 |_=> .stuck
def intD (f:Int->R D):D->R D
 | .int i=>f i
 |_=> .stuck
def tupD (f:List D->R D):D->R D
 | .tup xs=>f xs
 |_=> .stuck
def strD (f:Str->R D):D->R D
 | .str x=>f x
 |_=> .stuck
def nonD (r:R D):D->R D
 | .non=>r
 |_=> .stuck
noncomputable def addD (x y:D):R D:=match x with
 | .int a=>intD (λ b=> .ok (.int (a+b))) y
 | .lst a=>lstD (λ b=>if a.length+b.length<=big then .ok (.lst (a++b)) else .stuck) y
 | .tup a=>tupD (λ b=>if a.length+b.length<=big then .ok (.tup (a++b)) else .stuck) y
 | .str a=>strD (λ b=>if a.length+b.length<=big then .ok (.str (a++b)) else .stuck) y
 |_=> .stuck
noncomputable def mulD (x y:D):R D:=match x with
 | .int a=>intD (λ b=>if (-(2^62)<a/\a<2^62)\/(-(2^62)<b/\b<2^62) then .ok (.int (a*b)) else .stuck) y
 | .lst a=>intD (λ k=>if 0<=k/\k<=1000/\a.length*k.toNat<=big then .ok (.lst (Qe k.toNat a).flatten) else .stuck) y
 |_=> .stuck
noncomputable def opI:Op2->Int->Int->R D
 | .sub,a,b=> .ok (.int (a-b))
 | .fdiv,a,b=>if 0<b/\b<1073741824 then .ok (.int (a / b)) else .stuck
 | .mod,a,b=>if 0<b then .ok (.int (a % b)) else .stuck
 | .shl,a,b=>if 0<=a/\a<2^62/\0<=b/\b<=1000 then .ok (.int ((a.toNat <<< b.toNat:Nat):Int)) else .stuck
 | .shr,a,b=>if 0<=a/\0<=b then .ok (.int ((a.toNat >>> b.toNat:Nat):Int)) else .stuck
 | .band,a,b=>if 0<=a/\0<=b then .ok (.int ((a.toNat &&& b.toNat:Nat):Int)) else .stuck
 | .bor,a,b=>if 0<=a/\0<=b then .ok (.int ((a.toNat ||| b.toNat:Nat):Int)) else .stuck
 | .bxor,a,b=>if 0<=a/\0<=b then .ok (.int ((a.toNat ^^^ b.toNat:Nat):Int)) else .stuck
 |_,_,_=> .stuck
def opD (o:Op2) (x y:D):R D:=match o with
 | .add=>addD x y
 | .mul=>mulD x y
 |_=>intD (λ a=>intD (opI o a) y) x
theorem q7E (o:Op2) (h:o ≠ .add) (h2:o ≠ .mul) (a b:Int):opD o (.int a) (.int b)=opI o a b:=by
 unfold opD;split
 ·exact absurd rfl h
 ·exact absurd rfl h2
 ·dsimp only[intD]
noncomputable def memD (x:D):D->R Bool
 | .lst xs=>if pl x&&plL xs then .ok (xs.any λ y=>eqb y x) else .stuck
 | .tup xs=>if pl x&&plL xs then .ok (xs.any λ y=>eqb y x) else .stuck
 | .dct ks _=>match x with
  | .int i=> .ok (ks.any λ y=>eqb y (.int i))
  |_=> .stuck
 |_=> .stuck
noncomputable def cmD (o:Cm) (a b:D):R D:=match o with
 | .eq=>if pl a&&pl b then .ok (.bl (eqb a b)) else .stuck
 | .ne=>if pl a&&pl b then .ok (.bl (!eqb a b)) else .stuck
 | .lt=>if pl a&&pl b&&q02 a&&q02 b&&q0r a b then .ok (.bl (ltb a b)) else .stuck
 | .gt=>intD (λ a=>intD (λ b=> .ok (.bl (decide (b<a)))) b) a
 | .le=>intD (λ a=>intD (λ b=> .ok (.bl (decide (a<=b)))) b) a
 | .ge=>if pl a&&pl b&&q02 a&&q02 b&&q0r a b then .ok (.bl (!ltb a b)) else .stuck
 | .isN=>nonD (.ok (.bl (match a with | .non=>true|_=>false))) b
 | .notN=>nonD (.ok (.bl (match a with | .non=>false|_=>true))) b
 | .mem=>(memD a b).bind λ r=> .ok (.bl r)
 | .nmem=>(memD a b).bind λ r=> .ok (.bl (!r))
def nth (xs:List D) (i:Int):R D :=
 match (if 0<=i then xs[i.toNat]? else if -(xs.length:Int)<=i then xs[(i+xs.length).toNat]? else none) with
 |some d=> .ok d
 |none=> .stuck
def look (i:Int):List D->List D->R D
 | .int k::ks,v::vs=>if k=i then .ok v else look i ks vs
 |_,_=> .stuck
noncomputable def put (i:Int) (x:D):List D->List D->R (List D×List D)
 |[],[]=> .ok ([.int i],[x])
 | .int k::ks,v::vs=>if k=i then .ok (.int k::ks,x::vs) else (put i x ks vs).bind λ r=> .ok (.int k::r.1,v::r.2)
 |_,_=> .stuck
def idxD:D->D->R D
 | .lst xs,.int i=>nth xs i
 | .tup xs,.int i=>nth xs i
 | .dct ks vs,.int i=>look i ks vs
 |_,_=> .stuck
def bnd (n d:Nat):Option Int->Nat
 |none=>d
 |some v=>if v<0 then (v+n).toNat else min v.toNat n
def cutL {α:Type}(xs:List α) (lo hi:Option Int):List α:=(xs.drop (bnd xs.length 0 lo)).take (bnd xs.length xs.length hi-bnd xs.length 0 lo)
def qIS {α:Type}:List α->List α
 |[]=>[]
 |[a]=>[a]
 |[a,_]=>[a]
 |a::_::_::l=>a::qIS l
noncomputable def slD (st:Nat) (lo hi:Option Int):D->R D
 | .lst xs=>if st=0 then .ok (.lst (cutL xs lo hi)) else if st=1 then .ok (.lst xs.reverse) else if st=3 then .ok (.lst (qIS xs)) else .stuck
 | .tup xs=>if st=0 then .ok (.tup (cutL xs lo hi)) else .stuck
 |_=> .stuck
def ints?:List D->Option (List Int)
 |[]=>some []
 | .int i::l=>(ints? l).map (i::·)
 |_=>none
def bools?:List D->Option (List Bool)
 |[]=>some []
 | .bl i::l=>(bools? l).map (i::·)
 |_=>none
def q0W:D->R (List D)
 | .lst xs=> .ok xs
 | .tup xs=> .ok xs
 | .dct ks _=>if (ints? ks).isSome then .ok ks else .stuck
 |_=> .stuck
def q1v:D->R (List D)
 | .lst xs=> .ok xs
 | .tup xs=> .ok xs
 |_=> .stuck
def q4X:D->Bool
 | .int _=>true
 |_=>false
def q32:D->Bool
 | .tup (.int _::_)=>true
 |_=>false
def q1h (xs:List D):Bool:=decide (xs.length<64)&&q09 xs&&plL xs&&q3V q0r xs&&qDO xs&&(xs.all q4X || xs.all q32)
def idxOf (x:D):List D->Nat->R D
 |[],_=> .stuck
 |y::l,n=>if eqb y x then .ok (.int n) else idxOf x l (n+1)
def oneD (f:D->R D):List D->R D
 |[d]=>f d
 |_=> .stuck
def twoD (f:D->D->R D):List D->R D
 |[d,e]=>f d e
 |_=> .stuck
def lenD:D->R D
 | .lst xs=> .ok (.int xs.length)
 | .tup xs=> .ok (.int xs.length)
 | .dct ks _=> .ok (.int ks.length)
 | .str x=> .ok (.int x.length)
 |_=> .stuck
def seqD (f:List D->R D):D->R D
 | .lst xs=>f xs
 | .tup xs=>f xs
 |_=> .stuck
def qIT:D->R D
 | .int a=> .ok (.int a)
 | .bl a=> .ok (.int (b2i a))
 |_=> .stuck
def qFv:D->R D
 | .int _=> .ok (.bl false)
 | .bl _=> .ok (.bl true)
 |_=> .stuck
def qIU:D->R D
 | .tup _=> .ok (.bl true)
 |_=> .stuck
def excD (f:Nat->R D):D->R D
 | .exc c=>f c
 |_=> .stuck
def sumD (xs:List D):R D:=match ints? xs with
 |some ns=> .ok (.int ns.sum)
 |none=> .stuck
def allD (xs:List D):R D:=match bools? xs with
 |some bs=> .ok (.bl (bs.all id))
 |none=> .stuck
noncomputable def biD (sub:Nat->Nat->Bool) (b:Bi) (ds:List D):R D:=match b with
 | .len=>oneD lenD ds
 | .sorted=>oneD (λ d=>(q0W d).bind λ xs=>if q1h xs then .ok (.lst (q21 xs)) else .stuck) ds
 | .sortedRev=>oneD (λ d=>(q0W d).bind λ xs=>if q1h xs&&xs.all q4X then .ok (.lst (q21 xs).reverse) else .stuck) ds
 | .sortedSet=>oneD (λ d=>(q1v d).bind λ xs=>if q09 xs&&plL xs&&decide (xs.length<=1000)&&q1h (dedup xs) then .ok (.lst (q21 (dedup xs))) else .stuck) ds
 | .tuple=>oneD (seqD λ xs=> .ok (.tup xs)) ds
 | .list=>oneD (seqD λ xs=> .ok (.lst xs)) ds
 | .sum=>oneD (lstD sumD) ds
 | .all=>oneD (lstD allD) ds
 | .bits=>oneD (intD λ i=>if 0<=i then .ok (.int (if i=0 then 0 else ((i.toNat.log2+1:Nat):Int))) else .stuck) ds
 | .count=>twoD (λ d x=>lstD (λ xs=>if pl x&&plL xs then .ok (.int ((xs.filter λ y=>eqb y x).length)) else .stuck) d) ds
 | .index=>twoD (λ d x=>lstD (λ xs=>if pl x&&plL xs then idxOf x xs 0 else .stuck) d) ds
 | .min2=>twoD (λ x y=>intD (λ a=>intD (λ b=> .ok (.int (if b<a then b else a))) y) x) ds
 | .max2=>twoD (λ x y=>intD (λ a=>intD (λ b=> .ok (.int (if b > a then b else a))) y) x) ds
 | .toInt=>oneD qIT ds
 | .abs=>oneD (intD λ a=> .ok (.int (if a<0 then -a else a))) ds
 | .isTup=>oneD qIU ds
 | .isLst=>oneD (lstD λ _=> .ok (.bl true)) ds
 | .isInt=>oneD (intD λ _=> .ok (.bl true)) ds
 | .isBool=>oneD qFv ds
 | .isVal=>oneD (excD λ _=> .ok (.bl true)) ds
 | .isExc c=>oneD (excD λ e=> .ok (.bl (sub e c))) ds
mutual
inductive L where
 |var (i:Nat)|bor (i:Nat)|con (d:D)
 |op (o:Op2) (a b:L)|cm (o:Cm) (a b:L)|neg (a:L)|not (a:L)|and (a b:L)|or (a b:L)|ite (c:T) (a b:L)
 |tup (xs:List L)|lst (xs:List L)|dct (k v:L)
 |idx (a i:L)|sl (st:Nat) (a:L) (lo hi:List L)
 |call (f:Nat) (xs:List L)|bi (b:Bi) (xs:List L)
 |comp (k:Nat) (elt:L) (it:I) (cond:List T)
 |skey (a:L) (f:Nat)|lrng (xs:List L)
inductive T where
 |e (a:L)|and (a b:T)|or (a b:T)|not (a:T)
inductive I where
 |rng (xs:List L)|e (a:L)|b (i:Nat)
end
inductive Sl where|val (d:D)|own (d:D)|own2 (xss:List (List D))
 deriving Inhabited
abbrev Env:=List (Option Sl)
def getV (ρ:Env) (i:Nat):R D:=match ρ[i]? with
 |some (some (.val d))=> .ok d
 |_=> .stuck
def getB (ρ:Env) (i:Nat):R D:=match ρ[i]? with
 |some (some (.val d))=> .ok d
 |some (some (.own d))=> .ok d
 |_=> .stuck
noncomputable def rngD:List D->R (List D)
 |[.int j]=>if -(2^62)<=j/\j<2^62 then .ok ((Qg j.toNat).map λ (k:Nat)=> .int k) else .stuck
 |[.int i,.int j]=>if -(2^62)<=i/\i<2^62/\-(2^62)<=j/\j<2^62 then .ok ((Qg (j-i).toNat).map λ (k:Nat)=> .int (i+k)) else .stuck
 |_=> .stuck
def unp (k:Nat) (d:D):R (List D) :=
 if k=0 then .ok [d] else match d with
  | .tup xs=>if xs.length=k then .ok xs else .stuck
  |_=> .stuck
def vals (ds:List D):Env:=ds.map λ d=>some (.val d)
noncomputable def q0O (elt:Env->R D) (cond:Env->R Bool) (k:Nat) (ρ:Env):List D->R (List D)
 |[]=> .ok []
 |d::ds=>(unp k d).bind λ xs=>(cond (vals xs++ρ)).bind λ b =>
   if b then (elt (vals xs++ρ)).bind λ e=>(q0O elt cond k ρ ds).bind λ es=> .ok (e::es) else q0O elt cond k ρ ds
def R.q6B {α:Type}:R α->R α
 | .err _=> .stuck
 |r=>r
@[simp] theorem q0P {α:Type}(a:α):(R.ok a).q6B = .ok a:=rfl
@[simp] theorem qFw {α:Type}:(R.stuck:R α).q6B = .stuck:=rfl
@[simp] theorem qIV {α:Type}(c:Nat):(R.err c:R α).q6B = .stuck:=rfl
def optI:List D->R (Option Int)
 |[]=> .ok none
 |[.int i]=> .ok (some i)
 |_=> .stuck
def q7F (ps:List (D×D)):List (D×D):=ps.foldr (λ x l=>insK x l) []
where
 insK (x:D×D):List (D×D)->List (D×D)
  |[]=>[x]
  |y::l=>if ltb x.1 y.1 then x::y::l else y::insK x l
def mapR (f:D->R D):List D->R (List D)
 |[]=> .ok []
 |x::l=>(f x).bind λ y=>(mapR f l).bind λ m=> .ok (y::m)
section
variable (G:Nat->List D->R D) (sub:Nat->Nat->Bool)
mutual
noncomputable def ev:L->Env->R D
 | .var i,ρ=>getV ρ i
 | .bor i,ρ=>getB ρ i
 | .con d,_=> .ok d
 | .op o a b,ρ=>(ev a ρ).bind λ x=>(ev b ρ).bind λ y=>opD o x y
 | .cm o a b,ρ=>(ev a ρ).bind λ x=>(ev b ρ).bind λ y=>cmD o x y
 | .neg a,ρ=>(ev a ρ).bind λ x=>match x with
   | .int i=> .ok (.int (-i))
   |_=> .stuck
 | .not a,ρ=>(ev a ρ).bind λ x=>(tr x).bind λ b=> .ok (.bl (!b))
 | .and a b,ρ=>(ev a ρ).bind λ x=>match x with
   | .bl true=>ev b ρ
   | .bl false=> .ok (.bl false)
   |_=> .stuck
 | .or a b,ρ=>(ev a ρ).bind λ x=>match x with
   | .bl true=> .ok (.bl true)
   | .bl false=>ev b ρ
   |_=> .stuck
 | .ite c a b,ρ=>(tst c ρ).bind λ t=>if t then ev a ρ else ev b ρ
 | .tup xs,ρ=>(evs xs ρ).bind λ ds=>if ds.length<=big then .ok (.tup ds) else .stuck
 | .lst xs,ρ=>(evs xs ρ).bind λ ds=>if ds.length<=big then .ok (.lst ds) else .stuck
 | .dct k v,ρ=>(ev k ρ).bind λ x=>(ev v ρ).bind λ y=>match x with
   | .int i=> .ok (.dct [.int i] [y])
   |_=> .stuck
 | .idx a i,ρ=>(ev a ρ).bind λ x=>(ev i ρ).bind λ y=>idxD x y
 | .sl st a lo hi,ρ=>(ev a ρ).bind λ x=>(evs lo ρ).bind λ l=>(evs hi ρ).bind λ h=>(optI l).bind λ l=>(optI h).bind λ h=>slD st l h x
 | .call f xs,ρ=>(evs xs ρ).bind λ ds=>G f ds
 | .bi b xs,ρ=>(evs xs ρ).bind λ ds=>biD sub b ds
 | .comp k elt it cond,ρ=>(evi it ρ).bind λ ds=>(q0O (ev elt) (tsts cond) k ρ ds).q6B.bind λ es=>if es.length<=big then .ok (.lst es) else .stuck
 | .skey a f,ρ=>(ev a ρ).bind λ d=>(q0W d).bind λ xs=>(mapR (λ x=>G f [x]) xs).q6B.bind λ ks =>
   if q1h ks then .ok (.lst ((q7F (ks.zip xs)).map (·.2))) else .stuck
 | .lrng xs,ρ=>(evs xs ρ).bind λ ds=>(rngD ds).bind λ is=>if is.length<=big then .ok (.lst is) else .stuck
noncomputable def evs:List L->Env->R (List D)
 |[],_=> .ok []
 |a::l,ρ=>(ev a ρ).bind λ x=>(evs l ρ).bind λ xs=> .ok (x::xs)
noncomputable def evi:I->Env->R (List D)
 | .rng xs,ρ=>(evs xs ρ).bind rngD
 | .e a,ρ=>(ev a ρ).bind q0W
 | .b i,ρ=>(getB ρ i).bind q1v
noncomputable def tst:T->Env->R Bool
 | .and a b,ρ=>(tst a ρ).bind λ t=>if t then tst b ρ else .ok false
 | .or a b,ρ=>(tst a ρ).bind λ t=>if t then .ok true else tst b ρ
 | .not a,ρ=>(tst a ρ).bind λ t=> .ok (!t)
 | .e a,ρ=>(ev a ρ).bind tr
noncomputable def tsts:List T->Env->R Bool
 |[],_=> .ok true
 |a::l,ρ=>(tst a ρ).bind λ t=>if t then tsts l ρ else .ok false
end
end
inductive S where
 |set (i:Nat) (a:L)|setO (i:Nat) (a:L)|setT (is:List Nat) (a:L)|aug (i:Nat) (o:Op2) (a:L)
 |setE (i:Nat) (a:L)|app2 (i:Nat) (k a:L)|frz (i j:Nat)
 |app (i:Nat) (a:L)|ext (i:Nat) (a:L)|pop (j i:Nat)|put (i:Nat) (k v:L)
 |expr (a:L)|ifs (c:T) (a b:List S)|forr (k:Nat) (is:List Nat) (it:I) (body:List S)|whl (c:T) (body:List S)
 |ret (a:L)|retN|retO (i:Nat)|brk|cont|pass
 |raise (c:Nat)|tryE (body:List S) (c i j:Nat)|retF (i:Nat)|setF (i f:Nat) (args:List L)|extF (i f:Nat) (args:List L)
inductive F where|nx|brk|cont|ret (d:D)|retN (d:D)
inductive RS where|ok (ρ:Env) (f:F)|err (c:Nat) (ρ:Env)|stuck
def R.go {α:Type}(r:R α) (ρ:Env) (f:α->RS):RS:=match r with
 | .ok a=>f a
 | .err c=> .err c ρ
 | .stuck=> .stuck
@[simp] theorem q04 {α:Type}(a:α) (ρ:Env) (f:α->RS):(R.ok a).go ρ f=f a:=rfl
@[simp] theorem go_err {α:Type}(c:Nat) (ρ:Env) (f:α->RS):(R.err c:R α).go ρ f = .err c ρ:=rfl
@[simp] theorem qKl {α:Type}(ρ:Env) (f:α->RS):(R.stuck:R α).go ρ f = .stuck:=rfl
def RS.nx (r:RS) (f:Env->RS):RS:=match r with
 | .ok ρ .nx=>f ρ
 |r=>r
@[simp] theorem q5a (ρ:Env) (f:Env->RS):(RS.ok ρ .nx).nx f=f ρ:=rfl
@[simp] theorem qIW (ρ:Env) (d:D) (f:Env->RS):(RS.ok ρ (.ret d)).nx f = .ok ρ (.ret d):=rfl
@[simp] theorem nx_brk (ρ:Env) (f:Env->RS):(RS.ok ρ .brk).nx f = .ok ρ .brk:=rfl
@[simp] theorem qL8 (ρ:Env) (f:Env->RS):(RS.ok ρ .cont).nx f = .ok ρ .cont:=rfl
@[simp] theorem qEt (ρ:Env) (c:Nat) (f:Env->RS):(RS.err c ρ).nx f = .err c ρ:=rfl
def RS.turn (r:RS) (f:Env->RS):RS:=match r with
 | .ok ρ .nx=>f ρ
 | .ok ρ .cont=>f ρ
 | .ok ρ .brk=> .ok ρ .nx
 | .ok ρ (.ret d)=> .ok ρ (.ret d)
 | .ok ρ (.retN d)=> .ok ρ (.retN d)
 | .err c ρ=> .err c ρ
 | .stuck=> .stuck
@[simp] theorem qIX (ρ:Env) (d:D) (f:Env->RS):(RS.ok ρ (.retN d)).turn f = .ok ρ (.retN d):=rfl
@[simp] theorem qFx (ρ:Env) (d:D) (f:Env->RS):(RS.ok ρ (.retN d)).nx f = .ok ρ (.retN d):=rfl
@[simp] theorem q1i (ρ:Env) (f:Env->RS):(RS.ok ρ .nx).turn f=f ρ:=rfl
@[simp] theorem qIY (ρ:Env) (f:Env->RS):(RS.ok ρ .cont).turn f=f ρ:=rfl
@[simp] theorem qKm (ρ:Env) (f:Env->RS):(RS.ok ρ .brk).turn f = .ok ρ .nx:=rfl
@[simp] theorem qDP (ρ:Env) (d:D) (f:Env->RS):(RS.ok ρ (.ret d)).turn f = .ok ρ (.ret d):=rfl
@[simp] theorem qKn (ρ:Env) (c:Nat) (f:Env->RS):(RS.err c ρ).turn f = .err c ρ:=rfl
def q33:List Nat->List D->Env->Env
 |i::is,d::ds,ρ=>q33 is ds (ρ.set i (some (.val d)))
 |_,_,ρ=>ρ
def q1D (body:Env->RS) (k:Nat) (is:List Nat):List D->Env->RS
 |[],ρ=> .ok ρ .nx
 |d::ds,ρ=>(unp k d).go ρ λ xs=>(body (q33 is xs ρ)).turn λ ρ'=>q1D body k is ds ρ'
def q0x (c:Env->R Bool) (body:Env->RS):Nat->Env->RS
 |0,_=> .stuck
 |n+1,ρ=>(c ρ).go ρ λ t=>if t then (body ρ).turn λ ρ'=>q0x c body n ρ' else .ok ρ .nx
def augD (o:Op2):D->D->R D
 | .int m,.int n=>opD o (.int m) (.int n)
 |_,_=> .stuck
section
variable (G:Nat->List D->R D) (sub:Nat->Nat->Bool)
mutual
noncomputable def ex:S->Env->RS
 | .set i a,ρ=>(ev G sub a ρ).go ρ λ d=> .ok (ρ.set i (some (.val d))) .nx
 | .setO i a,ρ=>(ev G sub a ρ).go ρ λ d=> .ok (ρ.set i (some (.own d))) .nx
 | .setT is a,ρ=>(ev G sub a ρ).go ρ λ d=>(unp is.length d).go ρ λ xs=> .ok (q33 is xs ρ) .nx
 | .aug i o a,ρ=>(getV ρ i).go ρ λ x=>(ev G sub a ρ).go ρ λ y=>(augD o x y).go ρ λ z=> .ok (ρ.set i (some (.val z))) .nx
 | .app i a,ρ=>match ρ[i]? with
   |some (some (.own (.lst xs)))=>(ev G sub a ρ).go ρ λ d=>if xs.length<big then .ok (ρ.set i (some (.own (.lst (xs++[d]))))) .nx else .stuck
   |_=> .stuck
 | .ext i a,ρ=>match ρ[i]? with
   |some (some (.own (.lst xs)))=>(ev G sub a ρ).go ρ λ d=>match d with
     | .lst ys=>if xs.length+ys.length<=big then .ok (ρ.set i (some (.own (.lst (xs++ys))))) .nx else .stuck
     |_=> .stuck
   |_=> .stuck
 | .pop j i,ρ=>match ρ[i]? with
   |some (some (.own (.lst xs)))=>match xs.getLast? with
     |some d=> .ok ((ρ.set i (some (.own (.lst xs.dropLast)))).set j (some (.val d))) .nx
     |none=> .stuck
   |_=> .stuck
 | .put i k v,ρ=>match ρ[i]? with
   |some (some (.own (.dct ks vs)))=>(ev G sub v ρ).go ρ λ y=>(ev G sub k ρ).go ρ λ x=>match x with
     | .int n=>if ks.length<big then (put n y ks vs).go ρ λ r=> .ok (ρ.set i (some (.own (.dct r.1 r.2)))) .nx else .stuck
     |_=> .stuck
   |_=> .stuck
 | .setE i a,ρ=>(ev G sub a ρ).go ρ λ d=>match d with
   | .int n=>if 0<=n/\n<=1000 then .ok (ρ.set i (some (.own2 (Qe n.toNat [])))) .nx else .stuck
   |_=> .stuck
 | .app2 i k a,ρ=>match ρ[i]? with
   |some (some (.own2 xss))=>(ev G sub k ρ).go ρ λ x=>match x with
     | .int n=>if 0<=n then (match xss[n.toNat]? with
       |some ys=>(ev G sub a ρ).go ρ λ d=>if ys.length<big then .ok (ρ.set i (some (.own2 (xss.set n.toNat (ys++[d]))))) .nx else .stuck
       |none=> .stuck) else .stuck
     |_=> .stuck
   |_=> .stuck
 | .frz i j,ρ=>match ρ[j]? with
   |some (some (.own (.lst xs)))=>if i=j then .stuck else .ok ((ρ.set j (some (.val (.lst xs)))).set i (some (.val (.lst xs)))) .nx
   |_=> .stuck
 | .expr a,ρ=>(ev G sub a ρ).go ρ λ _=> .ok ρ .nx
 | .ifs c a b,ρ=>(tst G sub c ρ).go ρ λ t=>if t then exs a ρ else exs b ρ
 | .forr k is it body,ρ=>(evi G sub it ρ).go ρ λ ds=>q1D (exs body) k is ds ρ
 | .whl c body,ρ=>q0x (tst G sub c) (exs body) 100000 ρ
 | .ret a,ρ=>(ev G sub a ρ).go ρ λ d=> .ok ρ (.ret d)
 | .retN,ρ=> .ok ρ (.ret .non)
 | .retO i,ρ=>match ρ[i]? with
   |some (some (.own d))=> .ok (ρ.set i none) (.ret d)
   |some (some (.own2 xss))=> .ok (ρ.set i none) (.ret (.lst (xss.map .lst)))
   |_=> .stuck
 | .brk,ρ=> .ok ρ .brk
 | .cont,ρ=> .ok ρ .cont
 | .pass,ρ=> .ok ρ .nx
 | .raise c,ρ=> .err c ρ
 | .retF i,ρ=>match ρ[i]? with
   |some (some (.own (.lst xs)))=> .ok (ρ.set i none) (.retN (.lst xs))
   |_=> .stuck
 | .setF i f args,ρ=>(evs G sub args ρ).go ρ λ ds=>(G f ds).go ρ λ d=>match d with
   | .lst xs=> .ok (ρ.set i (some (.own (.lst xs)))) .nx
   |_=> .stuck
 | .extF i f args,ρ=>match ρ[i]? with
   |some (some (.own (.lst xs)))=>(evs G sub args ρ).go ρ λ ds=>(G f ds).go ρ λ d=>match d with
    | .lst ys=>if xs.length+ys.length<=big then .ok (ρ.set i (some (.own (.lst (xs++ys))))) .nx else .stuck
    |_=> .stuck
   |_=> .stuck
 | .tryE body c i j,ρ=>match exs body ρ with
   | .err e ρ'=>if sub e c then .ok ((ρ'.set j (some (.val (.exc e)))).set i none) .nx else .stuck
   |r=>r
noncomputable def exs:List S->Env->RS
 |[],ρ=> .ok ρ .nx
 |s::l,ρ=>(ex s ρ).nx λ ρ'=>exs l ρ'
end
def runF (n:Nat) (body:List S) (ds:List D):R D:=match exs G sub body (vals ds++Qe (n-ds.length) none) with
 | .ok _ (.retN d)=> .ok d
 | .err c _=> .err c
 |_=> .stuck
def run (n:Nat) (body:List S) (ds:List D):R D:=match exs G sub body (vals ds++Qe (n-ds.length) none) with
 | .ok _ .nx=> .ok .non
 | .ok _ (.ret d)=> .ok d
 | .err c _=> .err c
 |_=> .stuck
end
structure Ct where
 N:List Str
 kinds:List (Str×NameKind)
 funs:List Str
 consts:List (Str×D)
 excs:List Str
 muts:List Str
 fresh:List Str
 deep:List Str
 nw:Bool:=false
 news:List Nat:=[]
def ixOf (x:Str):List Str->Option Nat
 |[]=>none
 |y::l=>if x=y then some 0 else (ixOf x l).map (·+1)
def q2a (x:Str):Bool:=!(x==Str.ofString "__debug__")&&!(x==Str.ofString "__classdict__")
def Ct.vis (C:Ct) (x:Str):Bool:=q2a x&&match C.kinds.lookup x with
 |some .local|some .cell|some .free=>true
 |_=>false
def Ct.loc (C:Ct) (x:Str):Option Nat:=if q2a x then (match C.kinds.lookup x with
 |some .local|some .cell=>ixOf x C.N
 |_=>none) else none
def Ct.glob (C:Ct) (x:Str):Bool:=q2a x&&decide (C.kinds.lookup x=some .globalImplicit)
noncomputable def opOf:Operator->Option Op2
 | .Add=>some .add | .Sub=>some .sub | .Mult=>some .mul | .FloorDiv=>some .fdiv | .Mod=>some .mod | .LShift=>some .shl | .RShift=>some .shr
 | .BitAnd=>some .band | .BitOr=>some .bor | .BitXor=>some .bxor|_=>none
def cmOf:CmpOp->Cm
 | .Eq=> .eq | .NotEq=> .ne | .Lt=> .lt | .LtE=> .le | .Gt=> .gt | .GtE=> .ge | .Is=> .isN | .IsNot=> .notN | .In=> .mem | .NotIn=> .nmem
def q8Q:Const->Option D
 | .none=>some .non | .bool b=>some (.bl b) | .int i=>some (.int i) | .str x=>if x.length<=1000 then some (.str x) else none|_=>none
def qB8 (x:Str):Str:=⟨#[33]++x.cps⟩
def Ct.inner (C:Ct) (ts:List Str) (sc:Scope):Ct :=
 {C with N:=ts++C.N.map (λ x=>if x∈ts then qB8 x else x),kinds:=sc.names,muts:=C.muts.filter (λ x=>!decide (x∈ts))}
noncomputable def Ct.scOk (C:Ct) (ts:List Str) (sc:Scope):Bool :=
 decide (sc.kind = .function)&&decide ((C.inner ts sc).N.Nodup)&&ts.all (λ x=>decide (sc.names.lookup x=some .local)) &&
 sc.names.all (λ y=>decide (y.2 ≠ .cell)&&(decide (y.2 ≠ .free) || decide (C.kinds.lookup y.1=some .cell) || decide (C.kinds.lookup y.1=some .free))&&(decide (y.2 ≠ .local) || decide (sc.names.lookup y.1=some .local))) &&
 C.N.all (λ y=>if y∈ts then decide (sc.names.lookup (qB8 y)=none) else decide (sc.names.lookup y≠some .local))
def Expr.isName:Expr->Option Str
 | .Name x _=>some x
 |_=>none
theorem q0E {e:Expr}{x:Str}(h:Expr.isName e=some x):∃q,e = .Name x q:=by
 unfold Expr.isName at h;split at h
 ·cases h;exact⟨_,rfl⟩
 ·cases h
def pair {α:Type}:List α->Option (α×α)
 |[a,b]=>some (a,b)
 |_=>none
theorem qFy {α:Type}{l:List α}{r:α×α}(h:pair l=some r):l=[r.1,r.2]:=by
 cases l with
 |nil=>cases h
 |cons a l=>cases l with
  |nil=>cases h
  |cons b l=>cases l with
   |nil=>cases h;rfl
   |cons _ _=>cases h
def tgs:Expr->Option (Nat×List Str)
 | .Name x _=>some (0,[x])
 | .Tuple xs _ _=>(pair xs).bind λ ab=>(Expr.isName ab.1).bind λ x=>(Expr.isName ab.2).map λ y=>(2,[x,y])
 |_=>none
noncomputable def bi1 (x:Str):Option Bi :=
 if x=Str.ofString "len" then some .len else if x=Str.ofString "sorted" then some .sorted else if x=Str.ofString "tuple" then some .tuple else if x=Str.ofString "list" then some .list
 else if x=Str.ofString "all" then some .all else none
noncomputable def isOf (C:Ct) (x:Str):Option Bi :=
 if C.glob x then
  if x=Str.ofString "tuple" then some .isTup else if x=Str.ofString "list" then some .isLst else if x=Str.ofString "int" then some .isInt else if x=Str.ofString "bool" then some .isBool
  else if x=Str.ofString "ValueError" then some .isVal else (ixOf x C.excs).map .isExc
 else none
def q8R:Expr->Bool
 | .BoolOp _ _ _=>true
 | .UnaryOp .Not _ _=>true
 |_=>false
def sole {α:Type}:List α->Option α
 |[a]=>some a
 |_=>none
theorem q17 {α:Type}{l:List α}{a:α}(h:sole l=some a):l=[a]:=by
 cases l with
 |nil=>cases h
 |cons b r=>cases r with
  |nil=>cases h;rfl
  |cons _ _=>cases h
def qEu:Option Expr->Option Nat
 |none=>some 0
 |_=>none
def qB9:Expr->Option (Str×List Expr)
 | .Call f args kws _=>if kws.isEmpty then (Expr.isName f).map λ f=>(f,args) else none
 |_=>none
theorem q6C {e:Expr}{f:Str}{args:List Expr}(h:qB9 e=some (f,args)):∃q pos,e = .Call (.Name f q) args [] pos:=by
 unfold qB9 at h;split at h
 ·split at h
  ·rename_i hk;obtain⟨x,e1,e2⟩:=oM h;obtain⟨q,rfl⟩:=q0E e1;cases e2;cases QO.mp hk;exact⟨_,_,rfl⟩
  ·cases h
 ·cases h
def qIZ (C:Ct) (e:Expr):Option (List Expr):=(qB9 e).bind λ y=>if y.1=Str.ofString "range"/\C.glob y.1/\ixOf y.1 C.funs=none then some y.2 else none
def q6D (e:Expr):Option (Str×Expr):=(qB9 e).bind λ y=>(sole y.2).map λ a=>(y.1,a)
theorem q41 {e:Expr}{g:Str}{a:Expr}(h:q6D e=some (g,a)):∃q pos,e = .Call (.Name g q) [a] [] pos:=by obtain⟨⟨f,as⟩,g1,h⟩:=oB h;obtain⟨b,g2,h⟩:=oM h;cases h;have z:as=[_]:=q17 g2;subst z;exact q6C g1
mutual
/-- a value -/
noncomputable def cE:Nat->Ct->Expr->Option L
 |0,_,_=>none
 |n+1,C,e=>match e with
  | .Constant c _ _=>(q8Q c).map .con
  | .Name x _=>if C.vis x then (if x∈C.muts then none else (ixOf x C.N).map .var) else if C.glob x then (C.consts.lookup x).map .con else none
  | .BinOp a op b _=>(opOf op).bind λ o=>(cB n C a).bind λ a=>(cB n C b).map (.op o a)
  | .Compare a ops bs _=>(sole ops).bind λ op=>(sole bs).bind λ b=>(cB n C a).bind λ a=>(cB n C b).map (.cm (cmOf op) a)
  | .UnaryOp op a _=>match op with
   | .Not=>(cB n C a).map .not
   | .USub=>(cE n C a).map .neg
   |_=>none
  | .BoolOp op xs _=>cBo n C op xs
  | .IfExp c a b _=>(cT n C c).bind λ c=>(cE n C a).bind λ a=>(cE n C b).map (.ite c a)
  | .Tuple xs _ _=>(cEs n C xs).map .tup
  | .List xs _=>(cEs n C xs).map .lst
  | .Subscript a i _=>match i with
   | .Slice lo hi st _=>(qEu st).bind λ k=>(cB n C a).bind λ a=>(cEs n C lo.toList).bind λ lo=>(cEs n C hi.toList).bind λ hi=>if k=0\/(lo.isEmpty/\hi.isEmpty) then some (.sl k a lo hi) else none
   |i=>(cB n C a).bind λ a=>(cE n C i).map (.idx a)
  | .Call g args kws cp=>match g with
   | .Name f _=>if C.glob f then (match ixOf f C.funs with
    |some i=>if kws.isEmpty/\¬args.isEmpty then (cEs n C args).map (.call i) else none
    |none=>if kws.isEmpty then qDQ n C f args else none)
    else none
   | .Attribute o m ap=>if kws.isEmpty/\ap.endLine==cp.line then (cB n C o).bind λ o=>if args.isEmpty then (if m=Str.ofString "bit_length" then some (.bi .bits [o]) else none) else (sole args).bind λ y=>match y with
    | .Constant c _ _=>(q8Q c).bind λ d=>if m=Str.ofString "count" then some (.bi .count [o,.con d]) else if m=Str.ofString "index" then some (.bi .index [o,.con d]) else none
    |_=>none
    else none
   |_=>none
  | .ListComp elt gs sc _=>(sole gs).bind λ g=>if g.is_async=0 then (tgs g.target).bind λ t=>(cI n C g.iter).bind λ it=>(cE n (C.inner t.2 sc) elt).bind λ elt=>(cTs n (C.inner t.2 sc) g.ifs).bind λ ifs=>if C.scOk t.2 sc&&decide (ifs.length<=1) then some (.comp t.1 elt it ifs) else none else none
  |_=>none
/-- a value that is looked at and not kept: an owned name may stand here -/
noncomputable def cB:Nat->Ct->Expr->Option L
 |0,_,_=>none
 |n+1,C,e=>match e with
  | .Name x p=>if C.vis x/\x∈C.muts then (ixOf x C.N).map .bor else cE n C (.Name x p)
  |e=>cE n C e
noncomputable def cEs:Nat->Ct->List Expr->Option (List L)
 |0,_,_=>none
 |_+1,_,[]=>some []
 |n+1,C,e::es=>(cE n C e).bind λ a=>(cEs n C es).map λ l=>a::l
noncomputable def cBo:Nat->Ct->BoolOp->List Expr->Option L
 |0,_,_,_=>none
 |n+1,C,_,[a]=>cE n C a
 |n+1,C,op,a::b::r=>(cE n C a).bind λ a=>(cBo n C op (b::r)).map λ b=>match op with | .And=> .and a b | .Or=> .or a b
 |_+1,_,_,[]=>none
noncomputable def cT:Nat->Ct->Expr->Option T
 |0,_,_=>none
 |n+1,C,e=>match e with
  | .BoolOp op xs _=>cTo n C op xs
  | .UnaryOp .Not a _=>(cT n C a).map .not
  | .IfExp _ _ _ _=>none
  |e=>(cB n C e).map .e
noncomputable def cTo:Nat->Ct->BoolOp->List Expr->Option T
 |0,_,_,_=>none
 |n+1,C,_,[a]=>cT n C a
 |n+1,C,op,a::b::r=>(cT n C a).bind λ a=>(cTo n C op (b::r)).map λ b=>match op with | .And=> .and a b | .Or=> .or a b
 |_+1,_,_,[]=>none
noncomputable def cTs:Nat->Ct->List Expr->Option (List T)
 |0,_,_=>none
 |_+1,_,[]=>some []
 |n+1,C,e::es=>(cT n C e).bind λ a=>(cTs n C es).map λ l=>a::l
noncomputable def cI:Nat->Ct->Expr->Option I
 |0,_,_=>none
 |n+1,C,e=>match qIZ C e with
  |some args=>if args.length=1\/args.length=2 then (cEs n C args).map .rng else none
  |none=>match Expr.isName e with
   |some x=>if C.vis x/\x∈C.muts then (ixOf x C.N).map .b else (cE n C e).map .e
   |none=>(cE n C e).map .e
noncomputable def qDQ:Nat->Ct->Str->List Expr->Option L
 |0,_,_,_=>none
 |n+1,C,f,args=>match args with
  |[y]=>match q6D y with
   |some (g,a)=>if f=Str.ofString "list"/\g=Str.ofString "range"/\C.glob g/\ixOf g C.funs=none then (cE n C a).map λ l=> .lrng [l] else if f=Str.ofString "sorted"/\g=Str.ofString "set"/\C.glob g/\ixOf g C.funs=none then (cB n C a).map λ a=> .bi .sortedSet [a]
    else (bi1 f).bind λ b=>(cB n C y).map λ a=> .bi b [a]
   |none=>(bi1 f).bind λ b=>(cB n C y).map λ a=> .bi b [a]
  |[a,y]=>if f=Str.ofString "isinstance" then (Expr.isName y).bind λ c=>(cB n C a).bind λ a=>(isOf C c).map λ b=> .bi b [a] else none
  |_=>none
end
def Ct.q8S (C:Ct):Expr->Bool
 | .Name x _=>decide (x∈C.muts)
 |_=>false
def qDR:Expr->Bool
 | .Constant (.str x) _ _=>decide (x.length<=1000)
 |_=>false
noncomputable def Ct.qFz (C:Ct):Expr->Bool
 | .FormattedValue e k sp _=>decide (k = -1)&&sp.isNone&&match Expr.isName e with
  |some y=>C.glob y&&match C.consts.lookup y with
   |some (.int a)=>decide (a.natAbs.log2<1920)&&decide ((Str.ofString (toString a)).length<=1000)
   |_=>false
  |none=>false
 |_=>false
def Ct.qDS (C:Ct):Expr->Bool
 | .JoinedStr xs _=>match xs with
  |a::b::r=>qDR a&&C.qFz b&&(match r with
   |[]=>true
   |[c]=>qDR c
   |_=>false)
  |_=>false
 |e=>qDR e
def qBA:Expr->Option (Expr×List Expr×List Keyword×Pos)
 | .Call f a k p=>some (f,a,k,p)
 |_=>none
theorem qBB {e:Expr}{r:Expr×List Expr×List Keyword×Pos}(h:qBA e=some r):e = .Call r.1 r.2.1 r.2.2.1 r.2.2.2:=by
 unfold qBA at h;split at h
 ·cases h;rfl
 ·cases h
def qBC (e:Expr):Option (Expr×Str×List Expr×Pos×Pos):=(qBA e).bind λ c=>if c.2.2.1.isEmpty then (match c.1 with
 | .Attribute o m ap=>some (o,m,c.2.1,ap,c.2.2.2)
 |_=>none) else none
theorem q7G {e o:Expr}{m:Str}{as:List Expr}{ap cp:Pos}(h:qBC e=some (o,m,as,ap,cp)):e = .Call (.Attribute o m ap) as [] cp:=by
 obtain⟨⟨f,a,k,p⟩,h1,h⟩:=oB h;rw[qBB h1];dsimp only at h |-;split at h
 ·rename_i hk;cases QO.mp hk;split at h
  ·cases h;rfl
  ·cases h
 ·cases h
def nilL:Expr->Bool
 | .List xs _=>xs.isEmpty
 |_=>false
noncomputable def deepOf:Expr->Option (Str×Str×Expr×Scope×Pos)
 | .ListComp elt gs sc vp=>if nilL elt then (sole gs).bind λ g=>if g.ifs.isEmpty/\g.is_async=0 then (Expr.isName g.target).bind λ t=>(q6D g.iter).map λ f=>(t,f.1,f.2,sc,vp) else none else none
 |_=>none
theorem qBD {v:Expr}{t g:Str}{a:Expr}{sc:Scope}{vp:Pos}(h:deepOf v=some (t,g,a,sc,vp)):∃q1 q2 q3 q4,v = .ListComp (.List [] q1) [⟨.Name t q2,.Call (.Name g q3) [a] [] q4,[],0⟩] sc vp:=by
 unfold deepOf at h;split at h
 ·split at h
  ·rename_i hn;obtain⟨⟨tg,it,ifs,k⟩,hg,h⟩:=oB h;dsimp only at h;split at h
   ·rename_i hc;obtain⟨x,h1,h⟩:=oB h;obtain⟨⟨f,b⟩,h2,h⟩:=oM h;cases h;obtain⟨q2,rfl⟩:=q0E h1;obtain⟨q3,q4,rfl⟩:=q41 h2;obtain⟨hc1,hc2⟩:=hc;rw[q17 hg,QO.mp hc1,hc2];unfold nilL at hn;split at hn
    ·rw[QO.mp hn];exact⟨_,_,_,_,rfl⟩
    ·cases hn
   ·cases h
  ·cases h
 ·cases h
noncomputable def qG0 (C:Ct) (fE:Expr->Option L) (x:Str) (xp:Pos) (i:Nat) (v:Expr):Option S:=(deepOf v).bind λ d=>if d.2.1=Str.ofString "range"/\C.glob d.2.1/\ixOf d.2.1 C.funs=none/\x∈C.muts/\C.scOk [d.1] d.2.2.2.1/\C.kinds.lookup x=some .local/\(xp.line==d.2.2.2.2.line)=true/\
 (d.2.2.2.1.names.any λ y=>y.1==x&&(y.2 == .local || y.2 == .cell))=false then (fE d.2.2.1).map (.setE i) else none
noncomputable def qIa (C:Ct) (fE:Expr->Option L) (fEs:List Expr->Option (List L)) (i:Nat):Expr->Option S
 | .Call g args kws _=>(Expr.isName g).bind λ f=>(ixOf f C.funs).bind λ j=>if j∈C.news/\C.glob f/\kws.isEmpty/\¬args.isEmpty then (fEs args).map (.setF i j) else none
 | .List xs _=>(fEs xs).map λ l=> .setO i (.lst l)
 | .Dict ks ws _=>(sole ks).bind λ k=>k.bind λ k=>(sole ws).bind λ w=>(fE k).bind λ k=>(fE w).map λ w=> .setO i (.dct k w)
 |_=>none
noncomputable def qG1 (C:Ct) (fE:Expr->Option L) (i:Nat) (v:Expr):Option S:=match qBC v with
 |some (o,m,as,ap,cp)=>(match Expr.isName o with
  |some y=>if y∈C.muts/\m=Str.ofString "pop" then (if as.isEmpty&&ap.endLine==cp.line&&q2a y then (C.loc y).map (.pop i) else none) else (fE v).map (.set i)
  |none=>(fE v).map (.set i))
 |none=>match Expr.isName v with
  |some y=>if y∈C.muts then none else (fE v).map (.set i)
  |none=>(fE v).map (.set i)
noncomputable def cAsg (C:Ct) (fE:Expr->Option L) (fEs:List Expr->Option (List L)) (ts:List Expr) (v:Expr):Option S:=(sole ts).bind λ t=>match t with
 | .Name x xp=>(C.loc x).bind λ i=>if x∈C.deep then qG0 C fE x xp i v else if x∈C.muts then qIa C fE fEs i v else qG1 C fE i v
 | .Subscript o k _=>(Expr.isName o).bind λ x=>if x∈C.muts/\q2a x then (C.loc x).bind λ i=>(fE k).bind λ k=>(fE v).map (.put i k) else none
 |_=>none
def cAug (C:Ct) (fE:Expr->Option L) (t:Expr) (op:Operator) (v:Expr):Option S:=(Expr.isName t).bind λ x=>if x∈C.muts then none else (C.loc x).bind λ i=>(opOf op).bind λ o=>(fE v).map (.aug i o)
noncomputable def cExt (C:Ct) (fEs:List Expr->Option (List L)) (x:Str) (as:List Expr):Option S:=(sole as).bind λ e=>(qB9 e).bind λ y=>(C.loc x).bind λ i=>(ixOf y.1 C.funs).bind λ j=>if j∈C.news/\C.glob y.1/\¬y.2.isEmpty then (fEs y.2).map (.extF i j) else none
noncomputable def qIb (C:Ct) (fE:Expr->Option L) (fEs:List Expr->Option (List L)) (m:Str) (as:List Expr) (ap cp:Pos):Expr->Option S
 | .Name x _=>if x∈C.muts/\(ap.endLine==cp.line)=true/\q2a x/\m=Str.ofString "extend" then cExt C fEs x as else if x∈C.muts/\(ap.endLine==cp.line)=true/\q2a x/\m=Str.ofString "append" then (sole as).bind λ a=>(C.loc x).bind λ i=>(fE a).map (.app i) else none
 | .Subscript o k _=>(Expr.isName o).bind λ x=>if (ap.endLine==cp.line)=true/\q2a x/\x∈C.deep/\x∈C.muts/\m=Str.ofString "append" then (sole as).bind λ a=>(C.loc x).bind λ i=>(fE k).bind λ k=>(fE a).map (.app2 i k) else none
 |_=>none
def qIc:Expr->Bool
 | .ListComp _ _ _ _=>true
 |_=>false
def qEv:Expr->Bool
 | .Constant c _ _=>match c with
  | .str _=>true
  |_=>false
 |_=>false
noncomputable def cExp (C:Ct) (fE:Expr->Option L) (fEs:List Expr->Option (List L)) (e:Expr):Option S:=if qEv e then some .pass else match qBC e with
 |some (o,m,as,ap,cp)=>qIb C fE fEs m as ap cp o
 |none=>if qIc e then none else (fE e).map .expr
noncomputable def cRet (C:Ct) (fE:Expr->Option L):Option Expr->Option S
 |some e=>(match Expr.isName e with
  |some x=>if x∈C.muts then (if C.nw then (C.loc x).map .retF else (C.loc x).map .retO) else (fE e).map .ret
  |none=>(fE e).map .ret)
 |none=>some .retN
def cRai (C:Ct) (a b:Option Expr):Option S:=a.bind λ e=>if b.isNone then (q6D e).bind λ c=>if C.glob c.1/\C.qDS c.2 then (ixOf c.1 C.excs).map .raise else none else none
def setN:Stmt->Option (Str×Str)
 | .Assign ts v _=>(sole ts).bind λ t=>(Expr.isName t).bind λ y=>(Expr.isName v).map λ x=>(y,x)
 |_=>none
theorem qG2 {s:Stmt}{r:Str×Str}(h:setN s=some r):∃q q2 pos,s = .Assign [.Name r.1 q] (.Name r.2 q2) pos:=by
 unfold setN at h;split at h
 ·obtain⟨t,h1,h⟩:=oB h;obtain⟨y,h2,h⟩:=oB h;obtain⟨x,h3,rfl⟩:=oM h;obtain⟨q,rfl⟩:=q0E h2;obtain⟨q2,rfl⟩:=q0E h3;rw[q17 h1];exact⟨_,_,_,rfl⟩
 ·cases h
noncomputable def cHan (C:Ct):ExceptHandler->Option (Nat×Nat×Nat)
 | .ExceptHandler ty nm b _=>ty.bind λ ty=>(Expr.isName ty).bind λ c=>nm.bind λ x=>(sole b).bind λ st=>(setN st).bind λ s=>if C.glob c/\q2a x/\x∉C.muts/\s.1∉C.muts/\s.2=x/\x≠s.1/\C.kinds.lookup x=some .local then (ixOf c C.excs).bind λ c=>(C.loc x).bind λ i=>(C.loc s.1).map λ j=>(c,i,j) else none
noncomputable def cTry (C:Ct) (fS:List Stmt->Option (List S)) (body:List Stmt) (hs:List ExceptHandler) (oe fb:List Stmt):Option S:=if oe.isEmpty/\fb.isEmpty then (sole hs).bind λ h=>(cHan C h).bind λ r=>(fS body).map λ b=> .tryE b r.1 r.2.1 r.2.2 else none
mutual
noncomputable def cS:Nat->Ct->Stmt->Option S
 |0,_,_=>none
 |n+1,C,s=>match s with
  | .Assign ts v _=>cAsg C (cE n C) (cEs n C) ts v
  | .AugAssign t op v _=>cAug C (cE n C) t op v
  | .Expr e _=>cExp C (cE n C) (cEs n C) e
  | .If c a b _=>(cT n C c).bind λ c=>(cSs n C a).bind λ a=>(cSs n C b).map (.ifs c a)
  | .For tg it body oe _=>if oe.isEmpty/\¬C.q8S it then (Expr.isName tg).bind λ x=>(cI n C it).bind λ it=>(cSs n C body).bind λ body=>(C.loc x).bind λ i=>if x∈C.muts then none else some (.forr 0 [i] it body) else none
  | .While c body oe _=>if oe.isEmpty then (cT n C c).bind λ c=>(cSs n C body).map (.whl c) else none
  | .Return r _=>cRet C (cE n C) r
  | .Break _=>some .brk
  | .Continue _=>some .cont
  | .Pass _=>some .pass
  | .Raise a b _=>cRai C a b
  | .Try body hs oe fb _=>cTry C (cSs n C) body hs oe fb
  |_=>none
noncomputable def cSs:Nat->Ct->List Stmt->Option (List S)
 |0,_,_=>none
 |_+1,_,[]=>some []
 |n+1,C,e::es=>(cS n C e).bind λ a=>(cSs n C es).map λ l=>a::l
end
end Ev
namespace Ev
open PySem
variable {a b:D}
theorem D.ind {P:D->Prop}{Q:List D->Prop}(hn:P .non) (hb:∀b,P (.bl b)) (hi:∀i,P (.int i)) (hs:∀x,P (.str x)) (ht:∀l,Q l->P (.tup l)) (hl:∀l,Q l->P (.lst l)) (hd:∀k v,Q k->Q v->P (.dct k v)) (he:∀c,P (.exc c))
  (q0:Q []) (q1:∀a l,P a->Q l->Q (a::l)):(∀d,P d)/\∀l,Q l :=
 ⟨λ d=>D.rec (motive_1:=P) (motive_2:=Q) hn hb hi hs ht hl hd he q0 q1 d,λ l=>D.rec_1 (motive_1:=P) (motive_2:=Q) hn hb hi hs ht hl hd he q0 q1 l⟩
theorem q3W {l:List D}:q09 (a::l)=true↔q02 a=true/\q09 l=true:=by simp[q09]
theorem q8T:(∀a b:D,q02 a=true->q02 b=true->(eqb a b=true↔a=b))/\(∀a b:List D,q09 a=true->q09 b=true->(eqbL a b=true↔a=b)):=by
 have:=D.ind (P:=λ a=>∀b,q02 a=true->q02 b=true->(eqb a b=true↔a=b)) (Q:=λ a=>∀b,q09 a=true->q09 b=true->(eqbL a b=true↔a=b))
  (λ b h=>by simp[q02] at h) (λ _ b h=>by simp[q02] at h) (λ i b h1 h2=>by cases b<;>simp_all [q02,eqb]) (λ _ b h=>by simp[q02] at h)
  (λ l ih b h1 h2=>by cases b<;>simp_all [q02,eqb])
  (λ _ _ b h=>by simp[q02] at h) (λ _ _ _ _ b h=>by simp[q02] at h) (λ _ b h=>by simp[q02] at h)
  (λ b h1 h2=>by cases b<;>simp[eqbL])
  (λ a l iha ihl b h1 h2=>by
   cases b with
   |nil=>simp[eqbL]
   |cons c m =>
    rw[q3W] at h1 h2;simp only[eqbL,Qd,List.cons.injEq];rw[iha c h1.1 h2.1,ihl m h1.2 h2.2])
 exact this
theorem q0Y (ha:q02 a=true) (hb:q02 b=true):eqb a b=true↔a=b:=q8T.1 a b ha hb
theorem q8U:(∀a:D,q02 a=true->ltb a a=false)/\(∀a:List D,q09 a=true->ltbL a a=false):=by
 refine D.ind (P:=λ a=>q02 a=true->ltb a a=false) (Q:=λ a=>q09 a=true->ltbL a a=false)
  (λ h=>by simp[q02] at h) (λ _ h=>by simp[q02] at h) (λ i h=>by simp[ltb]) (λ _ h=>by simp[q02] at h) (λ l ih h=>by simpa[ltb] using ih (by simpa[q02] using h))
  (λ _ _ h=>by simp[q02] at h) (λ _ _ _ _ h=>by simp[q02] at h) (λ _ h=>by simp[q02] at h) (λ _=>by simp[ltbL]) (λ a l iha ihl h=>?_)
 rw[q3W] at h;rw[ltbL,if_pos ((q0Y h.1 h.1).mpr rfl)];exact ihl h.2
theorem q8V (h:q02 a=true):ltb a a=false:=q8U.1 a h
theorem q8W:(∀a b:D,q02 a=true->q02 b=true->q0r a b=true->ltb a b=true\/a=b\/ltb b a=true)/\(∀a b:List D,q09 a=true->q09 b=true->q0w a b=true->ltbL a b=true\/a=b\/ltbL b a=true):=by
 refine D.ind (P:=λ a=>∀b,q02 a=true->q02 b=true->q0r a b=true->ltb a b=true\/a=b\/ltb b a=true) (Q:=λ a=>∀b,q09 a=true->q09 b=true->q0w a b=true->ltbL a b=true\/a=b\/ltbL b a=true)
  (λ b h=>by simp[q02] at h) (λ _ b h=>by simp[q02] at h) (λ i b h1 h2 c=>?_) (λ _ b h=>by simp[q02] at h) (λ l ih b h1 h2 c=>?_)
  (λ _ _ b h=>by simp[q02] at h) (λ _ _ _ _ b h=>by simp[q02] at h) (λ _ b h=>by simp[q02] at h) (λ b h1 h2 c=>by cases b<;>simp[ltbL]) (λ a l iha ihl b h1 h2 c=>?_)
 ·cases b<;>simp_all [q02,q0r,ltb];lia
 ·cases b<;>simp_all [q02,q0r,ltb]
 ·cases b with
  |nil=>simp[ltbL]
  |cons d m =>
   rw[q3W] at h1 h2;simp only[q0w] at c
   by_cases e:a=d
   ·subst e;have ee:eqb a a=true:=(q0Y h1.1 h1.1).mpr rfl;rw[ltbL,ltbL,if_pos ee,if_pos ee];rw[if_pos ee] at c;rcases ihl m h1.2 h2.2 c with q|q|q
    ·exact .inl q
    ·exact .inr (.inl (by rw[q]))
    ·exact .inr (.inr q)
   ·have e1:¬eqb a d=true:=λ q=>e ((q0Y h1.1 h2.1).mp q);have e2:¬eqb d a=true:=λ q=>e ((q0Y h2.1 h1.1).mp q).symm;rw[ltbL,ltbL,if_neg e1,if_neg e2];rw[if_neg e1] at c;rcases iha d h1.1 h2.1 c with q|q|q
    ·exact .inl q
    ·exact absurd q e
    ·exact .inr (.inr q)
theorem q8X (ha:q02 a=true) (hb:q02 b=true) (c:q0r a b=true):ltb a b=true\/a=b\/ltb b a=true:=q8W.1 a b ha hb c
theorem q6E:(∀a b c:D,q02 a=true->q02 b=true->q02 c=true->ltb a b=true->ltb b c=true->ltb a c=true)/\(∀a b c:List D,q09 a=true->q09 b=true->q09 c=true->ltbL a b=true->ltbL b c=true->ltbL a c=true):=by
 refine D.ind (P:=λ a=>∀b c,q02 a=true->q02 b=true->q02 c=true->ltb a b=true->ltb b c=true->ltb a c=true) (Q:=λ a=>∀b c,q09 a=true->q09 b=true->q09 c=true->ltbL a b=true->ltbL b c=true->ltbL a c=true)
  (λ b c h=>by simp[q02] at h) (λ _ b c h=>by simp[q02] at h) (λ i b c h1 h2 h3 p q=>?_) (λ _ b c h=>by simp[q02] at h) (λ l ih b c h1 h2 h3 p q=>?_)
  (λ _ _ b c h=>by simp[q02] at h) (λ _ _ _ _ b c h=>by simp[q02] at h) (λ _ b c h=>by simp[q02] at h) (λ b c h1 h2 h3 p q=>?_) (λ a l iha ihl b c h1 h2 h3 p q=>?_)
 ·cases b with
  |int j=>cases c with
   |int k =>
    have p':i<j:=(by simpa[ltb] using p);have q':j<k:=(by simpa[ltb] using q);have:i<k:=(by lia);simpa[ltb] using this
   |tup _=>cases (show false=true from q)
   |non=>cases (show false=true from q)
   |bl _=>cases (show false=true from q)
   |str _=>cases (show false=true from q)
   |lst _=>cases (show false=true from q)
   |dct _ _=>cases (show false=true from q)
   |exc _=>cases (show false=true from q)
  |tup _=>cases (show false=true from p)
  |non=>cases (show false=true from p)
  |bl _=>cases (show false=true from p)
  |str _=>cases (show false=true from p)
  |lst _=>cases (show false=true from p)
  |dct _ _=>cases (show false=true from p)
  |exc _=>cases (show false=true from p)
 ·cases b with
  |tup j=>cases c with
   |tup k=>exact ih j k (by simpa[q02] using h1) (by simpa[q02] using h2) (by simpa[q02] using h3) p q
   |int _=>cases (show false=true from q)
   |non=>cases (show false=true from q)
   |bl _=>cases (show false=true from q)
   |str _=>cases (show false=true from q)
   |lst _=>cases (show false=true from q)
   |dct _ _=>cases (show false=true from q)
   |exc _=>cases (show false=true from q)
  |int _=>cases (show false=true from p)
  |non=>cases (show false=true from p)
  |bl _=>cases (show false=true from p)
  |str _=>cases (show false=true from p)
  |lst _=>cases (show false=true from p)
  |dct _ _=>cases (show false=true from p)
  |exc _=>cases (show false=true from p)
 ·cases b with
  |nil=>simp[ltbL] at p
  |cons d m=>cases c with
   |nil=>simp[ltbL] at q
   |cons e n=>simp[ltbL]
 ·cases b with
  |nil=>simp[ltbL] at p
  |cons d m=>cases c with
   |nil=>simp[ltbL] at q
   |cons e n =>
    rw[q3W] at h1 h2 h3;rw[ltbL] at p q |-
    by_cases e1:a=d
    ·subst e1;rw[if_pos ((q0Y h1.1 h1.1).mpr rfl)] at p
     by_cases e2:a=e
     ·subst e2;have ee:=(q0Y h1.1 h1.1).mpr rfl;rw[if_pos ee] at q |-;exact ihl m n h1.2 h2.2 h3.2 p q
     ·have ne:¬eqb a e=true:=λ z=>e2 ((q0Y h1.1 h3.1).mp z);rw[if_neg ne] at q |-;exact q
    ·have ne1:¬eqb a d=true:=λ z=>e1 ((q0Y h1.1 h2.1).mp z);rw[if_neg ne1] at p
     by_cases e2:d=e
     ·subst e2;rw[if_neg ne1];exact p
     ·have ne2:¬eqb d e=true:=λ z=>e2 ((q0Y h2.1 h3.1).mp z);rw[if_neg ne2] at q;have r:=iha d e h1.1 h2.1 h3.1 p q
      by_cases e3:a=e
      ·subst e3;rw[q8V h1.1] at r;cases r
      ·have ne3:¬eqb a e=true:=λ z=>e3 ((q0Y h1.1 h3.1).mp z);rw[if_neg ne3];exact r
theorem q4x {c:D}(ha:q02 a=true) (hb:q02 b=true) (hc:q02 c=true) (p:ltb a b=true) (q:ltb b c=true):ltb a c=true:=q6E.1 a b c ha hb hc p q
theorem q6F (x:D):∀l:List D,(ins x l).Perm (x::l)
 |[]=> .refl _
 |y::l=>by
  unfold ins;split
  ·exact .refl _
  ·exact ((q6F x l).cons y).trans (.swap x y l)
theorem q18:∀l:List D,(q21 l).Perm l
 |[]=> .refl _
 |x::l=>(q6F x (q21 l)).trans ((q18 l).cons x)
theorem q0Q {l:List D}:q09 l=true↔∀d∈l,q02 d=true:=by
 induction l with
 |nil=>simp[q09]
 |cons a l ih=>rw[q3W,ih];simp
def Srt (l:List D):Prop:=l.Pairwise λ a b=>ltb b a=false
theorem qBE {x:D}:∀{l:List D},q02 x=true->(∀d∈l,q02 d=true)->Srt l->Srt (ins x l)
 |[],_,_,_=>by unfold ins;exact List.pairwise_singleton _ _
 |y::l,hx,hl,s=>by
  have s':=QF.mp s;unfold ins;split
  ·rename_i c;refine QF.mpr ⟨λ d hd=>?_,s⟩;rcases Qf.mp hd with rfl|hd
   ·cases q:ltb d x with
    |false=>rfl
    |true=>rw[<-q8V hx];exact (q4x hx (hl d Qb) hx c q).symm▸rfl
   ·cases q:ltb d x with
    |false=>rfl
    |true =>
     have r:=q4x (hl d (Qa _ hd)) hx (hl y Qb) q c;rw[s'.1 d hd] at r;cases r
  ·rename_i c;have hl':∀d∈l,q02 d=true:=λ d hd=>hl d (Qa _ hd);refine QF.mpr ⟨λ d hd=>?_,qBE hx hl' s'.2⟩;rcases Qf.mp ((q6F x l).mem_iff.mp hd) with rfl|hd
   ·simpa using c
   ·exact s'.1 d hd
theorem q24:∀{l:List D},(∀d∈l,q02 d=true)->Srt (q21 l)
 |[],_=>List.Pairwise.nil
 |x::l,h=>qBE (h x Qb) (λ d hd=>h d (Qa _ ((q18 l).mem_iff.mp hd))) (q24 λ d hd=>h d (Qa _ hd))
theorem q42:∀{l m:List D},l.Perm m->(∀d∈l,q02 d=true)->(∀a∈l,∀b∈l,q0r a b=true)->Srt l->Srt m->l=m
 |[],m,p,_,_,_,_=>(List.Perm.nil_eq p)
 |a::l,[],p,_,_,_,_=>absurd p.length_eq (by simp)
 |a::l,b::m,p,h,c,s1,s2=>by
  have s1':=QF.mp s1;have s2':=QF.mp s2;have hb:b∈a::l:=p.mem_iff.mpr Qb;have ha:a∈b::m:=p.mem_iff.mp Qb;have e:a=b:=by
   rcases Qf.mp hb with q|q
   ·exact q.symm
   ·rcases Qf.mp ha with r|r
    ·exact r
    ·have z1:=s1'.1 b q;have z2:=s2'.1 a r;rcases q8X (h a Qb) (h b hb) (c a Qb b hb) with t|t|t
     ·rw[z2] at t;cases t
     ·exact t
     ·rw[z1] at t;cases t
  subst e;have p':l.Perm m:=p.cons_inv;rw[q42 p' (λ d hd=>h d (Qa _ hd)) (λ x hx y hy=>c x (Qa _ hx) y (Qa _ hy)) s1'.2 s2'.2]
end Ev
namespace Ev
open PySem
section
variable {G:Nat->List D->R D}{sub:Nat->Nat->Bool}
@[simp] theorem q1U (i:Nat) (ρ:Env):ev G sub (.var i) ρ=getV ρ i:=rfl
@[simp] theorem qEw (i:Nat) (ρ:Env):ev G sub (.bor i) ρ=getB ρ i:=rfl
@[simp] theorem q0I (d:D) (ρ:Env):ev G sub (.con d) ρ = .ok d:=rfl
@[simp] theorem q0m (o:Op2) (a b:L) (ρ:Env):ev G sub (.op o a b) ρ=(ev G sub a ρ).bind λ x=>(ev G sub b ρ).bind λ y=>opD o x y:=rfl
@[simp] theorem qAU (o:Cm) (a b:L) (ρ:Env):ev G sub (.cm o a b) ρ=(ev G sub a ρ).bind λ x=>(ev G sub b ρ).bind λ y=>cmD o x y:=rfl
@[simp] theorem qId (a:L) (ρ:Env):ev G sub (.neg a) ρ=(ev G sub a ρ).bind λ x=>match x with
   | .int i=> .ok (.int (-i))
   |_=> .stuck:=rfl
@[simp] theorem qIe (a:L) (ρ:Env):ev G sub (.not a) ρ=(ev G sub a ρ).bind λ x=>(tr x).bind λ b=> .ok (.bl (!b)):=rfl
@[simp] theorem qIf (a b:L) (ρ:Env):ev G sub (.and a b) ρ=(ev G sub a ρ).bind λ x=>match x with
   | .bl true=>ev G sub b ρ
   | .bl false=> .ok (.bl false)
   |_=> .stuck:=rfl
@[simp] theorem qL9 (a b:L) (ρ:Env):ev G sub (.or a b) ρ=(ev G sub a ρ).bind λ x=>match x with
   | .bl true=> .ok (.bl true)
   | .bl false=>ev G sub b ρ
   |_=> .stuck:=rfl
@[simp] theorem q9F (c:T) (a b:L) (ρ:Env):ev G sub (.ite c a b) ρ=(tst G sub c ρ).bind λ t=>if t then ev G sub a ρ else ev G sub b ρ:=rfl
@[simp] theorem qBF (xs:List L) (ρ:Env):ev G sub (.tup xs) ρ=(evs G sub xs ρ).bind λ ds=>if ds.length<=big then .ok (.tup ds) else .stuck:=rfl
@[simp] theorem q7H (xs:List L) (ρ:Env):ev G sub (.lst xs) ρ=(evs G sub xs ρ).bind λ ds=>if ds.length<=big then .ok (.lst ds) else .stuck:=rfl
@[simp] theorem qIg (k v:L) (ρ:Env):ev G sub (.dct k v) ρ=(ev G sub k ρ).bind λ x=>(ev G sub v ρ).bind λ y=>match x with
   | .int i=> .ok (.dct [.int i] [y])
   |_=> .stuck:=rfl
@[simp] theorem q25 (a i:L) (ρ:Env):ev G sub (.idx a i) ρ=(ev G sub a ρ).bind λ x=>(ev G sub i ρ).bind λ y=>idxD x y:=rfl
@[simp] theorem qG3 (st:Nat) (a:L) (lo hi:List L) (ρ:Env):ev G sub (.sl st a lo hi) ρ=(ev G sub a ρ).bind λ x=>(evs G sub lo ρ).bind λ l=>(evs G sub hi ρ).bind λ h=>(optI l).bind λ l=>(optI h).bind λ h=>slD st l h x:=rfl
@[simp] theorem q0h (f:Nat) (xs:List L) (ρ:Env):ev G sub (.call f xs) ρ=(evs G sub xs ρ).bind λ ds=>G f ds:=rfl
@[simp] theorem q1P (b:Bi) (xs:List L) (ρ:Env):ev G sub (.bi b xs) ρ=(evs G sub xs ρ).bind λ ds=>biD sub b ds:=rfl
@[simp] theorem q0i (k:Nat) (elt:L) (it:I) (cond:List T) (ρ:Env):ev G sub (.comp k elt it cond) ρ=(evi G sub it ρ).bind λ ds=>(q0O (ev G sub elt) (tsts G sub cond) k ρ ds).q6B.bind λ es=>if es.length<=big then .ok (.lst es) else .stuck:=rfl
@[simp] theorem qLA (a:L) (f:Nat) (ρ:Env):ev G sub (.skey a f) ρ=(ev G sub a ρ).bind λ d=>(q0W d).bind λ xs=>(mapR (λ x=>G f [x]) xs).q6B.bind λ ks =>
   if q1h ks then .ok (.lst ((q7F (ks.zip xs)).map (·.2))) else .stuck:=rfl
@[simp] theorem qBG (xs:List L) (ρ:Env):ev G sub (.lrng xs) ρ=(evs G sub xs ρ).bind λ ds=>(rngD ds).bind λ is=>if is.length<=big then .ok (.lst is) else .stuck:=rfl
@[simp] theorem q0n (ρ:Env):evs G sub [] ρ = .ok []:=rfl
@[simp] theorem q0D (a:L) (l:List L) (ρ:Env):evs G sub (a::l) ρ=(ev G sub a ρ).bind λ x=>(evs G sub l ρ).bind λ xs=> .ok (x::xs):=rfl
@[simp] theorem q1Q (xs:List L) (ρ:Env):evi G sub (.rng xs) ρ=(evs G sub xs ρ).bind rngD:=rfl
@[simp] theorem qIh (i:Nat) (ρ:Env):evi G sub (.b i) ρ=(getB ρ i).bind q1v:=rfl
@[simp] theorem q7I (a:L) (ρ:Env):evi G sub (.e a) ρ=(ev G sub a ρ).bind q0W:=rfl
@[simp] theorem q43 (a b:T) (ρ:Env):tst G sub (.and a b) ρ=(tst G sub a ρ).bind λ t=>if t then tst G sub b ρ else .ok false:=rfl
@[simp] theorem qEx (a b:T) (ρ:Env):tst G sub (.or a b) ρ=(tst G sub a ρ).bind λ t=>if t then .ok true else tst G sub b ρ:=rfl
@[simp] theorem q8Y (a:T) (ρ:Env):tst G sub (.not a) ρ=(tst G sub a ρ).bind λ t=> .ok (!t):=rfl
@[simp] theorem q7J (a:L) (ρ:Env):tst G sub (.e a) ρ=(ev G sub a ρ).bind tr:=rfl
@[simp] theorem q15 (ρ:Env):tsts G sub [] ρ = .ok true:=rfl
@[simp] theorem q0c (a:T) (l:List T) (ρ:Env):tsts G sub (a::l) ρ=(tst G sub a ρ).bind λ t=>if t then tsts G sub l ρ else .ok false:=rfl
@[simp] theorem q0F (i:Nat) (a:L) (ρ:Env):ex G sub (.set i a) ρ=(ev G sub a ρ).go ρ λ d=> .ok (ρ.set i (some (.val d))) .nx:=rfl
@[simp] theorem q3C (i:Nat) (a:L) (ρ:Env):ex G sub (.setO i a) ρ=(ev G sub a ρ).go ρ λ d=> .ok (ρ.set i (some (.own d))) .nx:=rfl
@[simp] theorem qLB (is:List Nat) (a:L) (ρ:Env):ex G sub (.setT is a) ρ=(ev G sub a ρ).go ρ λ d=>(unp is.length d).go ρ λ xs=> .ok (q33 is xs ρ) .nx:=rfl
@[simp] theorem qIi (i:Nat) (o:Op2) (a:L) (ρ:Env):ex G sub (.aug i o a) ρ=(getV ρ i).go ρ λ x=>(ev G sub a ρ).go ρ λ y=>(augD o x y).go ρ λ z=> .ok (ρ.set i (some (.val z))) .nx:=rfl
@[simp] theorem q7K (i:Nat) (a:L) (ρ:Env):ex G sub (.app i a) ρ=match ρ[i]? with
   |some (some (.own (.lst xs)))=>(ev G sub a ρ).go ρ λ d=>if xs.length<big then .ok (ρ.set i (some (.own (.lst (xs++[d]))))) .nx else .stuck
   |_=> .stuck:=rfl
@[simp] theorem ex_ext (i:Nat) (a:L) (ρ:Env):ex G sub (.ext i a) ρ=match ρ[i]? with
   |some (some (.own (.lst xs)))=>(ev G sub a ρ).go ρ λ d=>match d with
     | .lst ys=>if xs.length+ys.length<=big then .ok (ρ.set i (some (.own (.lst (xs++ys))))) .nx else .stuck
     |_=> .stuck
   |_=> .stuck:=rfl
@[simp] theorem ex_pop (j i:Nat) (ρ:Env):ex G sub (.pop j i) ρ=match ρ[i]? with
   |some (some (.own (.lst xs)))=>match xs.getLast? with
     |some d=> .ok ((ρ.set i (some (.own (.lst xs.dropLast)))).set j (some (.val d))) .nx
     |none=> .stuck
   |_=> .stuck:=rfl
@[simp] theorem qEy (i:Nat) (k v:L) (ρ:Env):ex G sub (.put i k v) ρ=match ρ[i]? with
   |some (some (.own (.dct ks vs)))=>(ev G sub v ρ).go ρ λ y=>(ev G sub k ρ).go ρ λ x=>match x with
     | .int n=>if ks.length<big then (put n y ks vs).go ρ λ r=> .ok (ρ.set i (some (.own (.dct r.1 r.2)))) .nx else .stuck
     |_=> .stuck
   |_=> .stuck:=rfl
@[simp] theorem qG4 (i:Nat) (a:L) (ρ:Env):ex G sub (.setE i a) ρ=(ev G sub a ρ).go ρ λ d=>match d with
   | .int n=>if 0<=n/\n<=1000 then .ok (ρ.set i (some (.own2 (Qe n.toNat [])))) .nx else .stuck
   |_=> .stuck:=rfl
@[simp] theorem qG5 (i:Nat) (k a:L) (ρ:Env):ex G sub (.app2 i k a) ρ=match ρ[i]? with
   |some (some (.own2 xss))=>(ev G sub k ρ).go ρ λ x=>match x with
     | .int n=>if 0<=n then (match xss[n.toNat]? with
       |some ys=>(ev G sub a ρ).go ρ λ d=>if ys.length<big then .ok (ρ.set i (some (.own2 (xss.set n.toNat (ys++[d]))))) .nx else .stuck
       |none=> .stuck) else .stuck
     |_=> .stuck
   |_=> .stuck:=rfl
@[simp] theorem ex_frz (i j:Nat) (ρ:Env):ex G sub (.frz i j) ρ=match ρ[j]? with
   |some (some (.own (.lst xs)))=>if i=j then .stuck else .ok ((ρ.set j (some (.val (.lst xs)))).set i (some (.val (.lst xs)))) .nx
   |_=> .stuck:=rfl
@[simp] theorem q8Z (a:L) (ρ:Env):ex G sub (.expr a) ρ=(ev G sub a ρ).go ρ λ _=> .ok ρ .nx:=rfl
@[simp] theorem q4y (c:T) (a b:List S) (ρ:Env):ex G sub (.ifs c a b) ρ=(tst G sub c ρ).go ρ λ t=>if t then exs G sub a ρ else exs G sub b ρ:=rfl
@[simp] theorem q2E (k:Nat) (is:List Nat) (it:I) (body:List S) (ρ:Env):ex G sub (.forr k is it body) ρ=(evi G sub it ρ).go ρ λ ds=>q1D (exs G sub body) k is ds ρ:=rfl
@[simp] theorem q5i (c:T) (body:List S) (ρ:Env):ex G sub (.whl c body) ρ=q0x (tst G sub c) (exs G sub body) 100000 ρ:=rfl
@[simp] theorem q34 (a:L) (ρ:Env):ex G sub (.ret a) ρ=(ev G sub a ρ).go ρ λ d=> .ok ρ (.ret d):=rfl
@[simp] theorem qLC (ρ:Env):ex G sub .retN ρ = .ok ρ (.ret .non):=rfl
@[simp] theorem q8a (i:Nat) (ρ:Env):ex G sub (.retO i) ρ=match ρ[i]? with
   |some (some (.own d))=> .ok (ρ.set i none) (.ret d)
   |some (some (.own2 xss))=> .ok (ρ.set i none) (.ret (.lst (xss.map .lst)))
   |_=> .stuck:=rfl
@[simp] theorem ex_brk (ρ:Env):ex G sub .brk ρ = .ok ρ .brk:=rfl
@[simp] theorem qLD (ρ:Env):ex G sub .cont ρ = .ok ρ .cont:=rfl
@[simp] theorem qLE (ρ:Env):ex G sub .pass ρ = .ok ρ .nx:=rfl
@[simp] theorem qKo (c:Nat) (ρ:Env):ex G sub (.raise c) ρ = .err c ρ:=rfl
@[simp] theorem q8b (i:Nat) (ρ:Env):ex G sub (.retF i) ρ=match ρ[i]? with
   |some (some (.own (.lst xs)))=> .ok (ρ.set i none) (.retN (.lst xs))
   |_=> .stuck:=rfl
@[simp] theorem qBH (i f:Nat) (args:List L) (ρ:Env):ex G sub (.setF i f args) ρ=(evs G sub args ρ).go ρ λ ds=>(G f ds).go ρ λ d=>match d with
   | .lst xs=> .ok (ρ.set i (some (.own (.lst xs)))) .nx
   |_=> .stuck:=rfl
@[simp] theorem qBI (i f:Nat) (args:List L) (ρ:Env):ex G sub (.extF i f args) ρ=match ρ[i]? with
   |some (some (.own (.lst xs)))=>(evs G sub args ρ).go ρ λ ds=>(G f ds).go ρ λ d=>match d with
    | .lst ys=>if xs.length+ys.length<=big then .ok (ρ.set i (some (.own (.lst (xs++ys))))) .nx else .stuck
    |_=> .stuck
   |_=> .stuck:=rfl
@[simp] theorem qLF (body:List S) (c i j:Nat) (ρ:Env):ex G sub (.tryE body c i j) ρ=match exs G sub body ρ with
   | .err e ρ'=>if sub e c then .ok ((ρ'.set j (some (.val (.exc e)))).set i none) .nx else .stuck
   |r=>r:=rfl
@[simp] theorem q0L (ρ:Env):exs G sub [] ρ = .ok ρ .nx:=rfl
@[simp] theorem q0s (s:S) (l:List S) (ρ:Env):exs G sub (s::l) ρ=(ex G sub s ρ).nx λ ρ'=>exs G sub l ρ':=rfl
end
end Ev
namespace Ev
open PySem
def nI (t:Nat):D:= .int (t:Int)
def nL (l:List Nat):List D:=l.map nI
@[simp] theorem nL_nil:nL []=[]:=rfl
@[simp] theorem q1J (a:Nat) (l:List Nat):nL (a::l)=nI a::nL l:=rfl
@[simp] theorem q4z (a b:List Nat):nL (a++b)=nL a++nL b:=Jt
@[simp] theorem q0X (l:List Nat):(nL l).length=l.length:=Qh _
@[simp] theorem qBJ (a b:Nat):nI a=nI b↔a=b:=by unfold nI;simp;lia
theorem qIj {a b:List Nat}:nL a=nL b↔a=b:=by unfold nL;exact⟨λ h=>(List.map_inj_right (λ x y e=>(qBJ x y).mp e)).mp h,λ h=>by rw[h]⟩
@[simp] theorem add_n (a b:Nat):opD .add (nI a) (nI b) = .ok (nI (a+b)):=rfl
@[simp] theorem qIk (a b:Nat) (ha:a<2^62) (hb:b<=1000):opD .shl (nI a) (nI b) = .ok (nI (a <<< b)):=by unfold nI;rw[q7E _ (by decide) (by decide)];unfold opI;dsimp only;rw[if_pos (by lia)];rfl
@[simp] theorem shr_n (a b:Nat):opD .shr (nI a) (nI b) = .ok (nI (a >>> b)):=by unfold nI;rw[q7E _ (by decide) (by decide)];unfold opI;dsimp only;rw[if_pos (by lia)];rfl
@[simp] theorem band_n (a b:Nat):opD .band (nI a) (nI b) = .ok (nI (a &&& b)):=by unfold nI;rw[q7E _ (by decide) (by decide)];unfold opI;dsimp only;rw[if_pos (by lia)];rfl
@[simp] theorem qIl (a b:Nat):opD .bor (nI a) (nI b) = .ok (nI (a ||| b)):=by unfold nI;rw[q7E _ (by decide) (by decide)];unfold opI;dsimp only;rw[if_pos (by lia)];rfl
@[simp] theorem qEz (a b:Nat):opD .bxor (nI a) (nI b) = .ok (nI (a ^^^ b)):=by unfold nI;rw[q7E _ (by decide) (by decide)];unfold opI;dsimp only;rw[if_pos (by lia)];rfl
theorem qIm (a b:Nat) (h:b<=a):opD .sub (nI a) (nI b) = .ok (nI (a-b)):=by unfold nI;rw[q7E _ (by decide) (by decide)];unfold opI;dsimp only;congr 2;lia
@[simp] theorem qBK (a b:Nat) (h:0<b):opD .mod (nI a) (nI b) = .ok (nI (a % b)):=by unfold nI;rw[q7E _ (by decide) (by decide)];unfold opI;dsimp only;rw[if_pos (by lia)];rfl
@[simp] theorem qF0 (a b:Nat) (h:0<b) (h2:b<1073741824):opD .fdiv (nI a) (nI b) = .ok (nI (a / b)):=by unfold nI;rw[q7E _ (by decide) (by decide)];unfold opI;dsimp only;rw[if_pos (by lia)];rfl
@[simp] theorem pl_n (a:Nat):pl (nI a)=true:=rfl
@[simp] theorem pl_int (a:Int):pl (.int a)=true:=rfl
@[simp] theorem qIn (a:Bool):pl (.bl a)=true:=rfl
@[simp] theorem pl_str (a:Str):pl (.str a)=true:=rfl
@[simp] theorem pl_non:pl .non=true:=rfl
@[simp] theorem plN_n (k a:Nat):plN k (nI a)=true:=by cases k<;>rfl
@[simp] theorem qLG (k:Nat) (a:Int):plN k (.int a)=true:=by cases k<;>rfl
@[simp] theorem plN_bl (k:Nat) (a:Bool):plN k (.bl a)=true:=by cases k<;>rfl
@[simp] theorem qLH (k:Nat) (a:Str):plN k (.str a)=true:=by cases k<;>rfl
@[simp] theorem qLI (k:Nat):plN k .non=true:=by cases k<;>rfl
@[simp] theorem q1j (k:Nat) (l:List D):plN (k+1) (.tup l)=l.all (plN k):=by simp[plN]
@[simp] theorem q3D (k:Nat) (l:List D):plN (k+1) (.lst l)=l.all (plN k):=by simp[plN]
@[simp] theorem all_n (k:Nat) (l:List Nat):(nL l).all (plN k)=true:=by simp[nL]
@[simp] theorem qDT (l:List Nat):pl (.tup (nL l))=true:=by unfold pl;simp
@[simp] theorem qG6 (l:List Nat):pl (.lst (nL l))=true:=by unfold pl;simp
@[simp] theorem qLJ:plL []=true:=rfl
@[simp] theorem qKp (a:D) (l:List D):plL (a::l)=(pl a&&plL l):=rfl
theorem q1R {l:List D}:plL l=true↔∀d∈l,pl d=true:=by unfold plL;simp
@[simp] theorem qIo (l:List Nat):plL (nL l)=true:=q1R.mpr λ d hd=>by obtain⟨a,_,rfl⟩:=Qq.mp hd;rfl
@[simp] theorem qLK (a b:Nat):eqb (nI a) (nI b)=decide (a=b):=by
 have:eqb (.int (a:Int)) (.int (b:Int))=decide ((a:Int)=b):=by simp[eqb]
 rw[nI,nI,this];exact decide_eq_decide.mpr (by lia)
@[simp] theorem q8c (a:Nat):q02 (nI a)=true:=by simp[nI,q02]
@[simp] theorem qBL (l:List Nat):q09 (nL l)=true:=q0Q.mpr λ d hd=>by obtain⟨a,_,rfl⟩:=Qq.mp hd;exact q8c a
@[simp] theorem qF1 (l:List Nat):q02 (.tup (nL l))=true:=by simp[q02]
@[simp] theorem q7L (a b:List Nat):eqb (.tup (nL a)) (.tup (nL b))=decide (a=b):=by rw[QB,q0Y (qF1 a) (qF1 b)];simp[qIj]
@[simp] theorem lt_n (a b:Nat):cmD .lt (nI a) (nI b) = .ok (.bl (decide (a<b))):=by simp[nI,cmD,q0r,ltb,pl,q02]
@[simp] theorem ge_n (a b:Nat):cmD .ge (nI a) (nI b) = .ok (.bl (decide (b<=a))):=by simp[nI,cmD,q0r,ltb,pl,q02];rw[QB];simp
@[simp] theorem gt_n (a b:Nat):cmD .gt (nI a) (nI b) = .ok (.bl (decide (b<a))):=by simp[nI,cmD,intD]
@[simp] theorem le_n (a b:Nat):cmD .le (nI a) (nI b) = .ok (.bl (decide (a<=b))):=by simp[nI,cmD,intD]
@[simp] theorem eq_n (a b:Nat):cmD .eq (nI a) (nI b) = .ok (.bl (decide (a=b))):=by simp[cmD]
@[simp] theorem ne_n (a b:Nat):cmD .ne (nI a) (nI b) = .ok (.bl (!decide (a=b))):=by simp[cmD]
@[simp] theorem qDU (b:Bool):tr (.bl b) = .ok b:=rfl
@[simp] theorem qIp (l:List D):tr (.lst l) = .ok (!l.isEmpty):=rfl
@[simp] theorem tr_tup (l:List D):tr (.tup l) = .ok (!l.isEmpty):=rfl
@[simp] theorem q3X (l:List D):q0W (.lst l) = .ok l:=rfl
@[simp] theorem qAV (l:List D):q1v (.lst l) = .ok l:=rfl
@[simp] theorem qHz (l:List D):q1v (.tup l) = .ok l:=rfl
@[simp] theorem qIq (l:List D):q0W (.tup l) = .ok l:=rfl
theorem qF2:∀l:List Nat,ints? (nL l)=some (l.map λ (a:Nat)=>(a:Int))
 |[]=>rfl
 |a::l=>by simp[ints?,nI,qF2 l]
@[simp] theorem qBM (k:List Nat) (v:List D):q0W (.dct (nL k) v) = .ok (nL k):=by simp[q0W,qF2]
theorem num0:D.int 0=nI 0:=rfl
theorem num1:D.int 1=nI 1:=rfl
theorem num2:D.int 2=nI 2:=rfl
theorem num10:D.int 10=nI 10:=rfl
theorem qLL:D.int 1300=nI 1300:=rfl
@[simp] theorem q4Y (j:Nat) (h:j<2^62):rngD [nI j] = .ok (nL (Qg j)):=by unfold rngD nI;simp only;rw[if_pos (by lia)];simp[nL,nI]
@[simp] theorem unp0 (d:D):unp 0 d = .ok [d]:=rfl
@[simp] theorem unp2 (a b:D):unp 2 (.tup [a,b]) = .ok [a,b]:=rfl
@[simp] theorem qLM (i:Nat) (d:D) (ρ:Env):q33 [i] [d] ρ=ρ.set i (some (.val d)):=rfl
@[simp] theorem qLN (i j:Nat) (d e:D) (ρ:Env):q33 [i,j] [d,e] ρ=(ρ.set i (some (.val d))).set j (some (.val e)):=rfl
@[simp] theorem qDV:vals []=[]:=rfl
@[simp] theorem qBN (d:D) (l:List D):vals (d::l)=some (.val d)::vals l:=rfl
@[simp] theorem qI0 (elt:Env->R D) (cond:Env->R Bool) (k:Nat) (ρ:Env):q0O elt cond k ρ [] = .ok []:=rfl
theorem q50 {elt:Env->R D}{cond:Env->R Bool}{k:Nat}{ρ:Env}{g:D->D}{p:D->Bool}:∀{ds:List D},
  (∀d∈ds,∃xs,unp k d = .ok xs/\cond (vals xs++ρ) = .ok (p d)/\(p d=true->elt (vals xs++ρ) = .ok (g d)))->q0O elt cond k ρ ds = .ok ((ds.filter p).map g)
 |[],_=>rfl
 |d::ds,h=>by
  obtain⟨xs,h1,h2,h3⟩:=h d Qb;have ih:=q50 (elt:=elt) (cond:=cond) (k:=k) (ρ:=ρ) (g:=g) (p:=p) (ds:=ds) λ e he=>h e (Qa _ he);unfold q0O;rw[h1,q00,h2,q00];cases hp:p d with
  |true=>rw[if_pos rfl,h3 hp,q00,ih];simp[QS,hp]
  |false=>rw[if_neg (by simp),ih];simp[QS,hp]
@[simp] theorem q9G (ρ:Env) (i:Nat):getV ρ i=match ρ[i]? with
 |some (some (.val d))=> .ok d
 |_=> .stuck:=rfl
@[simp] theorem qKq (ρ:Env) (i:Nat):getB ρ i=match ρ[i]? with
 |some (some (.val d))=> .ok d
 |some (some (.own d))=> .ok d
 |_=> .stuck:=rfl
@[simp] theorem qIr (o:Op2) (a b:Nat):augD o (nI a) (nI b)=opD o (nI a) (nI b):=rfl
theorem q0K:big=1000000:=rfl
theorem q1k (body:Env->RS) (k:Nat) (is:List Nat) (ρ:Env):q1D body k is [] ρ = .ok ρ .nx:=rfl
theorem q0R (body:Env->RS) (i:Nat) (d:D) (ds:List D) (ρ:Env):q1D body 0 [i] (d::ds) ρ=(body (ρ.set i (some (.val d)))).turn λ ρ'=>q1D body 0 [i] ds ρ':=rfl
theorem qIs (body:Env->RS) (i j:Nat) (a b:D) (ds:List D) (ρ:Env):q1D body 2 [i,j] (.tup [a,b]::ds) ρ=(body ((ρ.set i (some (.val a))).set j (some (.val b)))).turn λ ρ'=>q1D body 2 [i,j] ds ρ':=rfl
theorem q1e (c:Env->R Bool) (body:Env->RS) (n:Nat) (ρ:Env):q0x c body (n+1) ρ=(c ρ).go ρ λ t=>if t then (body ρ).turn λ ρ'=>q0x c body n ρ' else .ok ρ .nx:=rfl
section
variable {sub:Nat->Nat->Bool}
@[simp] theorem q26 (xs:List D):biD sub .len [.lst xs] = .ok (nI xs.length):=rfl
@[simp] theorem qI1 (xs:List D):biD sub .len [.tup xs] = .ok (nI xs.length):=rfl
@[simp] theorem qI2 (ks vs:List D):biD sub .len [.dct ks vs] = .ok (nI ks.length):=rfl
@[simp] theorem q1w (xs:List D):biD sub .tuple [.lst xs] = .ok (.tup xs):=rfl
@[simp] theorem qF3 (xs:List D):biD sub .tuple [.tup xs] = .ok (.tup xs):=rfl
@[simp] theorem q51 (xs:List D):biD sub .list [.lst xs] = .ok (.lst xs):=rfl
@[simp] theorem q8d (xs:List D):biD sub .list [.tup xs] = .ok (.lst xs):=rfl
@[simp] theorem qKr (sub:Nat->Nat->Bool) (l:List D):biD sub .isTup [.tup l] = .ok (.bl true):=rfl
@[simp] theorem qKs (sub:Nat->Nat->Bool) (l:List D):biD sub .isLst [.lst l] = .ok (.bl true):=rfl
@[simp] theorem qKt (sub:Nat->Nat->Bool) (i:Int):biD sub .isInt [.int i] = .ok (.bl true):=rfl
@[simp] theorem qIt (sub:Nat->Nat->Bool) (i:Nat):biD sub .isInt [nI i] = .ok (.bl true):=rfl
@[simp] theorem qIu (sub:Nat->Nat->Bool) (i:Int):biD sub .isBool [.int i] = .ok (.bl false):=rfl
@[simp] theorem qI3 (sub:Nat->Nat->Bool) (i:Nat):biD sub .isBool [nI i] = .ok (.bl false):=rfl
@[simp] theorem qI4 (sub:Nat->Nat->Bool) (b:Bool):biD sub .isBool [.bl b] = .ok (.bl true):=rfl
@[simp] theorem qKu (sub:Nat->Nat->Bool) (e:Nat):biD sub .isVal [.exc e] = .ok (.bl true):=rfl
@[simp] theorem qKv (sub:Nat->Nat->Bool) (c e:Nat):biD sub (.isExc c) [.exc e] = .ok (.bl (sub e c)):=rfl
@[simp] theorem qBO (d:D):biD sub .sorted [d]=(q0W d).bind λ xs=>if q1h xs then .ok (.lst (q21 xs)) else .stuck:=rfl
@[simp] theorem q4Z (d:D):biD sub .sortedSet [d]=(q1v d).bind λ xs=>if q09 xs&&plL xs&&decide (xs.length<=1000)&&q1h (dedup xs) then .ok (.lst (q21 (dedup xs))) else .stuck:=rfl
@[simp] theorem qF4 (xs:List D):biD sub .all [.lst xs]=match bools? xs with
   |some bs=> .ok (.bl (bs.all id))
   |none=> .stuck:=rfl
@[simp] theorem qKw (xs:List D) (x:D):biD sub .count [.lst xs,x]=if pl x&&plL xs then .ok (.int ((xs.filter λ y=>eqb y x).length)) else .stuck:=rfl
@[simp] theorem qKx (xs:List D) (x:D):biD sub .index [.lst xs,x]=if pl x&&plL xs then idxOf x xs 0 else .stuck:=rfl
end
end Ev
namespace Ev
open PySem
structure Ix where
 (mask_of things_of holds mask_of_all needs_of may_learn next_within core_within states_within is_whole is_set look_rules look_way look_set next_things states is_state greatest core:Nat)
 (law_cell law_mix law_subset law_rules law_sets law_next law_states law_refusal law_spoilt law_told:Nat)
namespace B
def q52:List S:=[.aug 1 .bor (.op .shl (.con (.int 1)) (.var 2))]
def mask_of:List S:=[
 .set 1 (.con (.int 0)),
 .forr 0 [2] (.e (.var 0)) q52,
 .ret (.var 1)]
def holds:List S:=[
 .ret (.cm .eq (.op .band (.op .shr (.var 0) (.var 1)) (.con (.int 1))) (.con (.int 1)))]
def things_of (f:Ix):List S:=[
 .ret (.bi .tuple [.comp 0 (.var 0) (.rng [.bi .bits [.var 0]]) [.e (.call f.holds [.var 1,.var 0])]])]
def mask_of_all:List S:=[
 .ret (.op .sub (.op .shl (.con (.int 1)) (.var 0)) (.con (.int 1)))]
def q2F:List S:=[.ifs (.e (.cm .eq (.op .band (.var 3) (.var 1)) (.var 3))) [.ret (.con (.bl true))] []]
def may_learn (f:Ix):List S:=[
 .ifs (.e (.call f.holds [.var 1,.var 2])) [.ret (.con (.bl false))] [],
 .forr 0 [3] (.e (.idx (.var 0) (.var 2))) q2F,
 .ret (.con (.bl false))]
def next_within (f:Ix):List S:=[
 .ret (.comp 0 (.var 0) (.e (.call f.things_of [.var 2])) [.e (.call f.may_learn [.var 1,.var 2,.var 0])])]
end B
section
variable {G:Nat->List D->R D}{sub:Nat->Nat->Bool}{f:Ix}
def q03 (m:Nat) (ts:List Nat):Nat:=ts.foldl (λ m t=>m ||| (1 <<< t)) m
theorem q7M:∀(ts:List Nat) (m:Nat) (x y:Option Sl),(∀t∈ts,t<=1000)->
  ∃y',q1D (exs G sub B.q52) 0 [2] (nL ts) [x,some (.val (nI m)),y] = .ok [x,some (.val (nI (q03 m ts))),y'] .nx
 |[],m,x,y,_=>⟨y,rfl⟩
 |t::ts,m,x,y,h=>by have ht:=h t Qb;obtain⟨y',e⟩:=q7M ts (m ||| (1 <<< t)) x (some (.val (nI t))) (λ u hu=>h u (Qa _ hu));refine⟨y',Eq.trans ?_ e⟩;rw[q1J,q0R];simp[B.q52,num1,ht]
theorem q8e (ts:List Nat) (h:∀t∈ts,t<=1000) (d:D) (hd:d = .tup (nL ts)\/d = .lst (nL ts)):run G sub 3 B.mask_of [d] = .ok (nI (q03 0 ts)):=by obtain⟨y',e⟩:=q7M (G:=G) (sub:=sub) ts 0 (some (.val d)) none h;rcases hd with rfl|rfl<;>simp[run,B.mask_of,num0,e]
theorem qBP (m t:Nat):run G sub 2 B.holds [nI m,nI t] = .ok (.bl (m.testBit t)):=by simp only[run,B.holds];simp[num1,Nat.testBit_eq_decide_div_mod_eq,Nat.and_one_is_mod,Nat.shiftRight_eq_div_pow]
def blen (m:Nat):Nat:=if m=0 then 0 else m.log2+1
def q01 (m:Nat):List Nat:=(Qg (blen m)).filter m.testBit
theorem qIv (m:Nat):biD sub .bits [nI m] = .ok (nI (blen m)):=by
 show (if 0<=(m:Int) then R.ok (D.int (if (m:Int)=0 then 0 else (((m:Int).toNat.log2+1:Nat):Int))) else R.stuck)=_;unfold nI blen;rw[if_pos (by lia)]
 by_cases h:m=0
 ·subst h;rfl
 ·rw[if_neg (by lia),if_neg h];rfl
theorem qBQ (m:Nat) (h:m<2^62):blen m<=62:=by
 unfold blen;split
 ·lia
 ·have:=(Nat.log2_lt (by assumption)).mpr h;lia
theorem q7N (l:List Nat) (p:Nat->Bool) (q:D->Bool) (h:∀a∈l,q (nI a)=p a):(nL l).filter q=nL (l.filter p):=by
 induction l with
 |nil=>rfl
 |cons a l ih =>
  have h1:=h a Qb;have ih':=ih λ b hb=>h b (Qa _ hb);rw[q1J,QS,QS,h1,ih'];split<;>simp
def natOf:D->Nat
 | .int i=>i.toNat
 |_=>0
@[simp] theorem qLO (a:Nat):natOf (nI a)=a:=by simp[natOf,nI]
theorem q1X {elt:Env->R D}{cond:Env->R Bool}{ρ:Env}{p:Nat->Bool}{l:List Nat}(hc:∀a∈l,cond (some (.val (nI a))::ρ) = .ok (p a)) (he:∀a∈l,elt (some (.val (nI a))::ρ) = .ok (nI a)) :
  q0O elt cond 0 ρ (nL l) = .ok (nL (l.filter p)):=by
 rw[q50 (g:=id) (p:=λ d=>p (natOf d))]
 ·rw[List.map_id,q7N l p];intro a _;simp
 ·intro d hd;obtain⟨a,ha,rfl⟩:=Qq.mp hd;refine⟨[nI a],rfl,?_,λ _=>?_⟩
  ·simp[hc a ha]
  ·simp[he a ha]
theorem q6G (hH:∀m t:Nat,G f.holds [nI m,nI t] = .ok (.bl (m.testBit t))) (m:Nat) (h:m<2^62):run G sub 1 (B.things_of f) [nI m] = .ok (.tup (nL (q01 m))):=by
 have hb:=qBQ m h;have hl:((Qg (blen m)).filter m.testBit).length<=big:=Qn (Qu _ _) (by rw[QK,q0K];lia);have e:=q1X (elt:=ev G sub (.var 0)) (cond:=tsts G sub [.e (.call f.holds [.var 1,.var 0])]) (ρ:=[some (.val (nI m))]) (p:=m.testBit) (l:=Qg (blen m))
  (λ a _=>by cases q:m.testBit a<;>simp[hH,q]) (λ a _=>by simp)
 have e0:evi G sub (.rng [.bi .bits [.var 0]]) [some (.val (nI m))] = .ok (nL (Qg (blen m))):=by rw[q1Q,q0D,q1P,q0D,q1U,q0n];show ((biD sub .bits [nI m]).bind λ x=>R.ok [x]).bind rngD=_;rw[qIv,q00,q00,q4Y _ (Jc hb (by decide))]
 have e1:ev G sub (.comp 0 (.var 0) (.rng [.bi .bits [.var 0]]) [.e (.call f.holds [.var 1,.var 0])]) [some (.val (nI m))] = .ok (.lst (nL (q01 m))):=by rw[q0i,e0,q00,e,q0P,q00,q0X,if_pos hl];rfl
 show run G sub 1 [.ret (.bi .tuple [.comp 0 (.var 0) (.rng [.bi .bits [.var 0]]) [.e (.call f.holds [.var 1,.var 0])]])] [nI m]=_;generalize (L.comp 0 (.var 0) (.rng [.bi .bits [.var 0]]) [.e (.call f.holds [.var 1,.var 0])])=cc at e1;simp only[run];simp[e1]
theorem q53 (n:Nat) (h:n<=1000):run G sub 1 B.mask_of_all [nI n] = .ok (nI (2^n-1)):=by simp only[run,B.mask_of_all];simp[num1,h];rw[qIm _ _ (by rw[Ju];exact Nat.one_le_two_pow)];simp[Ju]
def mayL (nd:List (List Nat)) (k t:Nat):Bool:=!k.testBit t&&((nd.getD t []).any λ x=>x &&& k==x)
def ndD (nd:List (List Nat)):D:= .lst (nd.map λ l=> .lst (nL l))
theorem qDW (k x:Nat) (a c d:Option Sl):exs G sub B.q2F [a,some (.val (nI k)),c,some (.val (nI x))] = .ok [a,some (.val (nI k)),c,some (.val (nI x))] (if x &&& k=x then .ret (.bl true) else .nx):=by
 by_cases h:x &&& k=x<;>simp[B.q2F,h]
theorem q9H (k:Nat) (a c:Option Sl):∀(l:List Nat) (d:Option Sl),∃d',q1D (exs G sub B.q2F) 0 [3] (nL l) [a,some (.val (nI k)),c,d] =
  .ok [a,some (.val (nI k)),c,d'] (if l.any (λ x=>x &&& k==x)=true then .ret (.bl true) else .nx)
 |[],d=>⟨d,rfl⟩
 |x::l,d=>by
  obtain⟨d',e⟩:=q9H k a c l (some (.val (nI x)));rw[q1J,q0R];simp only[QY,QZ,Q0];rw[qDW k x a c d]
  by_cases h:x &&& k=x
  ·exact⟨some (.val (nI x)),by simp[h]⟩
  ·refine⟨d',?_⟩;rw[if_neg h,q1i,e];simp[h]
theorem q7O (l:List D) (t:Nat) (d:D) (h:l[t]? = some d):nth l (t:Int) = .ok d:=by unfold nth;rw[if_pos (by lia)];simp[h]
theorem q6H (hH:∀m t:Nat,G f.holds [nI m,nI t] = .ok (.bl (m.testBit t))) (nd:List (List Nat)) (k t:Nat) (h:t<nd.length):run G sub 4 (B.may_learn f) [ndD nd,nI k,nI t] = .ok (.bl (mayL nd k t)):=by
 unfold mayL;have e1:nd.getD t []=nd[t]:=by simp[Jm,h]
 have e2:idxD (ndD nd) (nI t) = .ok (.lst (nL (nd.getD t []))):=by show nth _ (t:Int)=_;refine q7O _ _ _ ?_;rw[Qs,Ql h,e1];rfl
 generalize nd.getD t []=l at e2 |-;obtain⟨d',e⟩:=q9H (G:=G) (sub:=sub) k (some (.val (ndD nd))) (some (.val (nI t))) l none;simp only[run,B.may_learn];cases q:k.testBit t
 ·cases r:l.any (λ x=>x &&& k==x)
  ·rw[r] at e;simp[hH,q,e2,e]
  ·rw[r] at e;simp[hH,q,e2,e]
 ·simp[hH,q]
def q0G (nd:List (List Nat)) (k b:Nat):List Nat:=(q01 b).filter (mayL nd k)
theorem q06 {m t:Nat}:t∈q01 m↔m.testBit t=true:=by
 unfold q01;rw[QG,QE];refine⟨λ h=>h.2,λ h=>⟨?_,h⟩⟩;have h2:=Nat.ge_two_pow_of_testBit h;have:m≠0:=by intro z;subst z;simp at h
 unfold blen;rw[if_neg this];have:=(Nat.le_log2 this).mpr h2;lia
theorem q54 (hT:∀m:Nat,m<2^62->G f.things_of [nI m] = .ok (.tup (nL (q01 m)))) (nd:List (List Nat)) (hM:∀k t:Nat,t<nd.length->G f.may_learn [ndD nd,nI k,nI t] = .ok (.bl (mayL nd k t))) (k b:Nat) (hb:b<2^nd.length) (hn:nd.length<=60) :
  run G sub 3 (B.next_within f) [ndD nd,nI k,nI b] = .ok (.lst (nL (q0G nd k b))):=by
 have hb2:b<2^62:=Qp hb (QC (by decide) (by lia));have hlt:∀t∈q01 b,t<nd.length:=λ t ht=>by have:=Nat.ge_two_pow_of_testBit (q06.mp ht);exact (Nat.pow_lt_pow_iff_right (by decide)).mp (Jc this hb)
 have e:=q1X (elt:=ev G sub (.var 0)) (cond:=tsts G sub [.e (.call f.may_learn [.var 1,.var 2,.var 0])]) (ρ:=[some (.val (ndD nd)),some (.val (nI k)),some (.val (nI b))]) (p:=mayL nd k) (l:=q01 b)
  (λ a ha=>by cases q:mayL nd k a<;>simp[hM k a (hlt a ha),q]) (λ a _=>by simp)
 have hl:((q01 b).filter (mayL nd k)).length<=big:=by refine Qn (Qu _ _) (Qn (Qu _ _) ?_);rw[QK,q0K];have:=qBQ b hb2;lia
 simp only[run,B.next_within];simp[hT b hb2,e,hl,q0G]
end
end Ev
namespace Ev
open PySem PySem.SeqAt
variable {h:Heap}{a:Addr}{us vs:List Value}{A:Around}{s:Shared}{u v u1 u2:Value}{b c:Bool}{d e:D}
mutual
noncomputable def Dv (h:Heap):D->Value->Prop
 | .non,u=>u = .none
 | .bl b,u=>u = .bool b
 | .int i,u=>∃t,u = .int i t
 | .str x,u=>∃t,u = .str x t
 | .tup ds,u=>∃a us,u = .ref a/\h.IsTuple a (Jk us)/\DvL h ds us
 | .lst ds,u=>∃a us,u = .ref a/\h.IsList a (Jk us)/\DvL h ds us
 | .dct _ _,_=>True
 | .exc _,_=>True
noncomputable def DvL (h:Heap):List D->List Value->Prop
 |[],us=>us=[]
 |d::ds,us=>∃u r,us=u::r/\Dv h d u/\DvL h ds r
end
theorem DvL.length:∀{ds:List D}{us:List Value},DvL h ds us->ds.length=us.length
 |[],us,x=>by cases (show us=[] from x);rfl
 |d::ds,us,x=>by obtain⟨u,r,e,_,y⟩:=x;subst e;simp[DvL.length y]
theorem DvL.get:∀{ds:List D}{us:List Value}{i:Nat}{d:D},DvL h ds us->ds[i]? = some d->∃u,us[i]? = some u/\Dv h d u
 |[],us,i,d,x,e=>by simp at e
 |a::ds,us,0,d,x,e=>by obtain⟨u,r,q,y,_⟩:=x;subst q;simp at e;subst e;exact⟨u,rfl,y⟩
 |a::ds,us,i+1,d,x,e=>by obtain⟨u,r,q,_,y⟩:=x;subst q;obtain⟨v,e1,e2⟩:=DvL.get (i:=i) y (by simpa using e);exact⟨v,by simpa using e1,e2⟩
theorem DvL.mem:∀{ds:List D}{us:List Value}{u:Value},DvL h ds us->u∈us->∃d∈ds,Dv h d u
 |[],us,u,x,e=>by cases (show us=[] from x);cases e
 |a::ds,us,u,x,e=>by
  obtain⟨w,r,q,y1,y2⟩:=x;subst q;rcases Qf.mp e with rfl|e
  ·exact⟨a,Qb,y1⟩
  ·obtain⟨d,hd,z⟩:=DvL.mem y2 e;exact⟨d,Qa _ hd,z⟩
def q6I (ds es:List D) (j:Nat):Bool:=match ds[j]?,es[j]? with
 |some d,some e=>eqb d e
 |_,_=>true
theorem all_succ (f:Nat->Bool) (n:Nat):(Qg (n+1)).all f=(f 0&&(Qg n).all (λ i=>f (i+1))):=by rw[List.range_succ_eq_map,List.all_cons,List.all_map];rfl
theorem q3Y:∀ds es:List D,((Qg (min ds.length es.length)).all (q6I ds es)&&ds.length==es.length)=eqbL ds es
 |[],[]=>rfl
 |[],_::_=>by simp[eqbL]
 |_::_,[]=>by simp[eqbL]
 |d::ds,e::es=>by
  have ih:=q3Y ds es;rw[Qo,Qo,Nat.succ_min_succ,all_succ,eqbL,<-ih];have h1:q6I (d::ds) (e::es) 0=eqb d e:=rfl;have h2:(λ i=>q6I (d::ds) (e::es) (i+1))=q6I ds es:=by funext i;simp[q6I]
  rw[h1,h2];have h3:(ds.length+1==es.length+1)=(ds.length==es.length):=by simp
  rw[h3,Bool.and_assoc]
theorem q55 {ds es:List D}(h:ds.length=es.length):(Qg ds.length).all (q6I ds es)=eqbL ds es:=by have:=q3Y ds es;rw[<-h,Nat.min_self] at this;simpa using this
theorem q3Z:∀{ds es:List D},ds.length≠es.length->eqbL ds es=false
 |[],[],h=>absurd rfl h
 |[],_::_,_=>by simp[eqbL]
 |_::_,[],_=>by simp[eqbL]
 |d::ds,e::es,h=>by rw[eqbL,q3Z (ds:=ds) (es:=es) (λ q=>h (by simp[q]))];simp
theorem qG7 (x:h.IsTuple a us.toArray) (y:h.IsTuple a vs.toArray):us=vs:=by
 obtain⟨o,e,_,n,d⟩:=x;obtain⟨o',e',_,n',d'⟩:=y;rw[e] at e';cases e';rw[d] at d';injection d' with d1 _
 simpa using congrArg Array.toList d1
theorem qG8 (x:h.IsList a us.toArray) (y:h.IsList a vs.toArray):us=vs:=by
 obtain⟨o,e,_,n,d⟩:=x;obtain⟨o',e',_,n',d'⟩:=y;rw[e] at e';cases e';rw[d] at d';injection d' with d1 _
 simpa using congrArg Array.toList d1
theorem q5j (x:h.IsTuple a us.toArray) (y:h.IsList a vs.toArray):False:=by
 obtain⟨o,e,c,_⟩:=x;obtain⟨o',e',c',_⟩:=y;rw[e] at e';cases e';rw[c] at c';injection c' with q
 exact absurd q (by decide)
theorem q3E:∀(k:Nat) {h:Heap}{d e:D}{u:Value},plN k d=true->plN k e=true->Dv h d u->Dv h e u->eqb d e=true:=by
 have lists:∀(k:Nat),(∀{h:Heap}{d e:D}{u:Value},plN k d=true->plN k e=true->Dv h d u->Dv h e u->eqb d e=true)->∀{h:Heap}{ds es:List D}{us:List Value},ds.all (plN k)=true->es.all (plN k)=true->DvL h ds us->DvL h es us->eqbL ds es=true:=by
  intro k ih h ds
  induction ds with
  |nil =>
   intro es us _ _ x y;cases (show us=[] from x);cases es with
   |nil=>simp[eqbL]
   |cons e es=>obtain⟨_,_,q,_⟩:=y;cases q
  |cons d ds ihl =>
   intro es us p q x y;obtain⟨u,r,e1,x1,x2⟩:=x;subst e1;cases es with
   |nil=>cases (show u::r=[] from y)
   |cons e es =>
    obtain⟨u',r',e2,y1,y2⟩:=y;injection e2 with e3 e4
    subst e3 e4;simp only[List.all_cons,Qd] at p q;rw[eqbL,ih p.1 q.1 x1 y1,ihl p.2 q.2 x2 y2];rfl
 intro k
 induction k with
 |zero =>
  intro h d e u p q x y;cases d<;>cases e<;>first
   |(simp[plN] at p;done)
   |(simp[plN] at q;done)
   |(obtain⟨t,rfl⟩:=x;obtain⟨t',q'⟩:=y;injection q' with q1 _;subst q1;simp[eqb];done)
   |(obtain⟨t,rfl⟩:=x;obtain⟨t',q'⟩:=y;cases q';done)
   |(obtain⟨t,rfl⟩:=x;cases (show _=_ from y);done)
   |(obtain⟨t,rfl⟩:=y;cases (show _=_ from x);done)
   |(cases (show u=_ from x);cases (show _=_ from y);simp[eqb];done)
   |(cases (show u=_ from x);cases (show _=_ from y);done)
 |succ k ih =>
  intro h d e u p q x y;cases d<;>cases e<;>first
   |(simp[plN] at p;done)
   |(simp[plN] at q;done)
   |(obtain⟨a,us,rfl,x1,x2⟩:=x;obtain⟨a',us',q',y1,y2⟩:=y;injection q' with q1;subst q1;cases qG7 x1 y1;rw[q1j] at p q;simpa[eqb] using lists k (λ {h d e u}=>ih) p q x2 y2;done)
   |(obtain⟨a,us,rfl,x1,x2⟩:=x;obtain⟨a',us',q',y1,y2⟩:=y;injection q' with q1;subst q1;cases qG8 x1 y1;rw[q3D] at p q;simpa[eqb] using lists k (λ {h d e u}=>ih) p q x2 y2;done)
   |(obtain⟨a,us,rfl,x1,x2⟩:=x;obtain⟨a',us',q',y1,y2⟩:=y;injection q' with q1;subst q1;exact (q5j x1 y1).elim)
   |(obtain⟨a,us,rfl,x1,x2⟩:=x;obtain⟨a',us',q',y1,y2⟩:=y;injection q' with q1;subst q1;exact (q5j y1 x1).elim)
   |(obtain⟨a,us,rfl,x1,x2⟩:=x;obtain⟨t',q'⟩:=y;cases q';done)
   |(obtain⟨a,us,rfl,x1,x2⟩:=x;cases (show _=_ from y);done)
   |(obtain⟨a,us,rfl,x1,x2⟩:=y;obtain⟨t',q'⟩:=x;cases q';done)
   |(obtain⟨a,us,rfl,x1,x2⟩:=y;cases (show _=_ from x);done)
   |(obtain⟨t,rfl⟩:=x;obtain⟨t',q'⟩:=y;injection q' with q1 _;subst q1;simp[eqb];done)
   |(obtain⟨t,rfl⟩:=x;obtain⟨t',q'⟩:=y;cases q';done)
   |(obtain⟨t,rfl⟩:=x;cases (show _=_ from y);done)
   |(obtain⟨t,rfl⟩:=y;cases (show _=_ from x);done)
   |(cases (show u=_ from x);cases (show _=_ from y);simp[eqb];done)
   |(cases (show u=_ from x);cases (show _=_ from y);done)
theorem eqTo (h:EqAt A s u v b) (e:b=c:=by first|rfl|simp[eqb,b2i,Bool.beq_eq_decide_eq]):EqAt A s u v c:=e▸h
theorem q5k (hk:∀l,d = .tup l->∀m,e = .tup m->EqAt A s u1 u2 (eqb d e)) (hl:∀l,d = .lst l->∀m,e = .lst m->EqAt A s u1 u2 (eqb d e)) (p:∃k,plN k d=true) (q:∃k,plN k e=true) (x1:Dv s.heap d u1) (x2:Dv s.heap e u2) (hu:A.units<cLine):EqAt A s u1 u2 (eqb d e):=by
 cases d with
 |non =>
  cases (show u1=_ from x1);cases e with
  |non=>cases (show u2=_ from x2);exact eqTo (EqAt.same .none)
  |bl b2=>cases (show u2=_ from x2);exact eqTo (EqAt.none_bool b2)
  |int i2=>obtain⟨t2,rfl⟩:=x2;exact eqTo (EqAt.none_int i2 t2)
  |str w2=>obtain⟨t2,rfl⟩:=x2;exact eqTo (EqAt.none_str w2 t2)
  |tup l2=>obtain⟨a2,us2,rfl,y2,z2⟩:=x2;exact eqTo (EqAt.none_tuple y2 hu)
  |lst l2=>obtain⟨a2,us2,rfl,y2,z2⟩:=x2;exact eqTo (EqAt.none_list y2 hu)
  |_=>obtain⟨k,q⟩:=q;cases k<;>simp[plN] at q
 |bl b1 =>
  cases (show u1=_ from x1);cases e with
  |non=>cases (show u2=_ from x2);exact eqTo (EqAt.bool_none b1)
  |bl b2=>cases (show u2=_ from x2);exact eqTo (EqAt.bool_bool b1 b2)
  |int i2=>obtain⟨t2,rfl⟩:=x2;exact eqTo (EqAt.bool_int b1 i2 t2)
  |str w2=>obtain⟨t2,rfl⟩:=x2;exact eqTo (EqAt.bool_str b1 w2 t2)
  |tup l2=>obtain⟨a2,us2,rfl,y2,z2⟩:=x2;exact eqTo (EqAt.bool_tuple b1 y2 hu)
  |lst l2=>obtain⟨a2,us2,rfl,y2,z2⟩:=x2;exact eqTo (EqAt.bool_list b1 y2 hu)
  |_=>obtain⟨k,q⟩:=q;cases k<;>simp[plN] at q
 |int i1 =>
  obtain⟨t1,rfl⟩:=x1;cases e with
  |non=>cases (show u2=_ from x2);exact eqTo (EqAt.int_none i1 t1)
  |bl b2=>cases (show u2=_ from x2);exact eqTo (EqAt.int_bool i1 t1 b2)
  |int i2=>obtain⟨t2,rfl⟩:=x2;exact eqTo (EqAt.int_int i1 t1 i2 t2)
  |str w2=>obtain⟨t2,rfl⟩:=x2;exact eqTo (EqAt.int_str i1 t1 w2 t2)
  |tup l2=>obtain⟨a2,us2,rfl,y2,z2⟩:=x2;exact eqTo (EqAt.int_tuple i1 t1 y2 hu)
  |lst l2=>obtain⟨a2,us2,rfl,y2,z2⟩:=x2;exact eqTo (EqAt.int_list i1 t1 y2 hu)
  |_=>obtain⟨k,q⟩:=q;cases k<;>simp[plN] at q
 |str w1 =>
  obtain⟨t1,rfl⟩:=x1;cases e with
  |non=>cases (show u2=_ from x2);exact eqTo (EqAt.str_none w1 t1)
  |bl b2=>cases (show u2=_ from x2);exact eqTo (EqAt.str_bool w1 t1 b2)
  |int i2=>obtain⟨t2,rfl⟩:=x2;exact eqTo (EqAt.str_int w1 t1 i2 t2)
  |str w2=>obtain⟨t2,rfl⟩:=x2;exact eqTo (EqAt.str_str w1 t1 w2 t2)
  |tup l2=>obtain⟨a2,us2,rfl,y2,z2⟩:=x2;exact eqTo (EqAt.str_tuple w1 t1 y2 hu)
  |lst l2=>obtain⟨a2,us2,rfl,y2,z2⟩:=x2;exact eqTo (EqAt.str_list w1 t1 y2 hu)
  |_=>obtain⟨k,q⟩:=q;cases k<;>simp[plN] at q
 |tup l1 =>
  obtain⟨a1,us1,rfl,y1,z1⟩:=x1;cases e with
  |non=>cases (show u2=_ from x2);exact eqTo (EqAt.tuple_none y1 hu)
  |bl b2=>cases (show u2=_ from x2);exact eqTo (EqAt.tuple_bool b2 y1 hu)
  |int i2=>obtain⟨t2,rfl⟩:=x2;exact eqTo (EqAt.tuple_int i2 t2 y1 hu)
  |str w2=>obtain⟨t2,rfl⟩:=x2;exact eqTo (EqAt.tuple_str w2 t2 y1 hu)
  |tup l2=>exact hk _ rfl _ rfl
  |lst l2=>obtain⟨a2,us2,rfl,y2,z2⟩:=x2;exact eqTo (EqAt.tuple_list y1 y2 hu)
  |_=>obtain⟨k,q⟩:=q;cases k<;>simp[plN] at q
 |lst l1 =>
  obtain⟨a1,us1,rfl,y1,z1⟩:=x1;cases e with
  |non=>cases (show u2=_ from x2);exact eqTo (EqAt.list_none y1 hu)
  |bl b2=>cases (show u2=_ from x2);exact eqTo (EqAt.list_bool b2 y1 hu)
  |int i2=>obtain⟨t2,rfl⟩:=x2;exact eqTo (EqAt.list_int i2 t2 y1 hu)
  |str w2=>obtain⟨t2,rfl⟩:=x2;exact eqTo (EqAt.list_str w2 t2 y1 hu)
  |tup l2=>obtain⟨a2,us2,rfl,y2,z2⟩:=x2;exact eqTo (EqAt.list_tuple y1 y2 hu)
  |lst l2=>exact hl _ rfl _ rfl
  |_=>obtain⟨k,q⟩:=q;cases k<;>simp[plN] at q
 |_=>obtain⟨k,p⟩:=p;cases k<;>simp[plN] at p
theorem rcTo (h:RcAt A s u v b) (e:b=c:=by first|rfl|simp[eqb,b2i,Bool.beq_eq_decide_eq]):RcAt A s u v c:=e▸h
theorem qAW (hk:∀l,d = .tup l->∀m,e = .tup m->RcAt A s u1 u2 (eqb d e)) (hl:∀l,d = .lst l->∀m,e = .lst m->RcAt A s u1 u2 (eqb d e)) (p:∃k,plN k d=true) (q:∃k,plN k e=true) (x1:Dv s.heap d u1) (x2:Dv s.heap e u2) (hu:A.units<cLine):RcAt A s u1 u2 (eqb d e):=by
 cases d with
 |non =>
  cases (show u1=_ from x1);cases e with
  |non=>cases (show u2=_ from x2);exact rcTo RcAt.none_none
  |bl b2=>cases (show u2=_ from x2);exact rcTo (RcAt.none_bool b2)
  |int i2=>obtain⟨t2,rfl⟩:=x2;exact rcTo (RcAt.none_int i2 t2)
  |str w2=>obtain⟨t2,rfl⟩:=x2;exact rcTo (RcAt.none_str w2 t2)
  |tup l2=>obtain⟨a2,us2,rfl,y2,z2⟩:=x2;exact rcTo (RcAt.none_tuple y2 hu)
  |lst l2=>obtain⟨a2,us2,rfl,y2,z2⟩:=x2;exact rcTo (RcAt.none_list y2 hu)
  |_=>obtain⟨k,q⟩:=q;cases k<;>simp[plN] at q
 |bl b1 =>
  cases (show u1=_ from x1);cases e with
  |non=>cases (show u2=_ from x2);exact rcTo (RcAt.bool_none b1)
  |bl b2=>cases (show u2=_ from x2);exact rcTo (RcAt.bool_bool b1 b2)
  |int i2=>obtain⟨t2,rfl⟩:=x2;exact rcTo (RcAt.bool_int b1 i2 t2)
  |str w2=>obtain⟨t2,rfl⟩:=x2;exact rcTo (RcAt.bool_str b1 w2 t2)
  |tup l2=>obtain⟨a2,us2,rfl,y2,z2⟩:=x2;exact rcTo (RcAt.bool_tuple b1 y2 hu)
  |lst l2=>obtain⟨a2,us2,rfl,y2,z2⟩:=x2;exact rcTo (RcAt.bool_list b1 y2 hu)
  |_=>obtain⟨k,q⟩:=q;cases k<;>simp[plN] at q
 |int i1 =>
  obtain⟨t1,rfl⟩:=x1;cases e with
  |non=>cases (show u2=_ from x2);exact rcTo (RcAt.int_none i1 t1)
  |bl b2=>cases (show u2=_ from x2);exact rcTo (RcAt.int_bool i1 t1 b2)
  |int i2=>obtain⟨t2,rfl⟩:=x2;exact rcTo (RcAt.int_int i1 t1 i2 t2)
  |str w2=>obtain⟨t2,rfl⟩:=x2;exact rcTo (RcAt.int_str i1 t1 w2 t2)
  |tup l2=>obtain⟨a2,us2,rfl,y2,z2⟩:=x2;exact rcTo (RcAt.int_tuple i1 t1 y2 hu)
  |lst l2=>obtain⟨a2,us2,rfl,y2,z2⟩:=x2;exact rcTo (RcAt.int_list i1 t1 y2 hu)
  |_=>obtain⟨k,q⟩:=q;cases k<;>simp[plN] at q
 |str w1 =>
  obtain⟨t1,rfl⟩:=x1;cases e with
  |non=>cases (show u2=_ from x2);exact rcTo (RcAt.str_none w1 t1)
  |bl b2=>cases (show u2=_ from x2);exact rcTo (RcAt.str_bool w1 t1 b2)
  |int i2=>obtain⟨t2,rfl⟩:=x2;exact rcTo (RcAt.str_int w1 t1 i2 t2)
  |str w2=>obtain⟨t2,rfl⟩:=x2;exact rcTo (RcAt.str_str w1 t1 w2 t2)
  |tup l2=>obtain⟨a2,us2,rfl,y2,z2⟩:=x2;exact rcTo (RcAt.str_tuple w1 t1 y2 hu)
  |lst l2=>obtain⟨a2,us2,rfl,y2,z2⟩:=x2;exact rcTo (RcAt.str_list w1 t1 y2 hu)
  |_=>obtain⟨k,q⟩:=q;cases k<;>simp[plN] at q
 |tup l1 =>
  obtain⟨a1,us1,rfl,y1,z1⟩:=x1;cases e with
  |non=>cases (show u2=_ from x2);exact rcTo (RcAt.tuple_none y1 hu)
  |bl b2=>cases (show u2=_ from x2);exact rcTo (RcAt.tuple_bool b2 y1 hu)
  |int i2=>obtain⟨t2,rfl⟩:=x2;exact rcTo (RcAt.tuple_int i2 t2 y1 hu)
  |str w2=>obtain⟨t2,rfl⟩:=x2;exact rcTo (RcAt.tuple_str w2 t2 y1 hu)
  |tup l2=>exact hk _ rfl _ rfl
  |lst l2=>obtain⟨a2,us2,rfl,y2,z2⟩:=x2;exact rcTo (RcAt.tuple_list y1 y2 hu)
  |_=>obtain⟨k,q⟩:=q;cases k<;>simp[plN] at q
 |lst l1 =>
  obtain⟨a1,us1,rfl,y1,z1⟩:=x1;cases e with
  |non=>cases (show u2=_ from x2);exact rcTo (RcAt.list_none y1 hu)
  |bl b2=>cases (show u2=_ from x2);exact rcTo (RcAt.list_bool b2 y1 hu)
  |int i2=>obtain⟨t2,rfl⟩:=x2;exact rcTo (RcAt.list_int i2 t2 y1 hu)
  |str w2=>obtain⟨t2,rfl⟩:=x2;exact rcTo (RcAt.list_str w2 t2 y1 hu)
  |tup l2=>obtain⟨a2,us2,rfl,y2,z2⟩:=x2;exact rcTo (RcAt.list_tuple y1 y2 hu)
  |lst l2=>exact hl _ rfl _ rfl
  |_=>obtain⟨k,q⟩:=q;cases k<;>simp[plN] at q
 |_=>obtain⟨k,p⟩:=p;cases k<;>simp[plN] at p
theorem neTo (h:RcNeAt A s u v b) (e:b=c:=by first|rfl|simp[eqb,b2i,Bool.beq_eq_decide_eq]):RcNeAt A s u v c:=e▸h
theorem q7P (hk:∀l,d = .tup l->∀m,e = .tup m->RcNeAt A s u1 u2 (!eqb d e)) (hl:∀l,d = .lst l->∀m,e = .lst m->RcNeAt A s u1 u2 (!eqb d e)) (p:∃k,plN k d=true) (q:∃k,plN k e=true) (x1:Dv s.heap d u1) (x2:Dv s.heap e u2) (hu:A.units<cLine):RcNeAt A s u1 u2 (!eqb d e):=by
 cases d with
 |non =>
  cases (show u1=_ from x1);cases e with
  |non=>cases (show u2=_ from x2);exact neTo RcNeAt.none_none
  |bl b2=>cases (show u2=_ from x2);exact neTo (RcNeAt.none_bool b2)
  |int i2=>obtain⟨t2,rfl⟩:=x2;exact neTo (RcNeAt.none_int i2 t2)
  |str w2=>obtain⟨t2,rfl⟩:=x2;exact neTo (RcNeAt.none_str w2 t2)
  |tup l2=>obtain⟨a2,us2,rfl,y2,z2⟩:=x2;exact neTo (RcNeAt.none_tuple y2 hu)
  |lst l2=>obtain⟨a2,us2,rfl,y2,z2⟩:=x2;exact neTo (RcNeAt.none_list y2 hu)
  |_=>obtain⟨k,q⟩:=q;cases k<;>simp[plN] at q
 |bl b1 =>
  cases (show u1=_ from x1);cases e with
  |non=>cases (show u2=_ from x2);exact neTo (RcNeAt.bool_none b1)
  |bl b2=>cases (show u2=_ from x2);exact neTo (RcNeAt.bool_bool b1 b2)
  |int i2=>obtain⟨t2,rfl⟩:=x2;exact neTo (RcNeAt.bool_int b1 i2 t2)
  |str w2=>obtain⟨t2,rfl⟩:=x2;exact neTo (RcNeAt.bool_str b1 w2 t2)
  |tup l2=>obtain⟨a2,us2,rfl,y2,z2⟩:=x2;exact neTo (RcNeAt.bool_tuple b1 y2 hu)
  |lst l2=>obtain⟨a2,us2,rfl,y2,z2⟩:=x2;exact neTo (RcNeAt.bool_list b1 y2 hu)
  |_=>obtain⟨k,q⟩:=q;cases k<;>simp[plN] at q
 |int i1 =>
  obtain⟨t1,rfl⟩:=x1;cases e with
  |non=>cases (show u2=_ from x2);exact neTo (RcNeAt.int_none i1 t1)
  |bl b2=>cases (show u2=_ from x2);exact neTo (RcNeAt.int_bool i1 t1 b2)
  |int i2=>obtain⟨t2,rfl⟩:=x2;exact neTo (RcNeAt.int_int i1 t1 i2 t2)
  |str w2=>obtain⟨t2,rfl⟩:=x2;exact neTo (RcNeAt.int_str i1 t1 w2 t2)
  |tup l2=>obtain⟨a2,us2,rfl,y2,z2⟩:=x2;exact neTo (RcNeAt.int_tuple i1 t1 y2 hu)
  |lst l2=>obtain⟨a2,us2,rfl,y2,z2⟩:=x2;exact neTo (RcNeAt.int_list i1 t1 y2 hu)
  |_=>obtain⟨k,q⟩:=q;cases k<;>simp[plN] at q
 |str w1 =>
  obtain⟨t1,rfl⟩:=x1;cases e with
  |non=>cases (show u2=_ from x2);exact neTo (RcNeAt.str_none w1 t1)
  |bl b2=>cases (show u2=_ from x2);exact neTo (RcNeAt.str_bool w1 t1 b2)
  |int i2=>obtain⟨t2,rfl⟩:=x2;exact neTo (RcNeAt.str_int w1 t1 i2 t2)
  |str w2=>obtain⟨t2,rfl⟩:=x2;exact neTo (RcNeAt.str_str w1 t1 w2 t2)
  |tup l2=>obtain⟨a2,us2,rfl,y2,z2⟩:=x2;exact neTo (RcNeAt.str_tuple w1 t1 y2 hu)
  |lst l2=>obtain⟨a2,us2,rfl,y2,z2⟩:=x2;exact neTo (RcNeAt.str_list w1 t1 y2 hu)
  |_=>obtain⟨k,q⟩:=q;cases k<;>simp[plN] at q
 |tup l1 =>
  obtain⟨a1,us1,rfl,y1,z1⟩:=x1;cases e with
  |non=>cases (show u2=_ from x2);exact neTo (RcNeAt.tuple_none y1 hu)
  |bl b2=>cases (show u2=_ from x2);exact neTo (RcNeAt.tuple_bool b2 y1 hu)
  |int i2=>obtain⟨t2,rfl⟩:=x2;exact neTo (RcNeAt.tuple_int i2 t2 y1 hu)
  |str w2=>obtain⟨t2,rfl⟩:=x2;exact neTo (RcNeAt.tuple_str w2 t2 y1 hu)
  |tup l2=>exact hk _ rfl _ rfl
  |lst l2=>obtain⟨a2,us2,rfl,y2,z2⟩:=x2;exact neTo (RcNeAt.tuple_list y1 y2 hu)
  |_=>obtain⟨k,q⟩:=q;cases k<;>simp[plN] at q
 |lst l1 =>
  obtain⟨a1,us1,rfl,y1,z1⟩:=x1;cases e with
  |non=>cases (show u2=_ from x2);exact neTo (RcNeAt.list_none y1 hu)
  |bl b2=>cases (show u2=_ from x2);exact neTo (RcNeAt.list_bool b2 y1 hu)
  |int i2=>obtain⟨t2,rfl⟩:=x2;exact neTo (RcNeAt.list_int i2 t2 y1 hu)
  |str w2=>obtain⟨t2,rfl⟩:=x2;exact neTo (RcNeAt.list_str w2 t2 y1 hu)
  |tup l2=>obtain⟨a2,us2,rfl,y2,z2⟩:=x2;exact neTo (RcNeAt.list_tuple y1 y2 hu)
  |lst l2=>exact hl _ rfl _ rfl
  |_=>obtain⟨k,q⟩:=q;cases k<;>simp[plN] at q
 |_=>obtain⟨k,p⟩:=p;cases k<;>simp[plN] at p
theorem q2q {k:Nat}(ih:∀{A:Around}{d e:D}{u v:Value},plN k d=true->plN k e=true->Dv s.heap d u->Dv s.heap e v->A.units+k<cLine->EqAt A s u v (eqb d e))
  {ds es:List D}{us vs:List Value}(p:ds.all (plN k)=true) (q:es.all (plN k)=true) (x:DvL s.heap ds us) (y:DvL s.heap es vs) (hu:A.units+k<cLine) :
  ∀j (h1:j<us.toArray.size) (h2:j<vs.toArray.size),EqAt A s us.toArray[j] vs.toArray[j] (q6I ds es j):=by
 intro j h1 h2;have l1:j<ds.length:=by rw[x.length];simpa using h1
 have l2:j<es.length:=by rw[y.length];simpa using h2
 obtain⟨u,e1,z1⟩:=x.get (Ql l1);obtain⟨v,e2,z2⟩:=y.get (Ql l2);have f1:us.toArray[j]=u:=by have:us[j]? = some u:=e1;rw[Ql (by simpa using h1)] at this;simpa using this
 have f2:vs.toArray[j]=v:=by have:vs[j]? = some v:=e2;rw[Ql (by simpa using h2)] at this;simpa using this
 rw[f1,f2];have f3:q6I ds es j=eqb ds[j] es[j]:=by simp[q6I,l1,l2]
 rw[f3];exact ih (Qw.mp p _ (QW l1)) (Qw.mp q _ (QW l2)) z1 z2 hu
theorem q35:∀(k:Nat) {A:Around}{s:Shared}{d e:D}{u v:Value},plN k d=true->plN k e=true->Dv s.heap d u->Dv s.heap e v->A.units+k<cLine->EqAt A s u v (eqb d e)
 |0,A,s,d,e,u,v,p,q,x,y,hu=>q5k (λ l h=>by subst h;simp[plN] at p) (λ l h=>by subst h;simp[plN] at p) ⟨0,p⟩ ⟨0,q⟩ x y (by lia)
 |k+1,A,s,d,e,u,v,p,q,x,y,hu=>by
  refine q5k (λ l h m h'=>?_) (λ l h m h'=>?_) ⟨_,p⟩ ⟨_,q⟩ x y (by lia)
  ·subst h h';obtain⟨a,us,rfl,x1,x2⟩:=x;obtain⟨b,vs,rfl,y1,y2⟩:=y
   by_cases ne:a=b
   ·subst ne;have:=q3E (k+1) p q (show Dv s.heap (.tup l) (.ref a) from⟨a,us,rfl,x1,x2⟩) (show Dv s.heap (.tup m) (.ref a) from⟨a,vs,rfl,y1,y2⟩);rw[this];exact EqAt.same _
   ·rw[q1j] at p q;have h:=RcAt.tuples x1 y1 (show A.units<cLine by lia) (q2q (A:=A.in1) (λ {A d e u v}=>q35 k) p q x2 y2 (by rw[Around.in1_units];lia));have e1:us.toArray.size=l.length:=(by rw[x2.length];simp);have e2:vs.toArray.size=m.length:=(by rw[y2.length];simp);rw[e1,e2,q3Y] at h;have e3:eqb (.tup l) (.tup m)=eqbL l m:=(by simp[eqb]);rw[e3];exact EqAt.of_refs ne h
  ·subst h h';obtain⟨a,us,rfl,x1,x2⟩:=x;obtain⟨b,vs,rfl,y1,y2⟩:=y
   by_cases ne:a=b
   ·subst ne;have:=q3E (k+1) p q (show Dv s.heap (.lst l) (.ref a) from⟨a,us,rfl,x1,x2⟩) (show Dv s.heap (.lst m) (.ref a) from⟨a,vs,rfl,y1,y2⟩);rw[this];exact EqAt.same _
   ·rw[q3D] at p q;have e1:us.toArray.size=l.length:=(by rw[x2.length];simp);have e2:vs.toArray.size=m.length:=(by rw[y2.length];simp);have e3:eqb (.lst l) (.lst m)=eqbL l m:=(by simp[eqb]);rw[e3]
    by_cases hl:l.length=m.length
    ·have h:=RcAt.lists x1 y1 (by rw[e1,e2,hl]) (show A.units<cLine by lia) (q2q (A:=A.in1) (λ {A d e u v}=>q35 k) p q x2 y2 (by rw[Around.in1_units];lia));rw[e1,q55 hl] at h;exact EqAt.of_refs ne h
    ·have h:=RcAt.lists_lengths x1 y1 (by rw[e1,e2];simpa using hl) (show A.units<cLine by lia);rw[q3Z hl];exact EqAt.of_refs ne h
theorem qIw (k:Nat) (p:plN k d=true) (q:plN k e=true) (x:Dv s.heap d u) (y:Dv s.heap e v) (hu:A.units+k<cLine):RcAt A s u v (eqb d e):=by
 refine qAW (λ l h m h'=>?_) (λ l h m h'=>?_) ⟨_,p⟩ ⟨_,q⟩ x y (by lia)
 ·subst h h';cases k with
  |zero=>simp[plN] at p
  |succ k =>
   obtain⟨a,us,rfl,x1,x2⟩:=x;obtain⟨b,vs,rfl,y1,y2⟩:=y;rw[q1j] at p q;have h:=RcAt.tuples x1 y1 (show A.units<cLine by lia) (q2q (A:=A.in1) (λ {A d e u v}=>q35 k) p q x2 y2 (by rw[Around.in1_units];lia));have e1:us.toArray.size=l.length:=(by rw[x2.length];simp);have e2:vs.toArray.size=m.length:=(by rw[y2.length];simp);rw[e1,e2,q3Y] at h;have e3:eqb (.tup l) (.tup m)=eqbL l m:=(by simp[eqb]);rw[e3];exact h
 ·subst h h';cases k with
  |zero=>simp[plN] at p
  |succ k =>
   obtain⟨a,us,rfl,x1,x2⟩:=x;obtain⟨b,vs,rfl,y1,y2⟩:=y;rw[q3D] at p q;have e1:us.toArray.size=l.length:=(by rw[x2.length];simp);have e2:vs.toArray.size=m.length:=(by rw[y2.length];simp);have e3:eqb (.lst l) (.lst m)=eqbL l m:=(by simp[eqb]);rw[e3]
   by_cases hl:l.length=m.length
   ·have h:=RcAt.lists x1 y1 (by rw[e1,e2,hl]) (show A.units<cLine by lia) (q2q (A:=A.in1) (λ {A d e u v}=>q35 k) p q x2 y2 (by rw[Around.in1_units];lia));rw[e1,q55 hl] at h;exact h
   ·rw[q3Z hl];exact RcAt.lists_lengths x1 y1 (by rw[e1,e2];simpa using hl) (show A.units<cLine by lia)
theorem qDX (k:Nat) (p:plN k d=true) (q:plN k e=true) (x:Dv s.heap d u) (y:Dv s.heap e v) (hu:A.units+k<cLine):RcNeAt A s u v (!eqb d e):=by
 refine q7P (λ l h m h'=>?_) (λ l h m h'=>?_) ⟨_,p⟩ ⟨_,q⟩ x y (by lia)
 ·subst h h';cases k with
  |zero=>simp[plN] at p
  |succ k =>
   obtain⟨a,us,rfl,x1,x2⟩:=x;obtain⟨b,vs,rfl,y1,y2⟩:=y;rw[q1j] at p q;have h:=RcNeAt.tuples x1 y1 (show A.units<cLine by lia) (q2q (A:=A.in1) (λ {A d e u v}=>q35 k) p q x2 y2 (by rw[Around.in1_units];lia));have e1:us.toArray.size=l.length:=(by rw[x2.length];simp);have e2:vs.toArray.size=m.length:=(by rw[y2.length];simp);rw[e1,e2,q3Y] at h;have e3:eqb (.tup l) (.tup m)=eqbL l m:=(by simp[eqb]);rw[e3];exact h
 ·subst h h';cases k with
  |zero=>simp[plN] at p
  |succ k =>
   obtain⟨a,us,rfl,x1,x2⟩:=x;obtain⟨b,vs,rfl,y1,y2⟩:=y;rw[q3D] at p q;have e1:us.toArray.size=l.length:=(by rw[x2.length];simp);have e2:vs.toArray.size=m.length:=(by rw[y2.length];simp);have e3:eqb (.lst l) (.lst m)=eqbL l m:=(by simp[eqb]);rw[e3]
   by_cases hl:l.length=m.length
   ·have h:=RcNeAt.lists x1 y1 (by rw[e1,e2,hl]) (show A.units<cLine by lia) (q2q (A:=A.in1) (λ {A d e u v}=>q35 k) p q x2 y2 (by rw[Around.in1_units];lia));rw[e1,q55 hl] at h;exact h
   ·rw[q3Z hl];exact RcNeAt.lists_lengths x1 y1 (by rw[e1,e2];simpa using hl) (show A.units<cLine by lia)
end Ev
namespace Ev
open PySem
mutual
def norm:D->D
 | .bl b=> .int (b2i b)
 | .tup l=> .tup (q6J l)
 | .lst l=> .lst (q6J l)
 |d=>d
def q6J:List D->List D
 |[]=>[]
 |a::l=>norm a::q6J l
end
theorem q56 {k:Nat}(ih:∀{d e:D},plN k d=true->plN k e=true->(eqb d e=true↔norm d=norm e)):∀{l m:List D},l.all (plN k)=true->m.all (plN k)=true->(eqbL l m=true↔q6J l=q6J m)
 |[],[],_,_=>by simp[eqbL,q6J]
 |[],_::_,_,_=>by simp[eqbL,q6J]
 |_::_,[],_,_=>by simp[eqbL,q6J]
 |d::l,e::m,p,q=>by simp only[List.all_cons,Qd] at p q;simp only[eqbL,q6J,Qd,List.cons.injEq];rw[ih p.1 q.1,q56 ih p.2 q.2]
theorem q3a:∀(k:Nat) {d e:D},plN k d=true->plN k e=true->(eqb d e=true↔norm d=norm e)
 |0,d,e,p,q=>by
  cases d<;>cases e<;>first
   |(simp[plN] at p;done)
   |(simp[plN] at q;done)
   |(simp[eqb,norm,b2i];done)
   |(rename_i a b;cases a<;>cases b<;>simp[eqb,norm,b2i];done)
   |(rename_i a b;cases a<;>simp[eqb,norm,b2i]<;>lia)
   |(rename_i a b;cases b<;>simp[eqb,norm,b2i]<;>lia)
 |k+1,d,e,p,q=>by
  cases d<;>cases e<;>first
   |(simp[plN] at p;done)
   |(simp[plN] at q;done)
   |(simp[eqb,norm,b2i];done)
   |(rw[q1j] at p q;simpa[eqb,norm] using q56 (λ {d e}=>q3a k) p q;done)
   |(rw[q3D] at p q;simpa[eqb,norm] using q56 (λ {d e}=>q3a k) p q;done)
   |(rename_i a b;cases a<;>cases b<;>simp[eqb,norm,b2i];done)
   |(rename_i a b;cases a<;>simp[eqb,norm,b2i]<;>lia)
   |(rename_i a b;cases b<;>simp[eqb,norm,b2i]<;>lia)
theorem qBR {k:Nat}{d d' e:D}(p:plN k d=true) (p':plN k d'=true) (q:plN k e=true) (h:eqb d d'=true):eqb d e=eqb d' e:=by have h':=(q3a k p p').mp h;rw[QB,q3a k p q,q3a k p' q,h']
end Ev
namespace Ev
open PySem PySem.SeqAt
open PySem.AutoSeq1 (wpAny_loadPart')
open PySem.MeetsSeq PySem.MeetsSeq2 PySem.MeetsSeq3
def LtAt (A:Around) (s:Shared) (u v:Value) (b:Bool):Prop :=
 ∀(prog:Program) (w:World) (E:Value->Shared->Prop) (Q:Value->Shared->Prop),Q (.bool b) s->wpAny (model prog w) A (richCompare .Lt u v) Q E s
def GeAt (A:Around) (s:Shared) (u v:Value) (b:Bool):Prop :=
 ∀(prog:Program) (w:World) (E:Value->Shared->Prop) (Q:Value->Shared->Prop),Q (.bool b) s->wpAny (model prog w) A (richCompare .GtE u v) Q E s
theorem qBS (l b:Addr) (items items2:List Value) (n n2:Nat) (dd dd2:Option Addr) (sl sl2:Array (Option Value)) (ds es:List D) (c:q0w ds es=true) :
  Meets (Builtin.«tuple.__lt__» ⟨[.ref l,.ref b],[]⟩)
   (λ A R s=>s.heap.get? l=some {cls:= .type "tuple",dict:=dd,data:= .seq items.toArray n,slots:=sl}/\s.heap.get? b=some {cls:= .type "tuple",dict:=dd2,data:= .seq items2.toArray n2,slots:=sl2}/\
    DvL s.heap ds items/\DvL s.heap es items2/\(∀d∈ds,∀e∈es,∀u v,Dv s.heap d u->Dv s.heap e v->EqAt A.in1 s u v (eqb d e)/\(q0r d e=true->LtAt A.in1 s u v (ltb d e)))/\
    R (.ok (.ret (.bool (ltbL ds es)))) s) :=
 .of_wp λ prog w A R s h=>by
  obtain⟨hp,g,d,tk,os⟩:=s;obtain⟨hl,hb,hx,hy,hel,h⟩:=h;have f2:=AutoSeq1.sub_tuple_tuple;have z1:items.toArray.size=ds.length:=by rw[hx.length];simp
  have z2:items2.toArray.size=es.length:=by rw[hy.length];simp
  wp_walk using wpAny_loadPart' hl,wpAny_loadPart' hb,wpAny_forIn_list _ (λ rest b s'=>b.1=none/\s'=⟨hp,g,d,tk,os⟩/\∃(vs ws:List Value) (ds' es':List D),rest=vs.zip ws/\
   DvL hp ds' vs/\DvL hp es' ws/\(∀x∈ds',x∈ds)/\(∀x∈es',x∈es)/\q0w ds' es'=true/\ds'.length+items2.toArray.size=es'.length+items.toArray.size/\R (.ok (.ret (.bool (ltbL ds' es')))) ⟨hp,g,d,tk,os⟩) _
  case turn =>
   rintro⟨y,x⟩ rest b s' ⟨hb',rfl,vs,ws,ds',es',hz,hv,hw,sd,se,hc,hlen,hR⟩;cases ds' with
   |nil=>cases (show vs=[] from hv);rw[List.zip_nil_left] at hz;cases hz
   |cons d1 ds1 =>
    obtain⟨u1,r1,e1,v1,v2⟩:=hv;subst e1;cases es' with
    |nil=>cases (show ws=[] from hw);rw[List.zip_nil_right] at hz;cases hz
    |cons d2 es1 =>
     obtain⟨u2,r2,e2,w1,w2⟩:=hw;subst e2;rw[JC] at hz;injection hz with hyx hrest
     injection hyx with hy' hx'
     subst hy' hx';rw[ltbL] at hR;rw[q0w] at hc;simp only[Qo] at hlen;have hh:=hel d1 (sd d1 Qb) d2 (se d2 Qb) _ _ v1 w1;refine wpAny_bind (hh.1 prog w _ _ ?_);cases e:eqb d1 d2 with
     |true =>
      rw[e,if_pos rfl] at hR hc
      wp_walk
      exact⟨rfl,rfl,_,_,_,_,hrest,v2,w2,λ x hx=>sd x (Qa _ hx),λ x hx=>se x (Qa _ hx),hc,by lia,hR⟩
     |false =>
      rw[e,if_neg (by simp)] at hR hc;have hri:=hh.2 hc prog w
      wp_walk using hri
      exact⟨_,rfl,by simpa using hR⟩
  case fin =>
   rintro⟨b1,b2⟩ s' ⟨hb',rfl,vs,ws,ds',es',hz,hv,hw,sd,se,hc,hlen,hR⟩;simp only at hb';subst hb';have hq:ltbL ds' es'=decide (items.toArray.size<items2.toArray.size):=by
    cases ds' with
    |nil=>cases es' with
     |nil =>
      simp only[Q5] at hlen;rw[show ltbL [] []=false by simp[ltbL]];exact (decide_eq_false (by lia)).symm
     |cons _ _ =>
      simp only[Q5,Qo] at hlen;rw[ltbL];exact (decide_eq_true (by lia)).symm
    |cons _ _=>cases es' with
     |nil =>
      simp only[Q5,Qo] at hlen;rw[ltbL];exact (decide_eq_false (by lia)).symm
     |cons _ _ =>
      obtain⟨_,_,e1,_⟩:=hv;obtain⟨_,_,e2,_⟩:=hw;subst e1 e2;rw[JC] at hz;cases hz
   rw[hq] at hR
   wp_walk
   exact⟨_,rfl,by simpa[Builtin.Tuple.tupleCompareSizes] using hR⟩
  case h =>
   exact⟨rfl,rfl,items,items2,ds,es,by simp,hx,hy,λ _ h=>h,λ _ h=>h,c,by lia,h⟩
theorem qBT (l b:Addr) (items items2:List Value) (n n2:Nat) (dd dd2:Option Addr) (sl sl2:Array (Option Value)) (ds es:List D) (c:q0w ds es=true) :
  Meets (Builtin.«tuple.__ge__» ⟨[.ref l,.ref b],[]⟩)
   (λ A R s=>s.heap.get? l=some {cls:= .type "tuple",dict:=dd,data:= .seq items.toArray n,slots:=sl}/\s.heap.get? b=some {cls:= .type "tuple",dict:=dd2,data:= .seq items2.toArray n2,slots:=sl2}/\
    DvL s.heap ds items/\DvL s.heap es items2/\(∀d∈ds,∀e∈es,∀u v,Dv s.heap d u->Dv s.heap e v->EqAt A.in1 s u v (eqb d e)/\(q0r d e=true->GeAt A.in1 s u v (!ltb d e)))/\
    R (.ok (.ret (.bool (!ltbL ds es)))) s) :=
 .of_wp λ prog w A R s h=>by
  obtain⟨hp,g,d,tk,os⟩:=s;obtain⟨hl,hb,hx,hy,hel,h⟩:=h;have f2:=AutoSeq1.sub_tuple_tuple;have z1:items.toArray.size=ds.length:=by rw[hx.length];simp
  have z2:items2.toArray.size=es.length:=by rw[hy.length];simp
  wp_walk using wpAny_loadPart' hl,wpAny_loadPart' hb,wpAny_forIn_list _ (λ rest b s'=>b.1=none/\s'=⟨hp,g,d,tk,os⟩/\∃(vs ws:List Value) (ds' es':List D),rest=vs.zip ws/\
   DvL hp ds' vs/\DvL hp es' ws/\(∀x∈ds',x∈ds)/\(∀x∈es',x∈es)/\q0w ds' es'=true/\ds'.length+items2.toArray.size=es'.length+items.toArray.size/\R (.ok (.ret (.bool (!ltbL ds' es')))) ⟨hp,g,d,tk,os⟩) _
  case turn =>
   rintro⟨y,x⟩ rest b s' ⟨hb',rfl,vs,ws,ds',es',hz,hv,hw,sd,se,hc,hlen,hR⟩;cases ds' with
   |nil=>cases (show vs=[] from hv);rw[List.zip_nil_left] at hz;cases hz
   |cons d1 ds1 =>
    obtain⟨u1,r1,e1,v1,v2⟩:=hv;subst e1;cases es' with
    |nil=>cases (show ws=[] from hw);rw[List.zip_nil_right] at hz;cases hz
    |cons d2 es1 =>
     obtain⟨u2,r2,e2,w1,w2⟩:=hw;subst e2;rw[JC] at hz;injection hz with hyx hrest
     injection hyx with hy' hx'
     subst hy' hx';rw[ltbL] at hR;rw[q0w] at hc;simp only[Qo] at hlen;have hh:=hel d1 (sd d1 Qb) d2 (se d2 Qb) _ _ v1 w1;refine wpAny_bind (hh.1 prog w _ _ ?_);cases e:eqb d1 d2 with
     |true =>
      rw[e,if_pos rfl] at hR hc
      wp_walk
      exact⟨rfl,rfl,_,_,_,_,hrest,v2,w2,λ x hx=>sd x (Qa _ hx),λ x hx=>se x (Qa _ hx),hc,by lia,hR⟩
     |false =>
      rw[e,if_neg (by simp)] at hR hc;have hri:=hh.2 hc prog w
      wp_walk using hri
      exact⟨_,rfl,by simpa using hR⟩
  case fin =>
   rintro⟨b1,b2⟩ s' ⟨hb',rfl,vs,ws,ds',es',hz,hv,hw,sd,se,hc,hlen,hR⟩;simp only at hb';subst hb';have hq:(!ltbL ds' es')=decide (items.toArray.size≥items2.toArray.size):=by
    cases ds' with
    |nil=>cases es' with
     |nil =>
      simp only[Q5] at hlen;rw[show ltbL [] []=false by simp[ltbL]];exact (decide_eq_true (by lia)).symm
     |cons _ _ =>
      simp only[Q5,Qo] at hlen;rw[ltbL];exact (decide_eq_false (by lia)).symm
    |cons _ _=>cases es' with
     |nil =>
      simp only[Q5,Qo] at hlen;rw[ltbL];exact (decide_eq_true (by lia)).symm
     |cons _ _ =>
      obtain⟨_,_,e1,_⟩:=hv;obtain⟨_,_,e2,_⟩:=hw;subst e1 e2;rw[JC] at hz;cases hz
   rw[hq] at hR
   wp_walk
   exact⟨_,rfl,by simpa[Builtin.Tuple.tupleCompareSizes] using hR⟩
  case h =>
   exact⟨rfl,rfl,items,items2,ds,es,by simp,hx,hy,λ _ h=>h,λ _ h=>h,c,by lia,h⟩
theorem qBU:∀(k:Nat) {A:Around}{s:Shared}{d e:D}{u v:Value},plN k d=true->plN k e=true->q02 d=true->q02 e=true->q0r d e=true->Dv s.heap d u->Dv s.heap e v->A.units+k<cLine->LtAt A s u v (ltb d e)/\GeAt A s u v (!ltb d e):=by
 intro k
 induction k with
 |zero =>
  intro A s d e u v p q h1 h2 c x y hu;cases d<;>cases e<;>first
   |(simp[q0r] at c;done)
   |(simp[plN] at p;done)
   |skip
  obtain⟨t,rfl⟩:=x;obtain⟨t',rfl⟩:=y;refine⟨λ prog w E Q h=>?_,λ prog w E Q h=>?_⟩
  ·exact (PyProof.Rows.lt_int (by simpa[ltb] using h):wpAny (model prog w) A (compareOp .Lt _ _) Q E s)
  ·refine (PyProof.Rows.ge_int ?_:wpAny (model prog w) A (compareOp .GtE _ _) Q E s);have e:∀a b:Int,(!decide (a<b))=decide (b<=a):=λ a b=>by rw[QB];simp
   simp only[ltb] at h;rw[e] at h;exact h
 |succ k ih =>
  intro A s d e u v p q h1 h2 c x y hu;cases d<;>cases e<;>first
   |(simp[q0r] at c;done)
   |(simp[q02] at h1;done)
   |skip
  ·obtain⟨t,rfl⟩:=x;obtain⟨t',rfl⟩:=y;refine⟨λ prog w E Q h=>?_,λ prog w E Q h=>?_⟩
   ·exact (PyProof.Rows.lt_int (by simpa[ltb] using h):wpAny (model prog w) A (compareOp .Lt _ _) Q E s)
   ·refine (PyProof.Rows.ge_int ?_:wpAny (model prog w) A (compareOp .GtE _ _) Q E s);have e:∀a b:Int,(!decide (a<b))=decide (b<=a):=λ a b=>by rw[QB];simp
    simp only[ltb] at h;rw[e] at h;exact h
  ·rename_i ds es;obtain⟨a,us,rfl,x1,x2⟩:=x;obtain⟨b,vs,rfl,y1,y2⟩:=y;rw[q1j] at p q;have c':q0w ds es=true:=(by simpa[q0r] using c);have h1':q09 ds=true:=(by simpa[q02] using h1);have h2':q09 es=true:=(by simpa[q02] using h2);obtain⟨⟨cls,dd,data,sl⟩,ho,hc,n,hd⟩:=id x1;obtain⟨⟨cls2,dd2,data2,sl2⟩,ho2,hc2,n2,hd2⟩:=id y1;simp only at hc hd hc2 hd2;subst hc hd hc2 hd2;have el:∀d∈ds,∀e∈es,∀u v,Dv s.heap d u->Dv s.heap e v->EqAt A.in1 s u v (eqb d e)/\(q0r d e=true->LtAt A.in1 s u v (ltb d e)/\GeAt A.in1 s u v (!ltb d e)):=by intro d hd e he u v x y;have p1:=Qw.mp p d hd;have q1:=Qw.mp q e he;have hu':A.in1.units+k<cLine:=(by rw[Around.in1_units];lia);exact⟨q35 k p1 q1 x y hu',λ c=>ih p1 q1 (q0Q.mp h1' d hd) (q0Q.mp h2' e he) c x y hu'⟩
   have e1:ltb (.tup ds) (.tup es)=ltbL ds es:=(by simp[ltb]);rw[e1];refine⟨λ prog w E Q h=>?_,λ prog w E Q h=>?_⟩
   ·exact richCompare_meets_room (op:= .Lt) ⟨_,ho,rfl⟩ ⟨_,ho2,rfl⟩ PySem.F.slot_tuple_lt PySem.F.entry_tuple_lt (PySem.F.args_tuple_lt_2 _ _) (qBS a b us vs n n2 dd dd2 sl sl2 ds es c')
     ⟨ho,ho2,x2,y2,λ d hd e he u v x y=>⟨(el d hd e he u v x y).1,λ c=>((el d hd e he u v x y).2 c).1⟩,show Value.bool (ltbL ds es)≠Value.notImplemented/\Q (.bool (ltbL ds es)) s from⟨(λ x=>nomatch x),h⟩⟩ (by lia)
   ·exact richCompare_meets_room (op:= .GtE) ⟨_,ho,rfl⟩ ⟨_,ho2,rfl⟩ PySem.F.slot_tuple_ge PySem.F.entry_tuple_ge (PySem.F.args_tuple_ge_2 _ _) (qBT a b us vs n n2 dd dd2 sl sl2 ds es c')
     ⟨ho,ho2,x2,y2,λ d hd e he u v x y=>⟨(el d hd e he u v x y).1,λ c=>((el d hd e he u v x y).2 c).2⟩,show Value.bool (!ltbL ds es)≠Value.notImplemented/\Q (.bool (!ltbL ds es)) s from⟨(λ x=>nomatch x),h⟩⟩ (by lia)
end Ev
namespace Ev
open PySem
mutual
def hv:D->Int
 | .int i=>hashInt i
 | .tup ds=>reduceHash (Builtin.Tuple.tupleHashOf (hvL ds))
 |_=>0
def hvL:List D->List Int
 |[]=>[]
 |d::ds=>hv d::hvL ds
end
theorem q44:∀a b:List D,hvL (a++b)=hvL a++hvL b
 |[],_=>by simp[hvL]
 |d::a,b=>by simp[hvL,q44 a b]
section
variable {prog:Program}{w:World}
theorem qDY:∀(k:Nat) {A:Around}{E:Value->Shared->Prop}{s:Shared}{d:D}{u:Value}{Q:Int->Shared->Prop},plN k d=true->q02 d=true->Dv s.heap d u->A.units+k<cLine->
  (∀t,Q (hv d) {s with toks:=t})->wpAny (model prog w) A (pyHash u) Q E s:=by
 intro k
 induction k with
 |zero =>
  intro A E s d u Q p hh x hu h;cases d<;>first
   |(simp[q02] at hh;done)
   |(simp[plN] at p;done)
   |skip
  obtain⟨t,rfl⟩:=x;exact wpAny_pyHash_int (by have:=h (s.toks+1);simpa[hv] using this)
 |succ k ih =>
  intro A E s d u Q p hh x hu h;cases d<;>first
   |(simp[q02] at hh;done)
   |skip
  ·obtain⟨t,rfl⟩:=x;exact wpAny_pyHash_int (by have:=h (s.toks+1);simpa[hv] using this)
  ·rename_i ds;obtain⟨a,us,rfl,x1,x2⟩:=x;rw[q1j] at p;have hh':q09 ds=true:=(by simpa[q02] using hh);have hT:s.TypeIs (.ref a) "tuple":=let ⟨o,ho,hc,_⟩:=x1;⟨o,ho,hc⟩;obtain⟨o,ho,hc,n,hd⟩:=x1;unfold pyHash pyHashByItsType;refine wpAny_bind (wpAny_cRoomFor_or (.inr (by lia)) ?_);refine wpAny_bind (wpAny_specialOf hT F.slot_tuple_hash.lookup (wpAny_ite_split (λ z=>absurd z (by rw[beq_builtin_none];decide)) λ _=>wpAny_bind (wpAny_specialOf hT F.slot_tuple_hash.lookup (wpAny_bind (wpAny_callSpecialIfBoundUnlessNone?_slot hT F.slot_tuple_hash
    (wpAny_call_entry F.slot_tuple_hash hT F.entry_tuple_hash (show wpAny _ _ (Builtin.Tuple.tupleItemsOf _ >>= _) _ _ s from wpAny_bind (wpAny_tupleItemsOf ho hd (wpAny_bind ?_))) (F.args_tuple_hash_1 _)))))))
   rw[<-Array.forIn_toList];refine wpAny_forIn_list _
    (λ rest (b:Array Int) s'=>∃done left t,ds=done++left/\DvL s.heap left rest/\b.toList=hvL done/\s'={s with toks:=t})
    _ ?_ ?_ _ _ ⟨[],ds,s.toks,rfl,by simpa using x2,by simp[hvL],rfl⟩
   ·rintro y rest b s' ⟨done,left,t,e,hl,hb,rfl⟩;cases left with
    |nil=>cases (show y::rest=[] from hl)
    |cons d1 left =>
     obtain⟨u1,r1,e1,v1,v2⟩:=hl;injection e1 with e2 e3
     subst e2 e3;have hm:d1∈ds:=(by rw[e];simp);refine wpAny_bind (ih (Qw.mp p _ hm) (q0Q.mp hh' _ hm) (s:={s with toks:=t}) v1 (by rw[Around.in1_units];lia) λ t'=>?_)
     first
      |exact wpAny_pure ⟨done++[d1],left,t',by simp[e],v2,by simp[hb,q44,hvL],rfl⟩
      |exact wpAny_bind (wpAny_pure (wpAny_pure ⟨done++[d1],left,t',by simp[e],v2,by simp[hb,q44,hvL],rfl⟩))
   ·rintro b s' ⟨done,left,t,e,hl,hb,rfl⟩;cases left with
    |cons _ _=>obtain⟨_,_,q,_⟩:=hl;cases q
    |nil =>
     rw[QR] at e;subst e;show wpAny _ _ (retInt (Builtin.Tuple.tupleHashOf b.toList)) _ _ _;rw[hb];refine wpAny_ret_mkInt ?_;show wpAny _ _ (if (decide (-(2:Int)^63<=Builtin.Tuple.tupleHashOf (hvL ds))&&decide (Builtin.Tuple.tupleHashOf (hvL ds)<2^63))=true then _ else _) Q E _;have hq:∀t,Q (reduceHash (Builtin.Tuple.tupleHashOf (hvL ds))) {s with toks:=t}:=λ t=>by have:=h t;simpa[hv] using this
     unfold reduceHash at hq
     by_cases hr:(decide (-(2:Int)^63<=Builtin.Tuple.tupleHashOf (hvL ds))&&decide (Builtin.Tuple.tupleHashOf (hvL ds)<2^63))=true
     ·rw[if_pos hr] at hq |-;exact wpAny_pure (hq _)
     ·rw[if_neg hr] at hq |-;exact wpAny_bind (wpAny_rule (wpAny_pure (hq _)))
theorem q57 {M:Model}{A:Around}{E:Value->Shared->Prop}{s:Shared}{β:Type}{us:List Value}{b0:β}{body:Value->β->Sem (ForInStep β)}{Q:β->Shared->Prop}{ds:List D}(x:DvL s.heap ds us)
  (hb:∀v d,d∈ds->Dv s.heap d v->∀Q':ForInStep β->Shared->Prop,Q' (.yield b0) s->wpAny M A (body v b0) Q' E s) (h:Q b0 s):wpAny M A (forIn us.toArray b0 body) Q E s:=by
 rw[<-Array.forIn_toList];refine wpAny_forIn_list _ (λ rest r t=>(r=b0/\t=s)/\∀v∈rest,v∈us) _ (λ v rest r t i=>?_) (λ r t i=>?_) _ _ ⟨⟨rfl,rfl⟩,λ v hv=>by simpa using hv⟩
 ·obtain⟨⟨rfl,rfl⟩,m⟩:=i;obtain⟨d,hd,z⟩:=x.mem (m v Qb);exact hb v d hd z _ ⟨⟨rfl,rfl⟩,λ y hy=>m y (Qa _ hy)⟩
 ·obtain⟨⟨rfl,rfl⟩,_⟩:=i;exact h
theorem qBV:∀(k n:Nat) {A:Around}{E:Value->Shared->Prop}{s:Shared}{d:D}{u:Value}{Q:Bool->Shared->Prop},k<=n->plN k d=true->q02 d=true->Dv s.heap d u->Q true s->wpAny (model prog w) A (eqIsQuiet n u) Q E s:=by
 intro k
 induction k with
 |zero =>
  intro n A E s d u Q hk p hh x h;cases d<;>first
   |(simp[q02] at hh;done)
   |(simp[plN] at p;done)
   |skip
  obtain⟨t,rfl⟩:=x;rw[eqIsQuiet_byValue _ (by rfl)];exact wpAny_pure h
 |succ k ih =>
  intro n A E s d u Q hk p hh x h;cases d<;>first
   |(simp[q02] at hh;done)
   |skip
  ·obtain⟨t,rfl⟩:=x;rw[eqIsQuiet_byValue _ (by rfl)];exact wpAny_pure h
  ·rename_i ds;obtain⟨a,us,rfl,x1,x2⟩:=x;rw[q1j] at p;have hh':q09 ds=true:=(by simpa[q02] using hh);have hT:s.TypeIs (.ref a) "tuple":=let ⟨o,ho,hc,_⟩:=x1;⟨o,ho,hc⟩;obtain⟨o,ho,hc,m,hd⟩:=x1;cases n with
   |zero=>lia
   |succ n =>
    unfold eqIsQuiet;refine wpAny_bind (wpAny_specialOf hT F.slot_tuple_eq.lookup (wpAny_bind (wpAny_isInstance hT isSubtype_tuple_tuple (wpAny_bind (wpAny_seqItems ho hd ?_)))));refine wpAny_bind (q57 x2 (λ v d1 hd1 z Q' q=>wpAny_bind (ih n (by lia) (Qw.mp p _ hd1) (q0Q.mp hh' _ hd1) z (wpAny_pure q))) ?_);exact wpAny_pure h
theorem q7Q:∀(k n:Nat) {A:Around}{E:Value->Shared->Prop}{s:Shared}{d:D}{u:Value}{Q:Bool->Shared->Prop},k<=n->plN k d=true->q02 d=true->Dv s.heap d u->Q false s->wpAny (model prog w) A (ofAClassStatement n u) Q E s:=by
 intro k
 induction k with
 |zero =>
  intro n A E s d u Q hk p hh x h;cases d<;>first
   |(simp[q02] at hh;done)
   |(simp[plN] at p;done)
   |skip
  obtain⟨t,rfl⟩:=x;unfold ofAClassStatement;exact wpAny_pure h
 |succ k ih =>
  intro n A E s d u Q hk p hh x h;cases d<;>first
   |(simp[q02] at hh;done)
   |skip
  ·obtain⟨t,rfl⟩:=x;unfold ofAClassStatement;exact wpAny_pure h
  ·rename_i ds;obtain⟨a,us,rfl,x1,x2⟩:=x;rw[q1j] at p;have hh':q09 ds=true:=(by simpa[q02] using hh);have hT:s.TypeIs (.ref a) "tuple":=let ⟨o,ho,hc,_⟩:=x1;⟨o,ho,hc⟩;obtain⟨o,ho,hc,m,hd⟩:=x1;cases n with
   |zero=>lia
   |succ n =>
    unfold ofAClassStatement;refine wpAny_bind (wpAny_typeOf hT (wpAny_bind (wpAny_pure (wpAny_bind (wpAny_seqItems ho hd ?_)))));refine wpAny_bind (q57 x2 (λ v d1 hd1 z Q' q=>wpAny_bind (ih n (by lia) (Qw.mp p _ hd1) (q0Q.mp hh' _ hd1) z (wpAny_pure q))) ?_);exact wpAny_pure h
theorem qG9:∀(k n:Nat) {A:Around}{E:Value->Shared->Prop}{s:Shared}{d:D}{u:Value}{Q:Bool->Shared->Prop},k<=n->plN k d=true->q02 d=true->Dv s.heap d u->Q true s->wpAny (model prog w) A (hashByValue n u) Q E s:=by
 intro k
 induction k with
 |zero =>
  intro n A E s d u Q hk p hh x h;cases d<;>first
   |(simp[q02] at hh;done)
   |(simp[plN] at p;done)
   |skip
  obtain⟨t,rfl⟩:=x;cases n<;>exact wpAny_pure h
 |succ k ih =>
  intro n A E s d u Q hk p hh x h;cases d<;>first
   |(simp[q02] at hh;done)
   |skip
  ·obtain⟨t,rfl⟩:=x;cases n<;>exact wpAny_pure h
  ·rename_i ds;obtain⟨a,us,rfl,x1,x2⟩:=x;rw[q1j] at p;have hh':q09 ds=true:=(by simpa[q02] using hh);have hT:s.TypeIs (.ref a) "tuple":=let ⟨o,ho,hc,_⟩:=x1;⟨o,ho,hc⟩;obtain⟨o,ho,hc,m,hd⟩:=x1;cases n with
   |zero=>lia
   |succ n =>
    unfold hashByValue;refine wpAny_bind (wpAny_specialOf hT F.slot_tuple_hash.lookup (wpAny_bind (wpAny_seqItems ho hd ?_)));refine wpAny_bind (q57 x2 (λ v d1 hd1 z Q' q=>wpAny_bind (ih n (by lia) (Qw.mp p _ hd1) (q0Q.mp hh' _ hd1) z (wpAny_pure q))) ?_);exact wpAny_pure h
end
end Ev
namespace Snd
open PySem PySem.Spec PyProof.Rows L2 Ev
variable {H H':Hp}{a:Addr}{vs:List V}{d:D}{v:V}{O:List Addr}
def q3b (a C:Addr):Heap->Prop:=λ h=>∃o,h.get? a=some o/\o.cls = .ref C
def keyD:Key->D
 | .inl i=> .int i
 | .inr x=> .str x
structure Pm where
 K:PySem.W.Frag
 cls:List Addr
mutual
noncomputable def Rep (p:Pm) (H:Hp):D->V->Prop
 | .non,v=>v = .non
 | .bl b,v=>v = .bl b
 | .int i,v=>v = .int i
 | .str x,v=>v = .str x/\x.length<=big
 | .tup ds,v=>∃a vs,v = .ref a/\SqT p.K H a vs/\vs.length<=sizeLine/\RepL p H ds vs
 | .lst ds,v=>∃a vs,v = .ref a/\SqL p.K H a vs/\RepL p H ds vs
 | .dct ks ds,v=>∃a kvs o,v = .ref a/\H a=some (.frz o (.dK kvs))/\ks=kvs.map (λ q=>keyD q.1)/\RepL p H ds (kvs.map (·.2))
 | .exc c,v=>∃a C,v = .ref a/\p.cls[c]? = some C/\H a=some (.ext (q3b a C))
noncomputable def RepL (p:Pm) (H:Hp):List D->List V->Prop
 |[],vs=>vs=[]
 |d::ds,vs=>∃v r,vs=v::r/\Rep p H d v/\RepL p H ds r
end
def Ext (H H':Hp):Prop:=∀a o,H a=some o->H' a=some o
theorem Ext.refl (H:Hp):Ext H H:=λ _ _ e=>e
theorem Ext.trans {H1 H2:Hp}(a:Ext H H1) (b:Ext H1 H2):Ext H H2:=λ x o e=>b x o (a x o e)
theorem Ext.upd {H:Hp}{a:Addr}{o:HO}(n:H a=none):Ext H (upd H a o):=λ b u e=>by rw[q07 (q08 e n)];exact e
theorem Ext.rd (x:Ext H H') {u:HO}(r:Rd H a u):Rd H' a u:=r.elim (λ e=> .inl (x _ _ e)) λ⟨o,e⟩=> .inr ⟨o,x _ _ e⟩
theorem Ext.sqL (x:Ext H H') {K:PySem.W.Frag}(r:SqL K H a vs):SqL K H' a vs:=r.elim (λ e=> .inl (x.rd e)) .inr
theorem Ext.sqT (x:Ext H H') {K:PySem.W.Frag}(r:SqT K H a vs):SqT K H' a vs:=r.elim (λ e=> .inl (x.rd e)) .inr
theorem q4a {p:Pm}(x:Ext H H'):(∀d v,Rep p H d v->Rep p H' d v)/\(∀ds vs,RepL p H ds vs->RepL p H' ds vs):=by
 refine D.ind (P:=λ d=>∀v,Rep p H d v->Rep p H' d v) (Q:=λ ds=>∀vs,RepL p H ds vs->RepL p H' ds vs)
  (λ v h=>h) (λ _ v h=>h) (λ _ v h=>h) (λ _ v h=>h) (λ l ih v h=>?_) (λ l ih v h=>?_) (λ k l ihk ih v h=>?_) (λ c v h=>?_) (λ vs h=>h) (λ d ds ih1 ih2 vs h=>?_)
 ·obtain⟨a,vs,e,s,z,r⟩:=h;exact⟨a,vs,e,x.sqT s,z,ih _ r⟩
 ·obtain⟨a,vs,e,s,r⟩:=h;exact⟨a,vs,e,x.sqL s,ih _ r⟩
 ·obtain⟨a,kvs,o,e,s,q,r⟩:=h;exact⟨a,kvs,o,e,x _ _ s,q,ih _ r⟩
 ·obtain⟨a,C,e,s,q⟩:=h;exact⟨a,C,e,s,x _ _ q⟩
 ·obtain⟨v,r,e,h1,h2⟩:=h;exact⟨v,r,e,ih1 _ h1,ih2 _ h2⟩
theorem Rep.mono {p:Pm}(h:Rep p H d v) (x:Ext H H'):Rep p H' d v:=(q4a x).1 d v h
theorem RepL.mono {p:Pm}{ds:List D}(h:RepL p H ds vs) (x:Ext H H'):RepL p H' ds vs:=(q4a x).2 ds vs h
theorem RepL.length {p:Pm}:∀{ds:List D}{vs:List V},RepL p H ds vs->ds.length=vs.length
 |[],vs,h=>by cases (show vs=[] from h);rfl
 |d::ds,vs,h=>by obtain⟨v,r,e,_,h2⟩:=h;subst e;simp[RepL.length h2]
theorem RepL.get {p:Pm}:∀{ds:List D}{vs:List V}{i:Nat}{d:D},RepL p H ds vs->ds[i]? = some d->∃v,vs[i]? = some v/\Rep p H d v
 |[],vs,i,d,h,e=>by simp at e
 |a::ds,vs,0,d,h,e=>by obtain⟨v,r,q,h1,_⟩:=h;subst q;simp at e;subst e;exact⟨v,rfl,h1⟩
 |a::ds,vs,i+1,d,h,e=>by obtain⟨v,r,q,_,h2⟩:=h;subst q;obtain⟨w,e1,e2⟩:=RepL.get (i:=i) h2 (by simpa using e);exact⟨w,by simpa using e1,e2⟩
theorem RepL.append {p:Pm}:∀{ds es:List D}{vs us:List V},RepL p H ds vs->RepL p H es us->RepL p H (ds++es) (vs++us)
 |[],es,vs,us,h,h'=>by cases (show vs=[] from h);exact h'
 |d::ds,es,vs,us,h,h'=>by obtain⟨v,r,q,h1,h2⟩:=h;subst q;exact⟨v,r++us,rfl,h1,RepL.append h2 h'⟩
theorem RepL.take {p:Pm}:∀{ds:List D}{vs:List V}(n:Nat),RepL p H ds vs->RepL p H (ds.take n) (vs.take n)
 |_,_,0,_=>by simp[RepL]
 |[],vs,n+1,h=>by cases (show vs=[] from h);simp[RepL]
 |d::ds,vs,n+1,h=>by obtain⟨v,r,q,h1,h2⟩:=h;subst q;exact⟨v,r.take n,rfl,h1,RepL.take n h2⟩
theorem RepL.drop {p:Pm}:∀{ds:List D}{vs:List V}(n:Nat),RepL p H ds vs->RepL p H (ds.drop n) (vs.drop n)
 |_,_,0,h=>h
 |[],vs,n+1,h=>by cases (show vs=[] from h);simp[RepL]
 |d::ds,vs,n+1,h=>by obtain⟨v,r,q,h1,h2⟩:=h;subst q;exact RepL.drop n h2
theorem RepL.snoc {p:Pm}{ds:List D}(h:RepL p H ds vs) (h1:Rep p H d v):RepL p H (ds++[d]) (vs++[v]):=h.append ⟨v,[],rfl,h1,rfl⟩
def fz (O:List Addr) (H:Hp):Hp:=λ a=>if a∈O then none else H a
theorem q1E (x:Ext H H'):Ext (fz O H) (fz O H'):=λ a o e=>by
 unfold fz at e |-;split at e
 ·cases e
 ·rename_i h;rw[if_neg h];exact x _ _ e
theorem q0Z:Ext (fz O H) H:=λ a o e=>by
 unfold fz at e;split at e
 ·cases e
 ·exact e
theorem qIx:fz [] H=H:=by funext a;simp[fz]
theorem q1x {o:HO}(h:H a=some o) (n:a∉O):fz O H a=some o:=by unfold fz;rw[if_neg n];exact h
theorem q45 {o:HO}(h:a∈O):fz O (upd H a o)=fz O H:=by
 funext b;unfold fz;split
 ·rfl
 ·rename_i n;exact q07 λ e=>n (e▸h)
noncomputable def RepB (p:Pm) (H Hf:Hp):D->V->Prop
 | .lst ds,v=>∃a vs,v = .ref a/\SqL p.K H a vs/\RepL p Hf ds vs
 | .dct ks ds,v=>∃a kvs,v = .ref a/\Rd H a (.dK kvs)/\ks=kvs.map (λ q=>keyD q.1)/\RepL p Hf ds (kvs.map (·.2))
 |d,v=>Rep p Hf d v
theorem Rep.b {p:Pm}{Hf:Hp}(h:Rep p Hf d v) (x:Ext Hf H):RepB p H Hf d v:=by
 cases d with
 |lst ds=>obtain⟨a,vs,e,s,r⟩:=h;exact⟨a,vs,e,x.sqL s,r⟩
 |dct ks ds=>obtain⟨a,kvs,o,e,s,q,r⟩:=h;exact⟨a,kvs,e,.inr ⟨o,x _ _ s⟩,q,r⟩
 |_=>exact h
theorem RepB.mono {p:Pm}{Hf Hf':Hp}(h:RepB p H Hf d v) (x:Ext H H') (y:Ext Hf Hf'):RepB p H' Hf' d v:=by
 cases d with
 |lst ds=>obtain⟨a,vs,e,s,r⟩:=h;exact⟨a,vs,e,x.sqL s,r.mono y⟩
 |dct ks ds=>obtain⟨a,kvs,e,s,q,r⟩:=h;exact⟨a,kvs,e,x.rd s,q,r.mono y⟩
 |non=>exact h
 |bl _=>exact h
 |int _=>exact h
 |str _=>exact h
 |tup _=>exact Rep.mono (d:= .tup _) h y
 |exc _=>exact Rep.mono (d:= .exc _) h y
def qGA (p:Pm) (H Hf:Hp) (a:Addr):D->Prop
 | .lst ds=>∃vs,H a=some (.lst vs)/\RepL p Hf ds vs
 | .dct ks ds=>∃kvs,H a=some (.dK kvs)/\ks=kvs.map (λ q=>keyD q.1)/\RepL p Hf ds (kvs.map (·.2))
 |_=>False
def q36 (p:Pm) (H Hf:Hp):List Addr->List (List D)->Prop
 |[],xss=>xss=[]
 |b::bs,xss=>∃xs r,xss=xs::r/\(∃vs,H b=some (.lst vs)/\RepL p Hf xs vs)/\q36 p H Hf bs r
noncomputable def q3c (p:Pm) (H Hf:Hp):Option Sl->Option V->List Addr->Prop
 |none,_,as=>as=[]
 |some (.val d),σ,as=>as=[]/\∃v,σ=some v/\Rep p Hf d v
 |some (.own d),σ,as=>∃a,σ=some (.ref a)/\as=[a]/\qGA p H Hf a d
 |some (.own2 xss),σ,as=>∃a bs,σ=some (.ref a)/\as=a::bs/\H a=some (.lst (bs.map V.ref))/\q36 p H Hf bs xss
def q1I (p:Pm) (H Hf:Hp):Ev.Env->L2.St->List (List Addr)->Prop
 |[],_,_=>True
 |x::ρ,σ,os=>∃y σ' as os',σ=y::σ'/\os=as::os'/\q3c p H Hf x y as/\q1I p H Hf ρ σ' os'
structure Rel (p:Pm) (ρ:Ev.Env) (σ:L2.St) (os:List (List Addr)) (H:Hp):Prop where
 nd:os.flatten.Nodup
 there:∀a∈os.flatten,∃o,H a=some o
 slots:q1I p H (fz os.flatten H) ρ σ os
end Snd
namespace Snd
open PySem PySem.Spec PyProof.Rows L2 Ev
variable {a b:Int}{r d:D}
def Fin (p:Pm) (O:List Addr) (H:Hp) (r:D):VK:=λ z H'=>Ext H H'/\Rep p (fz O H') r z
def Th (O:List Addr) (H:Hp):Prop:=∀a∈O,∃o,H a=some o
theorem Th.ext {O:List Addr}{H H':Hp}(h:Th O H) (x:Ext H H'):Th O H':=λ a ha=>let ⟨o,e⟩:=h a ha;⟨o,x _ _ e⟩
theorem Th.out {O:List Addr}{H:Hp}(h:Th O H) {a:Addr}(n:H a=none):a∉O:=λ z=>by obtain⟨o,e⟩:=h a z;rw[n] at e;cases e
theorem q0M {p:Pm}{O:List Addr}{H:Hp}{z:V}(h:Rep p (fz O H) r z):Fin p O H r z H:=⟨Ext.refl _,h⟩
theorem q46 {p:Pm}{O:List Addr}{H:Hp}{ds:List D}{vs:List V}(hO:Th O H) (h:RepL p (fz O H) ds vs) {a:Addr}(n:H a=none):Fin p O H (.lst ds) (.ref a) (upd H a (.lst vs)) :=
 ⟨Ext.upd n,a,vs,rfl,SqL.of (q1x q0B (hO.out n)),h.mono (q1E (Ext.upd n))⟩
theorem q8f {p:Pm}{O:List Addr}{H:Hp}{ds:List D}{vs:List V}(hO:Th O H) (h:RepL p (fz O H) ds vs) (z:vs.length<=sizeLine) {a:Addr}(n:H a=none):Fin p O H (.tup ds) (.ref a) (upd H a (.tup vs)) :=
 ⟨Ext.upd n,a,vs,rfl,SqT.of (q1x q0B (hO.out n)),z,h.mono (q1E (Ext.upd n))⟩
theorem q0a:big<=sizeLine:=by rw[sizeLine_eq];decide
def opr:Op2->Operator
 | .add=> .Add | .sub=> .Sub | .mul=> .Mult | .fdiv=> .FloorDiv | .mod=> .Mod | .shl=> .LShift | .shr=> .RShift | .band=> .BitAnd | .bor=> .BitOr | .bxor=> .BitXor
theorem q9I {op:Operator}{o:Op2}(h:opOf op=some o):op=opr o:=by cases op<;>simp[opOf] at h<;>subst h<;>rfl
section
variable {X:Cx}{p:Pm}{O:List Addr}{H:Hp}
def qLP (K:PySem.W.Frag):R2:=λ x y H Q=>∃l b xs zs,x = .ref l/\y = .ref b/\SqL K H l xs/\SqL K H b zs/\xs.length+zs.length<=sizeLine/\∀q,H q=none->Q (.ref q) (upd H q (.lst (xs++zs)))
theorem qGB:OpR X (binaryOp .Add) (qLP X.K):=by
 intro pins s σ H x y v u Q I rx ry h;obtain⟨l,b,xs,zs,rfl,rfl,hH,hB,hz,q⟩:=h;cases rx;cases ry;obtain⟨its,r,⟨o1,n,e,c1,d1,f1⟩,z1⟩:=I.list hH;obtain⟨its2,r2,⟨o2,n2,e2,c2,d2,f2⟩,z2⟩:=I.list hB;have hl:=r.length;have hl2:=r2.length;obtain⟨oc,od,odt,os⟩:=o1;obtain⟨oc2,od2,odt2,os2⟩:=o2;simp only at c1 d1 f1 c2 d2 f2;subst c1 f1 c2 f2;refine concat_meets ⟨_,e,rfl⟩ ⟨_,e2,rfl⟩ noFill_list_add seq_list_add PySem.F.slot_list_add PySem.F.entry_list_add (PySem.F.args_list_add_2 _ _) (list_addW l b its.toArray its2.toArray n n2 od od2 os os2 (by rw[Qr,Qr];lia)) ⟨e,e2,?_⟩;have ea:its.toArray++its2.toArray=(its++its2).toArray:=by simp
 rw[ea];exact⟨.ref _,_,I.lnew (t':=s.toks) (r.append r2) (by rw[QA];lia),rfl,q _ I.fresh⟩
theorem q9J (ha:0<=a) (hb:0<=b):Builtin.bitAnd a b=((a.toNat &&& b.toNat:Nat):Int):=by unfold Builtin.bitAnd;simp[ha,hb]
theorem qBW (ha:0<=a) (hb:0<=b):Builtin.bitOr a b=((a.toNat ||| b.toNat:Nat):Int):=by
 unfold Builtin.bitOr Builtin.bitAnd Builtin.bitNot;have h1:decide (0<=-a-1)=false:=decide_eq_false (by lia);have h2:decide (0<=-b-1)=false:=decide_eq_false (by lia);rw[h1,h2];have e1:(-(-a-1)-1).toNat=a.toNat:=by lia
 have e2:(-(-b-1)-1).toNat=b.toNat:=by lia
 dsimp only;rw[e1,e2];lia
theorem qAX:∀a b:Nat,a ||| b=(a ^^^ b)+(a &&& b):=by
 intro a
 induction a using Nat.strongRecOn with
 |ind a ih =>
  intro b
  by_cases h:a=0
  ·subst h;simp
  ·have ih':=ih (a / 2) (by lia) (b / 2);have o1:=Nat.or_div_two (a:=a) (b:=b);have o2:=Nat.xor_div_two (a:=a) (b:=b);have o3:=Nat.and_div_two (a:=a) (b:=b);have m1:=Nat.or_mod_two_eq_one (a:=a) (b:=b);have m2:=Nat.xor_mod_two_eq_one (a:=a) (b:=b);have m3:=Nat.and_mod_two_eq_one (a:=a) (b:=b)
   by_cases p:a % 2=1<;>by_cases q:b % 2=1<;>lia
theorem qDZ (ha:0<=a) (hb:0<=b):Builtin.bitXor a b=((a.toNat ^^^ b.toNat:Nat):Int):=by unfold Builtin.bitXor;rw[qBW ha hb,q9J ha hb,qAX];lia
theorem q0f (a b:Str):(a++b).length=a.length+b.length:=by show (a.cps++b.cps).size=_;rw[Array.size_append];rfl
noncomputable def qIy (K:PySem.W.Frag):R2:=λ x y H Q=>∃a b xs ys,x = .ref a/\y = .ref b/\SqT K H a xs/\SqT K H b ys/\xs.length+ys.length<=sizeLine/\
 (ys=[]->Q (.ref a) H)/\(xs=[]->Q (.ref b) H)/\(xs≠[]->ys≠[]->∀p,H p=none->Q (.ref p) (upd H p (.tup (xs++ys))))
theorem qDa:OpR X (binaryOp .Add) (qIy X.K):=by
 intro pins s σ H x y v u Q I rx ry h;obtain⟨a,b,xs,ys,rfl,rfl,ha,hb,hz,q1,q2,q3⟩:=h
 by_cases hx:xs=[]
 ·cases rx;cases ry;obtain⟨its,r1,p1,_⟩:=I.tuple ha;obtain⟨its2,r2,p2,_⟩:=I.tuple hb;have e0:its=[]:=r1.q69.mpr hx;subst e0;obtain⟨⟨cls,dd,data,sl⟩,ho,hc,n,hd⟩:=id p1;obtain⟨⟨cls2,dd2,data2,sl2⟩,ho2,hc2,n2,hd2⟩:=id p2;simp only at hc hd hc2 hd2;subst hc hd hc2 hd2;exact concat_meets ⟨_,ho,rfl⟩ ⟨_,ho2,rfl⟩ noFill_tuple_add seq_tuple_add PySem.F.slot_tuple_add PySem.F.entry_tuple_add (PySem.F.args_tuple_add_2 _ _)
   (tuple_addW0 a b _ its2.toArray n n2 dd dd2 sl sl2 (by simp)) ⟨ho,ho2,⟨.ref b,H,I,rfl,q2 hx⟩⟩
 ·exact qFp pins s σ H _ _ v u Q I rx ry ⟨a,b,xs,ys,rfl,rfl,ha,hb,hx,hz,q1,λ hy=>q3 hx hy⟩
def qLQ (K:PySem.W.Frag):R2:=λ x y H Q=>∃l k xs,x = .ref l/\y = .int k/\SqL K H l xs/\-(2^63)<=k/\k<2^63/\xs.length*k.toNat<=sizeLine/\
 ∀p,H p=none->Q (.ref p) (upd H p (.lst (Qe k.toNat xs).flatten))
theorem qGC:OpR X (binaryOp .Mult) (qLQ X.K):=by
 intro pins s σ H x y v u Q I rx ry h;obtain⟨l,k,xs,rfl,rfl,hH,h1,h2,hz,q⟩:=h;cases rx;obtain⟨t,rfl⟩:=ry;obtain⟨its,r,⟨o1,n,e,c1,d1,f1⟩,z1⟩:=I.list hH;have hl:=r.length;obtain⟨oc,od,odt,os⟩:=o1;simp only at c1 d1 f1;subst c1 f1;have hs:sizeLine=2^24:=sizeLine_eq;have hlen:its.toArray.size*k.toNat<=2^24:=by rw[Qr,<-hl,<-hs];exact hz
 refine wpAny_binaryOp_repeat_ref (T := "list") (U := "int") (by decide) ⟨_,e,rfl⟩ (λ s'=>typeIs_int s' k t) noFill_list_mul PySem.F.fills_int_mul PySem.F.slot_int_rmul repeat_list PySem.F.slot_int_index.lookup
  (call_meets PySem.F.slot_int_rmul (typeIs_int s k t) PySem.F.entry_int_rmul (PySem.F.args_int_rmul_2 _ _) (lm_int_rmul_list_any k t l its.toArray n od os)
   ⟨e,rfl,⟨_,e,rfl⟩,call_meets PySem.F.slot_list_mul ⟨_,e,rfl⟩ PySem.F.entry_list_mul (PySem.F.args_list_mul_2 _ _)
    (lm_list_mul_any l its.toArray n od os k t (by simp[Builtin.List.listFitsIndex];lia) (by lia) (by simp[Builtin.List.listTooLong,sizeLine];lia))
    ⟨e,?_⟩⟩)
 rw[listMul_foldl_if];show EP X pins σ Q (.ref s.heap.objs.size) {s with heap:=s.heap.push {cls:= .type "list",data:= .seq (Qe k.toNat its.toArray.toList).flatten.toArray}};exact⟨.ref _,_,I.lnew (t':=s.toks) (r.rep k.toNat) (by rw[len_rep,Nat.mul_comm];exact hz),rfl,q _ I.fresh⟩
theorem q9K {p:Pm}{H:Hp}{ds:List D}{vs:List V}(h:RepL p H ds vs):∀k:Nat,RepL p H (Qe k ds).flatten (Qe k vs).flatten
 |0=>by simp[RepL]
 |k+1=>by rw[Ji,Ji,Qy,Qy];exact h.append (q9K h k)
theorem qIz (h:(-(2^62)<a/\a<2^62)\/(-(2^62)<b/\b<2^62)):CMul a b:=by unfold CMul;lia
theorem q1Y {f:Int->R D}(h:intD f d = .ok r):∃a,d = .int a/\f a = .ok r:=by cases d<;>first|(cases h;done)|exact⟨_,rfl,h⟩
theorem qDb {f:List D->R D}(h:lstD f d = .ok r):∃a,d = .lst a/\f a = .ok r:=by cases d<;>first|(cases h;done)|exact⟨_,rfl,h⟩
theorem qDc {f:List D->R D}(h:tupD f d = .ok r):∃a,d = .tup a/\f a = .ok r:=by cases d<;>first|(cases h;done)|exact⟨_,rfl,h⟩
theorem qDd {f:Str->R D}(h:strD f d = .ok r):∃a,d = .str a/\f a = .ok r:=by cases d<;>first|(cases h;done)|exact⟨_,rfl,h⟩
theorem q9L {q:R D}(h:nonD q d = .ok r):d = .non/\q = .ok r:=by cases d<;>first|(cases h;done)|exact⟨rfl,h⟩
noncomputable def rInt:Op2->R2
 | .add=>rI0 λ i j=> .int (i+j)
 | .sub=>rI0 λ i j=> .int (i-j)
 | .mul=>rI CMul λ i j=> .int (i*j)
 | .fdiv=>rI CDiv λ i j=> .int (i / j)
 | .mod=>rI (λ _ j=>0<j) λ i j=> .int (i % j)
 | .shl=>rI CPow λ i j=> .int (i*2^j.toNat)
 | .shr=>rI (λ _ j=>0<=j) λ i j=> .int (i / 2^j.toNat)
 | .band=>rI0 λ i j=> .int (Builtin.bitAnd i j)
 | .bor=>rI0 λ i j=> .int (Builtin.bitOr i j)
 | .bxor=>rI0 λ i j=> .int (Builtin.bitXor i j)
theorem qJ0:∀o:Op2,OpR X (binaryOp (opr o)) (rInt o)
 | .add=>qIA | .sub=>qIB | .mul=>qIC | .fdiv=>qFc | .mod=>qID | .shl=>qIE | .shr=>qIF | .band=>qIG | .bor=>qL2 | .bxor=>qIH
theorem qGD:∀o:Op2,OpR X (inplaceOp (opr o)) (rInt o)
 | .add=>qFd | .sub=>qFe | .mul=>qFf | .fdiv=>qDJ | .mod=>qFg | .shl=>qFh | .shr=>qFi | .band=>qFj | .bor=>qII | .bxor=>qFk
theorem q30 {c:Prop}{_:Decidable c}{x:D}(h:(if c then R.ok x else .stuck) = .ok r):c/\x=r:=by
 by_cases z:c
 ·rw[if_pos z] at h;cases h;exact⟨z,rfl⟩
 ·rw[if_neg z] at h;cases h
theorem q4b {i j:Int}(e:j=i) (h:D.int i=r):Fin p O H r (.int j) H:=by subst e h;exact q0M rfl
theorem q7R (o:Op2) {m n:Int}(h:opD o (.int m) (.int n) = .ok r):rInt o (.int m) (.int n) H (Fin p O H r):=by
 cases o with
 |add=>cases h;exact⟨_,_,rfl,rfl,q0M rfl⟩
 |mul =>
  obtain⟨c,e⟩:=q30 h;exact⟨_,_,rfl,rfl,qIz c,q4b rfl e⟩
 |sub=>cases h;exact⟨_,_,rfl,rfl,q0M rfl⟩
 |fdiv =>
  obtain⟨c,e⟩:=q30 h;exact⟨_,_,rfl,rfl,c,q4b rfl e⟩
 |mod =>
  obtain⟨c,e⟩:=q30 h;exact⟨_,_,rfl,rfl,c,q4b rfl e⟩
 |shl =>
  obtain⟨c,e⟩:=q30 h;refine⟨_,_,rfl,rfl,⟨c.2.2.1,by lia,by lia⟩,q4b ?_ e⟩;rw[Nat.shiftLeft_eq,Int.natCast_mul,Int.natCast_pow,Int.toNat_of_nonneg c.1];rfl
 |shr =>
  obtain⟨c,e⟩:=q30 h;refine⟨_,_,rfl,rfl,c.2,q4b ?_ e⟩;rw[Nat.shiftRight_eq_div_pow,Int.natCast_ediv,Int.natCast_pow,Int.toNat_of_nonneg c.1];rfl
 |band =>
  obtain⟨c,e⟩:=q30 h;exact⟨_,_,rfl,rfl,q4b (q9J c.1 c.2) e⟩
 |bor =>
  obtain⟨c,e⟩:=q30 h;exact⟨_,_,rfl,rfl,q4b (qBW c.1 c.2) e⟩
 |bxor =>
  obtain⟨c,e⟩:=q30 h;exact⟨_,_,rfl,rfl,q4b (qDZ c.1 c.2) e⟩
theorem qGE {o:Op2}{e:D}(h:opD o d e = .ok r) (h1:o ≠ .add) (h2:o ≠ .mul):∃m n,d = .int m/\e = .int n:=by
 unfold opD at h;split at h
 ·exact absurd rfl h1
 ·exact absurd rfl h2
 ·obtain⟨m,e1,h⟩:=q1Y h;obtain⟨n,e2,_⟩:=q1Y h;exact⟨m,n,e1,e2⟩
theorem qDe (hK:p.K=X.K) (hO:Th O H):∀(o:Op2) (d e r:D) (x y:V),opD o d e = .ok r->RepB p H (fz O H) d x->RepB p H (fz O H) e y->
  ∃r2:R2,OpR X (binaryOp (opr o)) r2/\r2 x y H (Fin p O H r):=by
 intro o d e r x y h hx hy;have tw2:(∃m n,d = .int m/\e = .int n)->∃r2:R2,OpR X (binaryOp (opr o)) r2/\r2 x y H (Fin p O H r):=λ⟨m,n,e1,e2⟩=>by subst e1 e2;cases (show x=_ from hx);cases (show y=_ from hy);exact⟨_,qJ0 o,q7R o h⟩
 by_cases h1:o = .add
 ·subst h1;cases d with
  |int m=>obtain⟨n,e1,_⟩:=q1Y h;exact tw2 ⟨_,_,rfl,e1⟩
  |lst ds =>
   obtain⟨es,rfl,h⟩:=qDb h;obtain⟨c,rfl⟩:=q30 h;obtain⟨a,vs,rfl,s1,r1⟩:=hx;obtain⟨b,us,rfl,s2,r2⟩:=hy;exact⟨_,qGB,a,b,vs,us,rfl,rfl,hK▸s1,hK▸s2,Qn (by rw[<-r1.length,<-r2.length];exact c) q0a,λ q n=>q46 hO (r1.append r2) n⟩
  |tup ds =>
   obtain⟨es,rfl,h⟩:=qDc h;obtain⟨c,rfl⟩:=q30 h;obtain⟨a,vs,rfl,s1,z1,r1⟩:=hx;obtain⟨b,us,rfl,s2,z2,r2⟩:=hy;have c':vs.length+us.length<=sizeLine:=Qn (by rw[<-r1.length,<-r2.length];exact c) q0a;refine⟨_,qDa,a,b,vs,us,rfl,rfl,hK▸q0Z.sqT s1,hK▸q0Z.sqT s2,c',λ e=>?_,λ e=>?_,λ n1 n2 q n=>q8f hO (r1.append r2) (by rw[QA];exact c') n⟩
   ·subst e;cases (JA.mp r2.length:es=[]);rw[QR];exact q0M ⟨a,vs,rfl,s1,z1,r1⟩
   ·subst e;cases (JA.mp r1.length:ds=[]);rw[List.nil_append];exact q0M ⟨b,us,rfl,s2,z2,r2⟩
  |str a =>
   obtain⟨b,rfl,h⟩:=qDd h;obtain⟨c,rfl⟩:=q30 h;obtain⟨rfl,z1⟩:=hx;obtain⟨rfl,z2⟩:=hy;exact⟨_,qAP,_,_,rfl,rfl,Qn c q0a,q0M ⟨rfl,by rw[q0f];exact c⟩⟩
  |_=>cases h
 by_cases h2:o = .mul
 ·subst h2;cases d with
  |int m=>obtain⟨n,e1,_⟩:=q1Y h;exact tw2 ⟨_,_,rfl,e1⟩
  |lst ds =>
   obtain⟨k,rfl,h⟩:=q1Y h;obtain⟨c,rfl⟩:=q30 h;obtain⟨a,vs,rfl,s1,r1⟩:=hx;cases (show y=_ from hy);exact⟨_,qGC,a,k,vs,rfl,rfl,hK▸s1,by lia,by lia,Qn (by rw[<-r1.length];exact c.2.2) q0a,λ q n=>q46 hO (q9K r1 _) n⟩
  |_=>cases h
 exact tw2 (qGE h h1 h2)
end
end Snd
namespace Snd
open PySem PySem.Spec PyProof.Rows L2 Ev
variable {s:Shared}{u:Value}
section
variable {X:Cx}{p:Pm}{O:List Addr}
theorem q2b {pins:List (Addr×Obj)}{σ:L2.St}{H:Hp}(hK:p.K=X.K) (I:Inv X pins σ H s):(∀d v u,Rep p H d v->RelV v u->Dv s.heap d u)/\(∀ds vs us,RepL p H ds vs->Vals vs us->DvL s.heap ds us):=by
 refine D.ind (P:=λ d=>∀v u,Rep p H d v->RelV v u->Dv s.heap d u) (Q:=λ ds=>∀vs us,RepL p H ds vs->Vals vs us->DvL s.heap ds us)
  (λ v u h r=>?_) (λ b v u h r=>?_) (λ i v u h r=>?_) (λ x v u h r=>?_) (λ l ih v u h r=>?_) (λ l ih v u h r=>?_) (λ _ _ _ _ _ _ _ _=>trivial) (λ _ _ _ _ _=>trivial) (λ vs us h r=>?_) (λ d ds ih1 ih2 vs us h r=>?_)
 ·cases (show v=_ from h);exact r
 ·cases (show v=_ from h);exact r
 ·cases (show v=_ from h);exact r
 ·obtain⟨rfl,_⟩:=h;exact r
 ·obtain⟨a,vs,rfl,s1,z,r1⟩:=h;cases r;obtain⟨its,rv,pt,_⟩:=I.tuple (hK▸s1);exact⟨a,its,rfl,pt,ih _ _ r1 rv⟩
 ·obtain⟨a,vs,rfl,s1,r1⟩:=h;cases r;obtain⟨its,rv,pt,_⟩:=I.list (hK▸s1);exact⟨a,its,rfl,pt.isList,ih _ _ r1 rv⟩
 ·cases (show vs=[] from h);cases r;rfl
 ·obtain⟨v,r',rfl,h1,h2⟩:=h;cases r with
  |cons ra rb=>exact⟨_,_,rfl,ih1 _ _ h1 ra,ih2 _ _ h2 rb⟩
theorem q3d {pins:List (Addr×Obj)}{σ:L2.St}{H Hf:Hp}(hK:p.K=X.K) (I:Inv X pins σ H s) (x:Ext Hf H) {d:D}{v:V}(h:RepB p H Hf d v) (r:RelV v u):Dv s.heap d u:=by
 cases d with
 |lst ds =>
  obtain⟨a,vs,rfl,s1,r1⟩:=h;exact (q2b hK I).1 (.lst ds) _ _ ⟨a,vs,rfl,s1,r1.mono x⟩ r
 |dct _ _=>trivial
 |exc _=>trivial
 |non=>exact (q2b hK I).1 .non _ _ (Rep.mono (p:=p) (d:= .non) h x) r
 |bl b=>exact (q2b hK I).1 (.bl b) _ _ (Rep.mono (p:=p) (d:= .bl b) h x) r
 |int i=>exact (q2b hK I).1 (.int i) _ _ (Rep.mono (p:=p) (d:= .int i) h x) r
 |str y=>exact (q2b hK I).1 (.str y) _ _ (Rep.mono (p:=p) (d:= .str y) h x) r
 |tup l=>exact (q2b hK I).1 (.tup l) _ _ (Rep.mono (p:=p) (d:= .tup l) h x) r
def rCm (p:Pm) (ok:D->D->Bool) (g:D->D->Bool):R2:=λ x y H Q=>∃d e Hf,Ext Hf H/\RepB p H Hf d x/\RepB p H Hf e y/\ok d e=true/\Q (.bl (g d e)) H
theorem qLR (hK:p.K=X.K) (hu:X.A.units+64<cLine):OpR X (compareOp .Eq) (rCm p (λ a b=>pl a&&pl b) eqb):=by intro pins s σ H x y v u Q I rx ry h;obtain⟨d,e,Hf,xt,h1,h2,c,q⟩:=h;simp only[Qd] at c;exact qIw 8 c.1 c.2 (q3d hK I xt h1 rx) (q3d hK I xt h2 ry) (by lia) X.prog X.w X.xe _ ⟨.bl _,H,I,rfl,q⟩
theorem qLS (hK:p.K=X.K) (hu:X.A.units+64<cLine):OpR X (compareOp .NotEq) (rCm p (λ a b=>pl a&&pl b) (λ a b=>!eqb a b)):=by intro pins s σ H x y v u Q I rx ry h;obtain⟨d,e,Hf,xt,h1,h2,c,q⟩:=h;simp only[Qd] at c;exact qDX 8 c.1 c.2 (q3d hK I xt h1 rx) (q3d hK I xt h2 ry) (by lia) X.prog X.w X.xe _ ⟨.bl _,H,I,rfl,q⟩
def qDf (a b:D):Bool:=pl a&&pl b&&q02 a&&q02 b&&q0r a b
theorem qLT (hK:p.K=X.K) (hu:X.A.units+64<cLine):OpR X (compareOp .Lt) (rCm p qDf ltb):=by intro pins s σ H x y v u Q I rx ry h;obtain⟨d,e,Hf,xt,h1,h2,c,q⟩:=h;simp only[qDf,Qd] at c;exact (qBU 8 c.1.1.1.1 c.1.1.1.2 c.1.1.2 c.1.2 c.2 (q3d hK I xt h1 rx) (q3d hK I xt h2 ry) (by lia)).1 X.prog X.w X.xe _ ⟨.bl _,H,I,rfl,q⟩
theorem qLU (hK:p.K=X.K) (hu:X.A.units+64<cLine):OpR X (compareOp .GtE) (rCm p qDf (λ a b=>!ltb a b)):=by intro pins s σ H x y v u Q I rx ry h;obtain⟨d,e,Hf,xt,h1,h2,c,q⟩:=h;simp only[qDf,Qd] at c;exact (qBU 8 c.1.1.1.1 c.1.1.1.2 c.1.1.2 c.1.2 c.2 (q3d hK I xt h1 rx) (q3d hK I xt h2 ry) (by lia)).2 X.prog X.w X.xe _ ⟨.bl _,H,I,rfl,q⟩
noncomputable def eqTo (h:Heap) (ds:List D) (x:D) (u:Value):Bool:=@decide (∃d∈ds,Dv h d u/\eqb d x=true) (JB _)
theorem q6K {h:Heap}{ds:List D}{x d:D}(pd:plL ds=true) (px:pl x=true) (hd:d∈ds) (y:Dv h d u):eqTo h ds x u=eqb d x:=by unfold eqTo;rw[QB,@decide_eq_true_eq _ (JB _)];refine⟨λ⟨e,he,z,w⟩=>?_,λ w=>⟨d,hd,y,w⟩⟩;have p1:=q1R.mp pd d hd;have p2:=q1R.mp pd e he;rw[qBR (k:=8) p1 p2 px (q3E 8 p1 p2 y z)];exact w
theorem q6L {h:Heap}{ds:List D}{x:D}(pd:plL ds=true) (px:pl x=true):∀{es:List D}{us:List Value},(∀e∈es,e∈ds)->DvL h es us->us.any (eqTo h ds x)=es.any λ y=>eqb y x
 |[],us,_,y=>by cases (show us=[] from y);rfl
 |e::es,us,hs,y=>by obtain⟨u,r,rfl,y1,y2⟩:=y;rw[Q0,Q0,q6K pd px (hs e Qb) y1,q6L pd px (λ z hz=>hs z (Qa _ hz)) y2]
def rMem (p:Pm) (neg:Bool):R2:=λ x y H Q=>∃d e Hf ds,Ext Hf H/\RepB p H Hf d x/\RepB p H Hf e y/\(e = .lst ds\/e = .tup ds)/\pl d=true/\plL ds=true/\Q (.bl (neg ^^ ds.any λ y=>eqb y d)) H
theorem q27 {ds:List D}{x:D}{us:List Value}{A:Around}(pd:plL ds=true) (px:pl x=true) (y:DvL s.heap ds us) (z:Dv s.heap x u) (hu:A.units+8<cLine) :
  ∀w,w∈us.toArray->SeqAt.EqAt A s w u (eqTo s.heap ds x w):=λ w hw=>by
 obtain⟨d,hd,yd⟩:=y.mem (by simpa using hw);rw[q6K pd px hd yd];exact q35 8 (q1R.mp pd d hd) px yd z hu
theorem qJ1 (hK:p.K=X.K) (hu:X.A.units+64<cLine):OpR X (compareOp .In) (rMem p false):=by
 intro pins s σ H x y v u Q I rx ry h;obtain⟨d,e,Hf,ds,xt,h1,h2,c,p1,p2,q⟩:=h;have z1:=q3d hK I xt h1 rx;have z2:=q3d hK I xt h2 ry;have hu':X.A.in1.units+8<cLine:=by rw[Around.in1_units];lia
 have q':∀us:List Value,DvL s.heap ds us->EP X pins σ Q (.bool (us.toArray.any (eqTo s.heap ds d))) s:=λ us y=>by rw[List.any_toArray,q6L p2 p1 (λ _ h=>h) y];exact⟨.bl _,H,I,rfl,by simpa using q⟩
 rcases c with rfl|rfl
 ·obtain⟨a,us,rfl,w1,w2⟩:=z2;exact SeqAt.in_listAt (eqTo s.heap ds d) w1 (q27 p2 p1 w2 z1 hu') (q' us w2)
 ·obtain⟨a,us,rfl,w1,w2⟩:=z2;exact SeqAt.in_tupleAt (eqTo s.heap ds d) w1 (q27 p2 p1 w2 z1 hu') (q' us w2)
theorem q9M (hK:p.K=X.K) (hu:X.A.units+64<cLine):OpR X (compareOp .NotIn) (rMem p true):=by
 intro pins s σ H x y v u Q I rx ry h;obtain⟨d,e,Hf,ds,xt,h1,h2,c,p1,p2,q⟩:=h;have z1:=q3d hK I xt h1 rx;have z2:=q3d hK I xt h2 ry;have hu':X.A.in1.units+8<cLine:=by rw[Around.in1_units];lia
 have q':∀us:List Value,DvL s.heap ds us->EP X pins σ Q (.bool (!us.toArray.any (eqTo s.heap ds d))) s:=λ us y=>by rw[List.any_toArray,q6L p2 p1 (λ _ h=>h) y];exact⟨.bl _,H,I,rfl,by simpa using q⟩
 rcases c with rfl|rfl
 ·obtain⟨a,us,rfl,w1,w2⟩:=z2;exact SeqAt.notIn_listAt (eqTo s.heap ds d) w1 (q27 p2 p1 w2 z1 hu') (q' us w2)
 ·obtain⟨a,us,rfl,w1,w2⟩:=z2;exact SeqAt.notIn_tupleAt (eqTo s.heap ds d) w1 (q27 p2 p1 w2 z1 hu') (q' us w2)
end
end Snd
namespace Snd
open PySem PySem.Spec PyProof.Rows L2 Ev
variable {d:D}
section
variable {X:Cx}{p:Pm}{O:List Addr}{H:Hp}
def cmr:Cm->CmpOp
 | .eq=> .Eq | .ne=> .NotEq | .lt=> .Lt | .le=> .LtE | .gt=> .Gt | .ge=> .GtE | .isN=> .Is | .notN=> .IsNot | .mem=> .In | .nmem=> .NotIn
theorem qF5 (op:CmpOp):cmr (cmOf op)=op:=by cases op<;>rfl
theorem q9N (kvs:List (Key×V)) (i:Int):((kvs.map λ q=>keyD q.1).any λ y=>eqb y (.int i))=(valV kvs (.inl i)).isSome:=by
 induction kvs with
 |nil=>rfl
 |cons q r ih =>
  rw[Qx,Q0,ih];obtain⟨k,v⟩:=q;cases k with
  |inl j =>
   by_cases e:j=i
   ·subst e;rw[q3S rfl];simp[keyD,eqb]
   ·rw[q2p (λ z=>e (Sum.inl.inj z))];simp[keyD,eqb,e]
  |inr x=>rw[q2p (p:=(Sum.inr x,v)) (by intro z;cases z)];simp[keyD,eqb]
theorem qJ2 (hu:X.A.units+64<cLine):OpR X (compareOp .In) (λ x y H Q=>∃i a kvs,x = .int i/\y = .ref a/\Rd H a (.dK kvs)/\Q (.bl (valV kvs (.inl i)).isSome) H):=by intro pins s σ H x y v u Q I rx ry h;obtain⟨i,a,kvs,rfl,rfl,e,q⟩:=h;cases ry;exact d_in (by lia) I (.inl ⟨kvs,.inl i,e,rfl,rfl⟩) rx λ s' I'=>⟨.bl _,H,I',rfl,q⟩
theorem qBX (hu:X.A.units+64<cLine):OpR X (compareOp .NotIn) (λ x y H Q=>∃i a kvs,x = .int i/\y = .ref a/\Rd H a (.dK kvs)/\Q (.bl (!(valV kvs (.inl i)).isSome)) H):=by intro pins s σ H x y v u Q I rx ry h;obtain⟨i,a,kvs,rfl,rfl,e,q⟩:=h;cases ry;exact qFn (by lia) I (.inl ⟨kvs,.inl i,e,rfl,rfl⟩) rx λ s' I'=>⟨.bl _,H,I',rfl,q⟩
theorem q9O {Hf:Hp}{x:V}(h:RepB p H Hf d x):decide (x = .non)=(match d with | .non=>true|_=>false):=by
 cases d with
 |non=>cases (show x=_ from h);rfl
 |bl b=>cases (show x=_ from h);rfl
 |int i=>cases (show x=_ from h);rfl
 |str y=>obtain⟨rfl,_⟩:=h;rfl
 |tup l=>obtain⟨_,_,rfl,_⟩:=h;rfl
 |lst l=>obtain⟨_,_,rfl,_⟩:=h;rfl
 |dct k l=>obtain⟨_,_,rfl,_⟩:=h;rfl
 |exc c=>obtain⟨_,_,rfl,_⟩:=h;rfl
theorem q9P (hK:p.K=X.K) (hO:Th O H) (hu:X.A.units+64<cLine):∀(o:Cm) (d e r:D) (x y:V),cmD o d e = .ok r->RepB p H (fz O H) d x->RepB p H (fz O H) e y->
  ∃r2:R2,OpR X (compareOp (cmr o)) r2/\r2 x y H (Fin p O H r):=by
 intro o d e r x y h hx hy;have pf:∀b:Bool,Fin p O H (.bl b) (.bl b) H:=λ b=>q0M rfl;cases o with
 |eq =>
  obtain⟨c,rfl⟩:=q30 h;exact⟨_,qLR hK hu,d,e,_,q0Z,hx,hy,c,pf _⟩
 |ne =>
  obtain⟨c,rfl⟩:=q30 h;exact⟨_,qLS hK hu,d,e,_,q0Z,hx,hy,c,pf _⟩
 |lt =>
  obtain⟨c,rfl⟩:=q30 h;exact⟨_,qLT hK hu,d,e,_,q0Z,hx,hy,c,pf _⟩
 |ge =>
  obtain⟨c,rfl⟩:=q30 h;exact⟨_,qLU hK hu,d,e,_,q0Z,hx,hy,c,pf _⟩
 |le =>
  obtain⟨a,rfl,h⟩:=q1Y h;obtain⟨b,rfl,h⟩:=q1Y h;cases h;cases (show x=_ from hx);cases (show y=_ from hy);exact⟨_,qL3,_,_,rfl,rfl,pf _⟩
 |gt =>
  obtain⟨a,rfl,h⟩:=q1Y h;obtain⟨b,rfl,h⟩:=q1Y h;cases h;cases (show x=_ from hx);cases (show y=_ from hy);exact⟨_,qL4,_,_,rfl,rfl,pf _⟩
 |isN =>
  have hn:=q9O hx;obtain⟨rfl,h⟩:=q9L h;cases h;cases (show y=_ from hy);refine⟨_,qIJ,rfl,?_⟩;rw[hn];cases d<;>exact pf _
 |notN =>
  have hn:=q9O hx;obtain⟨rfl,h⟩:=q9L h;cases h;cases (show y=_ from hy);refine⟨_,qFl,rfl,?_⟩;rw[hn];cases d<;>exact pf _
 |mem =>
  simp only[cmD,memD] at h;split at h
  ·split at h
   ·rename_i xs c;simp only[Qd] at c;cases h;exact⟨_,qJ1 hK hu,d,_,_,xs,q0Z,hx,hy,.inl rfl,c.1,c.2,by simpa using pf _⟩
   ·cases h
  ·split at h
   ·rename_i xs c;simp only[Qd] at c;cases h;exact⟨_,qJ1 hK hu,d,_,_,xs,q0Z,hx,hy,.inr rfl,c.1,c.2,by simpa using pf _⟩
   ·cases h
  ·split at h
   ·cases h;cases (show x=_ from hx);obtain⟨a,kvs,rfl,s1,rfl,_⟩:=hy;refine⟨_,qJ2 hu,_,a,kvs,rfl,rfl,s1,?_⟩;rw[<-q9N];exact pf _
   ·cases h
  ·cases h
 |nmem =>
  simp only[cmD,memD] at h;split at h
  ·split at h
   ·rename_i xs c;simp only[Qd] at c;cases h;exact⟨_,q9M hK hu,d,_,_,xs,q0Z,hx,hy,.inl rfl,c.1,c.2,by simpa using pf _⟩
   ·cases h
  ·split at h
   ·rename_i xs c;simp only[Qd] at c;cases h;exact⟨_,q9M hK hu,d,_,_,xs,q0Z,hx,hy,.inr rfl,c.1,c.2,by simpa using pf _⟩
   ·cases h
  ·split at h
   ·cases h;cases (show x=_ from hx);obtain⟨a,kvs,rfl,s1,rfl,_⟩:=hy;refine⟨_,qBX hu,_,a,kvs,rfl,rfl,s1,?_⟩;rw[<-q9N];exact pf _
   ·cases h
  ·cases h
theorem qF6 {Hf:Hp}{ds:List D}{vs:List V}{i:Int}(h:RepL p Hf ds vs) (e:nth ds i = .ok d):∃v,atI vs i=some v/\Rep p Hf d v:=by
 have hl:=h.length;unfold nth at e;unfold atI ixN;split at e
 ·rename_i z hz;cases e;split at hz
  ·rename_i c;obtain⟨v,e1,e2⟩:=h.get hz;refine⟨v,?_,e2⟩;have:=(Qc.mp e1).1;rw[if_pos c,if_pos (by lia)];exact e1
  ·rename_i c;split at hz
   ·rename_i c2;obtain⟨v,e1,e2⟩:=h.get hz;refine⟨v,?_,e2⟩;rw[if_neg c,if_pos (by lia)];rw[hl] at e1;exact e1
   ·cases hz
 ·cases e
theorem q9Q {Hf:Hp}{i:Int}{d:D}:∀{kvs:List (Key×V)}{ds:List D},RepL p Hf ds (kvs.map (·.2))->look i (kvs.map λ q=>keyD q.1) ds = .ok d->∃v,valV kvs (.inl i)=some v/\Rep p Hf d v
 |[],ds,h,e=>by cases ds<;>simp[look] at e
 |(k,w)::r,ds,h,e=>by
  cases ds with
  |nil=>cases k<;>simp[look,keyD] at e
  |cons d1 ds =>
   obtain⟨v,r',q,h1,h2⟩:=h;injection q with q1 q2
   subst q1 q2;cases k with
   |inl j =>
    simp only[Qx,keyD,look] at e;split at e
    ·rename_i c;subst c;cases e;exact⟨w,q3S rfl,h1⟩
    ·rename_i c;obtain⟨v,e1,e2⟩:=q9Q h2 e;exact⟨v,by rw[q2p (λ z=>c (Sum.inl.inj z))];exact e1,e2⟩
   |inr x=>simp[look,keyD] at e
theorem qGF (hu:X.A.units+64<cLine):IxR X (λ x y H Q=>∃a kvs i v,x = .ref a/\y = .int i/\Rd H a (.dK kvs)/\valV kvs (.inl i)=some v/\Q v H):=by intro value slice pins s σ H x y v u Q I rx ry h hs;obtain⟨a,kvs,i,z,rfl,rfl,e,hv,q⟩:=h;cases rx;have g:DGet H a (.int i) (some z):= .inl ⟨kvs,.inl i,e,rfl,hv.symm⟩;obtain⟨ht,_⟩:=qIM I (.inl ⟨kvs,e⟩);exact tail_any (ops:=[.ref a,u]) ht slot_dict_getitem.lookup (qB0 (by lia) I g ry λ w' s' I' rw'=>⟨z,H,I',rw',q⟩) hs
theorem qDg (hK:p.K=X.K) (hu:X.A.units+64<cLine):∀(d e r:D) (x y:V),idxD d e = .ok r->RepB p H (fz O H) d x->RepB p H (fz O H) e y->
  ∃r2:R2,IxR X r2/\r2 x y H (Fin p O H r):=by
 intro d e r x y h hx hy;unfold idxD at h;split at h
 ·cases (show y=_ from hy);obtain⟨a,vs,rfl,s1,r1⟩:=hx;obtain⟨v,e1,e2⟩:=qF6 r1 h;exact⟨_,qB4,a,vs,_,v,rfl,rfl,hK▸s1,e1,q0M e2⟩
 ·cases (show y=_ from hy);obtain⟨a,vs,rfl,s1,z,r1⟩:=hx;obtain⟨v,e1,e2⟩:=qF6 r1 h;exact⟨_,qIP,a,vs,_,v,rfl,rfl,hK▸q0Z.sqT s1,e1,q0M e2⟩
 ·cases (show y=_ from hy);obtain⟨a,kvs,rfl,s1,rfl,r1⟩:=hx;obtain⟨v,e1,e2⟩:=q9Q r1 h;exact⟨_,qGF hu,a,kvs,_,v,rfl,rfl,s1,e1,q0M e2⟩
 ·cases h
theorem qDh (hK:p.K=X.K) {x:V}{b:Bool}(h:tr d = .ok b) (hx:RepB p H (fz O H) d x):TruV X.K x H b:=by
 unfold tr at h;split at h<;>cases h
 ·cases (show x=_ from hx);rfl
 ·cases (show x=_ from hx);rfl
 ·cases (show x=_ from hx);rfl
 ·obtain⟨rfl,z⟩:=hx;refine⟨Qn z q0a,?_⟩;rw[QB];simp
 ·obtain⟨a,vs,rfl,s1,z,r1⟩:=hx;refine .inr (.inl ⟨vs,hK▸q0Z.sqT s1,?_⟩);have:=r1.length;rename_i ds;cases ds<;>cases vs<;>first|rfl|(simp at this)
 ·obtain⟨a,vs,rfl,s1,r1⟩:=hx;refine .inl ⟨vs,hK▸s1,?_⟩;have:=r1.length;rename_i ds;cases ds<;>cases vs<;>first|rfl|(simp at this)
end
end Snd
namespace Snd
open PySem PySem.Spec PyProof.Rows L2 Ev
variable {σ:L2.St}{H H':Hp}{d:D}{ρ:Ev.Env}{os:List (List Addr)}{a:PySem.Expr}{la lb:L}{pos:Pos}
structure BOk (X:Cx) (pins:List (Addr×Obj)) (H:Hp) (B:Heap):Prop where
 hok:HOk X.prog X.w H B
 keep:∀b o,X.s₀.heap.get? b=some o->X.H₀ b=none->b∉frs X.stack->b∉X.ex->B.get? b=some o
 there:∀b o,X.s₀.heap.get? b=some o->b∉frs X.stack->b∉X.ex->∃o',B.get? b=some o'
 pin:∀q∈X.pn++pins,B.get? q.1=some q.2
def Mid (X:Cx) (p:Pm) (pins:List (Addr×Obj)) (σ:L2.St) (H:Hp) (c:Nat) (e:Value) (s':Shared):Prop :=
 ∃H' a C,e = .ref a/\p.cls[c]? = some C/\Ext H H'/\
  ((∃s1 vs,Inv X pins σ H' s1/\Heap.MadeExcOf s1.heap s'.heap a (.ref C) vs/\s'={s1 with heap:=s'.heap})\/
   (∃B t,Inv X pins σ H' s'/\BOk X pins H' B/\Heap.FlyingW B X.stack a (.ref C) (.ref t) s'.heap)\/
   (∃B t L,X.env.frame=some L/\Inv X pins σ H' s'/\BOk X pins H' B/\Heap.HeldW B X.stack a (.ref C) (.ref t) L s'.heap))
theorem Mid.ext {X:Cx}{p:Pm}{pins:List (Addr×Obj)}{H1:Hp}{c:Nat}{e:Value}{s':Shared}(m:Mid X p pins σ H1 c e s') (x:Ext H H1):Mid X p pins σ H c e s':=by obtain⟨H',a,C,h1,h2,h3,h4⟩:=m;exact⟨H',a,C,h1,h2,x.trans h3,h4⟩
theorem q4k {p:Pm}{H H' Hf Hf':Hp}(x:Ext H H') (y:Ext Hf Hf'):∀{bs:List Addr}{xss:List (List D)},q36 p H Hf bs xss->q36 p H' Hf' bs xss
 |[],_,h=>h
 |b::bs,xss,h=>by obtain⟨xs,r,e,⟨vs,h1,h2⟩,h3⟩:=h;exact⟨xs,r,e,⟨vs,x _ _ h1,h2.mono y⟩,q4k x y h3⟩
theorem qBY {p:Pm}{Hf Hf':Hp}(x:Ext H H') (y:Ext Hf Hf') {a:Addr}(h:qGA p H Hf a d):qGA p H' Hf' a d:=by
 cases d with
 |lst ds=>obtain⟨vs,h1,h2⟩:=h;exact⟨vs,x _ _ h1,h2.mono y⟩
 |dct ks ds=>obtain⟨kvs,h1,h2,h3⟩:=h;exact⟨kvs,x _ _ h1,h2,h3.mono y⟩
 |_=>exact h.elim
theorem q6M {p:Pm}{Hf Hf':Hp}(x:Ext H H') (y:Ext Hf Hf') {sl:Option Sl}{v:Option V}{as:List Addr}(h:q3c p H Hf sl v as):q3c p H' Hf' sl v as:=by
 cases sl with
 |none=>exact h
 |some s=>cases s with
  |val d=>obtain⟨h1,w,h2,h3⟩:=h;exact⟨h1,w,h2,h3.mono y⟩
  |own d=>obtain⟨a,h1,h2,h3⟩:=h;exact⟨a,h1,h2,qBY x y h3⟩
  |own2 xss=>obtain⟨a,bs,h1,h2,h3,h4⟩:=h;exact⟨a,bs,h1,h2,x _ _ h3,q4k x y h4⟩
theorem q1l {p:Pm}{H H' Hf Hf':Hp}(x:Ext H H') (y:Ext Hf Hf'):∀{ρ:Ev.Env}{σ:L2.St}{os:List (List Addr)},q1I p H Hf ρ σ os->q1I p H' Hf' ρ σ os
 |[],_,_,h=>h
 |_::ρ,_,_,h=>by obtain⟨y1,σ',as,os',e1,e2,h1,h2⟩:=h;exact⟨y1,σ',as,os',e1,e2,q6M x y h1,q1l x y h2⟩
theorem Rel.th {p:Pm}(r:Rel p ρ σ os H):Th os.flatten H:=r.there
theorem Rel.ext {p:Pm}(r:Rel p ρ σ os H) (x:Ext H H'):Rel p ρ σ os H' :=
 ⟨r.nd,r.th.ext x,q1l x (q1E x) r.slots⟩
theorem q3e {p:Pm}{H Hf:Hp}:∀{ρ:Ev.Env}{σ:L2.St}{os:List (List Addr)}{i:Nat}{x:Option Sl},q1I p H Hf ρ σ os->ρ[i]? = some x->∃y as,σ[i]? = some y/\os[i]? = some as/\q3c p H Hf x y as
 |[],_,_,i,x,h,e=>by simp at e
 |x0::ρ,_,_,0,x,h,e=>by obtain⟨y1,σ',as,os',rfl,rfl,h1,h2⟩:=h;simp at e;subst e;exact⟨y1,as,rfl,rfl,h1⟩
 |x0::ρ,_,_,i+1,x,h,e=>by obtain⟨y1,σ',as,os',rfl,rfl,h1,h2⟩:=h;obtain⟨y,bs,e1,e2,e3⟩:=q3e (i:=i) h2 (by simpa using e);exact⟨y,bs,by simpa using e1,by simpa using e2,e3⟩
theorem Rel.val {p:Pm}(r:Rel p ρ σ os H) {i:Nat}(e:getV ρ i = .ok d):∃v,σ[i]? = some (some v)/\Rep p (fz os.flatten H) d v:=by
 unfold getV at e;split at e
 ·rename_i d' h;cases e;obtain⟨y,as,e1,_,h1,v,e2,h2⟩:=q3e r.slots h;exact⟨v,by rw[e1,e2],h2⟩
 ·cases e
theorem Rel.bor {p:Pm}(r:Rel p ρ σ os H) {i:Nat}(e:getB ρ i = .ok d):∃v,σ[i]? = some (some v)/\RepB p H (fz os.flatten H) d v:=by
 unfold getB at e;split at e
 ·rename_i d' h;cases e;obtain⟨y,as,e1,_,h1,v,e2,h2⟩:=q3e r.slots h;exact⟨v,by rw[e1,e2],h2.b q0Z⟩
 ·rename_i d' h;cases e;obtain⟨y,as,e1,_,a,e2,_,h2⟩:=q3e r.slots h;refine⟨.ref a,by rw[e1,e2],?_⟩;cases d with
  |lst ds=>obtain⟨vs,q1,q2⟩:=h2;exact⟨a,vs,rfl,SqL.of q1,q2⟩
  |dct ks ds=>obtain⟨kvs,q1,q2,q3⟩:=h2;exact⟨a,kvs,rfl,.inl q1,q2,q3⟩
  |_=>exact h2.elim
 ·cases e
section
variable {X:Cx}{p:Pm}{G:Nat->List D->R D}{sub:Nat->Nat->Bool}
def Gd (X:Cx) (p:Pm) (pins:List (Addr×Obj)) (σ:L2.St) (os:List (List Addr)) (H:Hp) (r:R D) (u:Value) (s':Shared):Prop :=
 ∃d v H',r = .ok d/\Inv X pins σ H' s'/\RelV v u/\Ext H H'/\Rep p (fz os.flatten H') d v
def Gb (X:Cx) (p:Pm) (pins:List (Addr×Obj)) (σ:L2.St) (os:List (List Addr)) (H:Hp) (r:R D) (u:Value) (s':Shared):Prop :=
 ∃d v H',r = .ok d/\Inv X pins σ H' s'/\RelV v u/\Ext H H'/\RepB p H' (fz os.flatten H') d v
def Er {α:Type}(X:Cx) (p:Pm) (pins:List (Addr×Obj)) (σ:L2.St) (H:Hp) (r:R α) (e:Value) (s':Shared):Prop:=∃c,r = .err c/\Mid X p pins σ H c e s'
def SE (X:Cx) (p:Pm) (G:Nat->List D->R D) (sub:Nat->Nat->Bool) (e:PySem.Expr) (l:L):Prop :=
 ∀(pins:List (Addr×Obj)) (s:Shared) (σ:L2.St) (H:Hp) (ρ:Ev.Env) (os:List (List Addr)),Inv X pins σ H s->Rel p ρ σ os H->ev G sub l ρ ≠ .stuck->
  wpAny (model X.prog X.w) X.A (eval e X.env) (Gd X p pins σ os H (ev G sub l ρ)) (Er X p pins σ H (ev G sub l ρ)) s
def SB (X:Cx) (p:Pm) (G:Nat->List D->R D) (sub:Nat->Nat->Bool) (e:PySem.Expr) (l:L):Prop :=
 ∀(pins:List (Addr×Obj)) (s:Shared) (σ:L2.St) (H:Hp) (ρ:Ev.Env) (os:List (List Addr)),Inv X pins σ H s->Rel p ρ σ os H->ev G sub l ρ ≠ .stuck->
  wpAny (model X.prog X.w) X.A (eval e X.env) (Gb X p pins σ os H (ev G sub l ρ)) (Er X p pins σ H (ev G sub l ρ)) s
theorem SE.b {e:PySem.Expr}{l:L}(h:SE X p G sub e l):SB X p G sub e l:=λ pins s σ H ρ os I R hs =>
 wpAny_mono (h pins s σ H ρ os I R hs) (λ u s' ⟨d,v,H',e1,I',rv,x,q⟩=>⟨d,v,H',e1,I',rv,x,q.b q0Z⟩) λ _ _ z=>z
theorem q0A {α β:Type}{r:R α}{f:α->R β}(h:r.bind f ≠ .stuck):r ≠ .stuck:=λ e=>h (by rw[e];rfl)
theorem qAY {pins:List (Addr×Obj)}{H1:Hp}{r:D}{rr:R D}{E:Value->Shared->Prop}{u:Value}{s':Shared}(x:Ext H H1) (e:rr = .ok r) (h:EP (X.wish E) pins σ (Fin p os.flatten H1 r) u s'):Gd X p pins σ os H rr u s':=by obtain⟨v,H',I',rv,x',q⟩:=h;exact⟨r,v,H',e,I'.q2Y,rv,x.trans x',q⟩
theorem q9R {b:PySem.Expr}{f:Value->Value->Sem Value}{g:D->D->R D}(ha:SB X p G sub a la) (hb:SB X p G sub b lb)
  (hf:∀(E:Value->Shared->Prop) (pins:List (Addr×Obj)) (s:Shared) (σ:L2.St) (H:Hp) (os:List (List Addr)) (x y:V) (v u:Value) (d e r:D),Inv X pins σ H s->Th os.flatten H->RelV x v->RelV y u->RepB p H (fz os.flatten H) d x->RepB p H (fz os.flatten H) e y->g d e = .ok r->
   wpAny (model X.prog X.w) X.A (f v u) (EP (X.wish E) pins σ (Fin p os.flatten H r)) E s)
  (hg:∀d e,g d e = .stuck\/∃r,g d e = .ok r)
  {pins:List (Addr×Obj)}{s:Shared}{σ:L2.St}{H:Hp}{ρ:Ev.Env}{os:List (List Addr)}(I:Inv X pins σ H s) (R:Rel p ρ σ os H) {rr:Ev.R D}(er:rr=(ev G sub la ρ).bind λ x=>(ev G sub lb ρ).bind λ y=>g x y) (hs:rr ≠ .stuck) :
  wpAny (model X.prog X.w) X.A (eval a X.env) (λ v s₁=>wpAny (model X.prog X.w) X.A (eval b X.env) (λ u s₂=>wpAny (model X.prog X.w) X.A (f v u) (Gd X p pins σ os H rr) (Er X p pins σ H rr) s₂) (Er X p pins σ H rr) s₁) (Er X p pins σ H rr) s:=by
 subst er;refine wpAny_mono (ha pins s σ H ρ os I R (q0A hs)) (λ v s1 ⟨d,x,H1,e1,I1,r1,x1,q1⟩=>?_) (λ e s' ⟨c,e1,m⟩=>⟨c,by rw[e1];rfl,m⟩);rw[e1,q00] at hs |-;have R1:=R.ext x1;refine wpAny_mono (hb pins s1 σ H1 ρ os I1 R1 (q0A hs)) (λ u s2 ⟨d2,y,H2,e2,I2,r2,x2,q2⟩=>?_) (λ e s' ⟨c,e2,m⟩=>⟨c,by rw[e2];rfl,m.ext x1⟩);rw[e2,q00] at hs |-;rcases hg d d2 with z|⟨r,z⟩
 ·exact absurd z hs
 rw[z];exact wpAny_mono (hf _ pins s2 σ H2 os x y v u d d2 r I2 (R1.ext x2).th r1 r2 (q1.mono x2 (q1E x2)) q2 z) (λ w s3 h3=>qAY (x1.trans x2) rfl h3) λ _ _ z=>z
theorem q9S {c:Prop}{_:Decidable c}{x:D}:(if c then R.ok x else .stuck) = .stuck\/∃r,(if c then R.ok x else .stuck) = .ok r:=by
 by_cases z:c
 ·rw[if_pos z];exact .inr ⟨_,rfl⟩
 ·rw[if_neg z];exact .inl rfl
theorem q2r {f:Int->R D}(h:∀i,f i = .stuck\/∃r,f i = .ok r) (d:D):intD f d = .stuck\/∃r,intD f d = .ok r:=by cases d<;>first|exact h _|exact .inl rfl
theorem qGG (o:Op2) (a b:Int):opI o a b = .stuck\/∃r,opI o a b = .ok r:=by cases o<;>first|exact .inl rfl|exact .inr ⟨_,rfl⟩|exact q9S
theorem qBZ (o:Op2) (d e:D):opD o d e = .stuck\/∃r,opD o d e = .ok r:=by
 unfold opD;split
 ·cases d<;>first|exact .inl rfl|exact q2r (λ _=> .inr ⟨_,rfl⟩) e|(cases e<;>first|exact .inl rfl|exact q9S)
 ·cases d<;>first|exact .inl rfl|exact q2r (λ _=>q9S) e
 ·exact q2r (λ a=>q2r (qGG o a) e) d
theorem qDi (d e:D):memD d e = .stuck\/∃r,memD d e = .ok r:=by
 unfold memD;split<;>first
  |exact .inl rfl
  |(split<;>first|exact .inr ⟨_,rfl⟩|exact .inl rfl)
theorem qBa (o:Cm) (d e:D):cmD o d e = .stuck\/∃r,cmD o d e = .ok r:=by
 cases o<;>first
  |exact q9S
  |exact q2r (λ a=>q2r (λ b=> .inr ⟨_,rfl⟩) e) d
  |(cases e<;>first|exact .inl rfl|exact .inr ⟨_,rfl⟩)
  |(unfold cmD;dsimp only;rcases qDi d e with z|⟨r,z⟩<;>rw[z]<;>first|exact .inl rfl|exact .inr ⟨_,rfl⟩)
theorem qGH (l:List D) (i:Int):nth l i = .stuck\/∃r,nth l i = .ok r:=by unfold nth;split<;>first|exact .inr ⟨_,rfl⟩|exact .inl rfl
theorem q9T (i:Int):∀(ks vs:List D),look i ks vs = .stuck\/∃r,look i ks vs = .ok r
 |[],vs=>by unfold look;exact .inl rfl
 |k::ks,[]=>by cases k<;>(unfold look;exact .inl rfl)
 |k::ks,v::vs=>by
  cases k<;>first
   |(unfold look;exact .inl rfl)
   |(unfold look;split<;>first|exact .inr ⟨_,rfl⟩|exact q9T i ks vs)
theorem qDj (d e:D):idxD d e = .stuck\/∃r,idxD d e = .ok r:=by unfold idxD;split<;>first|exact qGH _ _|exact q9T _ _ _|exact .inl rfl
theorem qLV {b:PySem.Expr}{op:Operator}{o:Op2}(hK:p.K=X.K) (ho:opOf op=some o) (ha:SB X p G sub a la) (hb:SB X p G sub b lb):SE X p G sub (.BinOp a op b pos) (.op o la lb):=by intro pins s σ H ρ os I R hs;rw[q9I ho];refine wpAny_BinOp (q9R ha hb (λ E pins s σ H os x y v u d e r I t rx ry h1 h2 h=>?_) (qBZ o) I R (q0m ..) hs);obtain⟨r2,k,q⟩:=qDe (X:=X.wish E) hK t o d e r x y h h1 h2;exact k pins s σ H x y v u _ (I.wish E) rx ry q
theorem qLW {b:PySem.Expr}{op:CmpOp}(hK:p.K=X.K) (hu:X.A.units+64<cLine) (hm:behindInMarks op b=false) (ha:SB X p G sub a la) (hb:SB X p G sub b lb):SE X p G sub (.Compare a [op] [b] pos) (.cm (cmOf op) la lb):=by intro pins s σ H ρ os I R hs;refine wpAny_Compare1 (q9R ha hb (λ E pins s σ H os x y v u d e r I t rx ry h1 h2 h=>?_) (qBa (cmOf op)) I R (qAU ..) hs) hm;obtain⟨r2,k,q⟩:=q9P (X:=X.wish E) hK t hu (cmOf op) d e r x y h h1 h2;rw[qF5] at k;exact k pins s σ H x y v u _ (I.wish E) rx ry q
theorem qJ3 {b:PySem.Expr}(hK:p.K=X.K) (hu:X.A.units+64<cLine) (hs:q8O b) (ha:SB X p G sub a la) (hb:SB X p G sub b lb):SE X p G sub (.Subscript a b pos) (.idx la lb):=by intro pins s σ H ρ os I R hn;refine Subscript_ (q9R ha hb (λ E pins s σ H os x y v u d e r I t rx ry h1 h2 h=>?_) qDj I R (q25 ..) hn);obtain⟨r2,k,q⟩:=qDg (X:=X.wish E) (O:=os.flatten) hK hu d e r x y h h1 h2;exact k a b pins s σ H x y v u _ (I.wish E) rx ry q (hs _ _)
end
end Snd
namespace Snd
open PySem PySem.Spec PyProof.Rows L2 Ev
variable {d:D}{pos:Pos}{pins:List (Addr×Obj)}{σ:L2.St}{H:Hp}{x:Str}{i:Nat}{u:Value}{a b:PySem.Expr}{la lb:L}{r es:List PySem.Expr}{s':Shared}{ls:List L}
section
variable {X:Cx}{p:Pm}{G:Nat->List D->R D}{sub:Nat->Nat->Bool}
theorem qF7 {c:Const}{j:Nat}(h:q8Q c=some d):SE X p G sub (.Constant c j pos) (.con d):=by
 intro pins s σ H ρ os I R hs;cases c<;>simp[q8Q] at h
 ·subst h;exact Constant_none ⟨_,.non,H,rfl,I,rfl,Ext.refl _,rfl⟩
 ·subst h;exact Constant_bool ⟨_,.bl _,H,rfl,I,rfl,Ext.refl _,rfl⟩
 ·subst h;exact wpAny_Constant_int ⟨_,.int _,H,rfl,I.tok _,⟨_,rfl⟩,Ext.refl _,rfl⟩
 ·obtain⟨h1,rfl⟩:=h;exact Calls.Constant_str ⟨_,.str _,H,rfl,I.tok _,⟨_,rfl⟩,Ext.refl _,rfl,Qn h1 (by decide)⟩
theorem q2c {E:Value->Shared->Prop}{s:Shared}{v:V}{Q:Value->Shared->Prop}(I:Inv X pins σ H s) (hN:X.N[i]? = some x) (hv:Vis X.env.scope x) (e:σ[i]? = some (some v))
  (hd:(x==("__debug__":Str))=false) (hcd:(x==("__classdict__":Str))=false) (h:∀u,RelV v u->Q u s):wpAny (model X.prog X.w) X.A (eval (.Name x pos) X.env) Q E s:=by
 obtain⟨m,hn,hl⟩:=I.loc;obtain⟨u,r,l⟩:=hl i x v hN e hv;rcases l with ⟨hk,hm⟩|⟨hk,c,hc,hcell⟩
 ·exact wpAny_Name (wpAny_loadName_local I.ok.kind hk hn hm (h u r)) hd
 ·rcases hk with hk|hk
  ·exact wpAny_Name (wpAny_loadName_cell I.ok.kind hk hc hcell (h u r)) hd
  ·exact wpAny_Name (wpAny_loadName_free I.ok.kind hk hc hcell (h u r) hcd) hd
theorem qJ4 (hN:X.N[i]? = some x) (hv:Vis X.env.scope x) (hd:(x==("__debug__":Str))=false) (hcd:(x==("__classdict__":Str))=false):SE X p G sub (.Name x pos) (.var i):=by
 intro pins s σ H ρ os I R hs;rw[q1U] at hs |-;cases e:getV ρ i with
 |ok d =>
  obtain⟨v,e1,q⟩:=R.val e;exact q2c I hN hv e1 hd hcd λ u r=>⟨d,v,H,rfl,I,r,Ext.refl _,q⟩
 |err c=>unfold getV at e;split at e<;>cases e
 |stuck=>exact absurd e hs
theorem qF8 (hN:X.N[i]? = some x) (hv:Vis X.env.scope x) (hd:(x==("__debug__":Str))=false) (hcd:(x==("__classdict__":Str))=false):SB X p G sub (.Name x pos) (.bor i):=by
 intro pins s σ H ρ os I R hs;rw[qEw] at hs |-;cases e:getB ρ i with
 |ok d =>
  obtain⟨v,e1,q⟩:=R.bor e;exact q2c I hN hv e1 hd hcd λ u r=>⟨d,v,H,rfl,I,r,Ext.refl _,q⟩
 |err c=>unfold getB at e;split at e<;>cases e
 |stuck=>exact absurd e hs
theorem qGI {v:V}(hg:Gl X x) (hm:X.mg x=some u) (r:RelV v u) (hr:∀H,Rep p H d v) (hd:(x==("__debug__":Str))=false):SE X p G sub (.Name x pos) (.con d):=λ pins s σ H ρ os I R hs =>
 q2X I hg hm ⟨d,v,H,rfl,I,r,Ext.refl _,hr _⟩ hd
theorem qJ5 (ha:SE X p G sub a la):SE X p G sub (.UnaryOp .USub a pos) (.neg la):=by
 intro pins s σ H ρ os I R hs;rw[qId] at hs |-;refine UnaryOp_ (wpAny_mono (ha pins s σ H ρ os I R (q0A hs)) (λ v s1 ⟨d,x,H1,e1,I1,r1,x1,q1⟩=>?_) (λ e s' ⟨c,e1,m⟩=>⟨c,by rw[e1];rfl,m⟩));rw[e1,q00] at hs |-;cases d<;>first
  |exact absurd rfl hs
  |skip
 cases (show x=_ from q1);obtain⟨t,rfl⟩:=r1;exact neg_int ⟨_,.int _,H1,rfl,I1.tok _,⟨_,rfl⟩,x1,rfl⟩
def Tp (X:Cx) (p:Pm) (pins:List (Addr×Obj)) (σ:L2.St) (H:Hp) (r:R Bool) (b:Bool) (s':Shared):Prop:=∃H',r = .ok b/\Inv X pins σ H' s'/\Ext H H'
def ST (X:Cx) (p:Pm) (G:Nat->List D->R D) (sub:Nat->Nat->Bool) (e:PySem.Expr) (l:T):Prop :=
 ∀(whole:Sem Value) (pins:List (Addr×Obj)) (s:Shared) (σ:L2.St) (H:Hp) (ρ:Ev.Env) (os:List (List Addr)),(whole=eval e X.env\/q8R e=true)->Inv X pins σ H s->Rel p ρ σ os H->tst G sub l ρ ≠ .stuck->
  wpAny (model X.prog X.w) X.A (isTrue e X.env whole) (Tp X p pins σ H (tst G sub l ρ)) (Er X p pins σ H (tst G sub l ρ)) s
theorem q3F (hK:p.K=X.K) {s:Shared}{H0:Hp}{os:List (List Addr)}{x:V}{v:Value}{E:Value->Shared->Prop}{rr:R Bool}(I:Inv X pins σ H s) (r:RelV x v) (q:RepB p H (fz os.flatten H) d x) (x0:Ext H0 H) (hs:tr d ≠ .stuck) (er:rr=tr d) :
  wpAny (model X.prog X.w) X.A (truthy v) (Tp X p pins σ H0 rr) E s:=by
 cases e:tr d with
 |ok b =>
  refine thn (qIK (X:=X.wish E) pins s σ H x v (λ b' H'=>b'=b/\H'=H) (I.wish E) r ⟨b,qDh (X:=X.wish E) (O:=os.flatten) hK e q,rfl,rfl⟩) λ b' s' h=>?_;obtain⟨H',I',rfl,rfl⟩:=h;exact⟨H',by rw[er,e],I'.q2Y,x0⟩
 |err c=>unfold tr at e;split at e<;>cases e
 |stuck=>exact absurd e hs
theorem st_e {e:PySem.Expr}{l:L}(hK:p.K=X.K) (he:∀whole,isTrue e X.env whole=(do let v <-whole;standAt e.pos;holding [v] (truthy v))) (hb:q8R e=false) (h:SB X p G sub e l):ST X p G sub e (.e l):=by
 intro whole pins s σ H ρ os hw I R hs;rcases hw with rfl|hw
 ·rw[q7J] at hs |-;refine isTrue_plain (wpAny_mono (h pins s σ H ρ os I R (q0A hs)) (λ v s1 ⟨d,x,H1,e1,I1,r1,x1,q1⟩=>?_) (λ e s' ⟨c,e1,m⟩=>⟨c,by rw[e1];rfl,m⟩)) (he _);rw[e1,q00] at hs |-;exact q3F hK I1 r1 q1 x1 hs rfl
 ·rw[hb] at hw;cases hw
theorem qLX {op:CmpOp}(hK:p.K=X.K) (hu:X.A.units+64<cLine) (hm:behindInMarks op b=false) (ha:SB X p G sub a la) (hb:SB X p G sub b lb):ST X p G sub (.Compare a [op] [b] pos) (.e (.cm (cmOf op) la lb)):=by
 intro whole pins s σ H ρ os hw I R hs;rw[q7J] at hs |-;have hs':ev G sub (.cm (cmOf op) la lb) ρ ≠ .stuck:=q0A hs;have two:=q9R (X:=X) ha hb (f:=compareOp op) (g:=cmD (cmOf op)) (λ E pins s σ H os x y v u d e r I t rx ry h1 h2 h=>by obtain⟨r2,k,q⟩:=q9P (X:=X.wish E) hK t hu (cmOf op) d e r x y h h1 h2;rw[qF5] at k;exact k pins s σ H x y v u _ (I.wish E) rx ry q) (qBa (cmOf op)) I R (qAU ..) hs'
 have er:∀e s',Er X p pins σ H (ev G sub (.cm (cmOf op) la lb) ρ) e s'->Er X p pins σ H ((ev G sub (.cm (cmOf op) la lb) ρ).bind tr) e s':=λ e s' ⟨c,e1,m⟩=>⟨c,by rw[e1];rfl,m⟩
 refine wpAny_isTrue_Compare1 (wpAny_mono two (λ v s1 h1=>wpAny_mono h1 (λ u s2 h2=>wpAny_mono h2 (λ w s3 h3=>?_) er) er) er) hm;obtain⟨d,x,H1,e1,I1,r1,x1,q1⟩:=h3;rw[e1,q00] at hs |-;exact q3F hK I1 r1 (q1.b q0Z) x1 hs rfl
theorem qJ6 {la:T}(ha:ST X p G sub a la):ST X p G sub (.UnaryOp .Not a pos) (.not la):=by intro whole pins s σ H ρ os hw I R hs;rw[q8Y] at hs |-;refine isTrue_not (wpAny_mono (ha _ pins s σ H ρ os (.inl rfl) I R (q0A hs)) (λ b s1 ⟨H1,e1,I1,x1⟩=>?_) (λ e s' ⟨c,e1,m⟩=>⟨c,by rw[e1];rfl,m⟩));exact⟨H1,by rw[e1];rfl,I1,x1⟩
theorem qGJ {la:T}(ha:ST X p G sub a la):ST X p G sub (.BoolOp .And [a] pos) la:=by
 intro whole pins s σ H ρ os hw I R hs;refine isTrue_and (wpAny_mono (ha _ pins s σ H ρ os (.inl rfl) I R hs) (λ c s1 e=>?_) (λ _ _ z=>z));cases c with
 |true=>exact isTrue_and_nil e
 |false=>exact e
theorem qJ7 {la:T}(ha:ST X p G sub a la):ST X p G sub (.BoolOp .Or [a] pos) la:=by
 intro whole pins s σ H ρ os hw I R hs;refine isTrue_or (wpAny_mono (ha _ pins s σ H ρ os (.inl rfl) I R hs) (λ c s1 e=>?_) (λ _ _ z=>z));cases c with
 |false=>exact isTrue_or_nil e
 |true=>exact e
theorem qJ8 {la lb:T}(ha:ST X p G sub a la) (hb:ST X p G sub (.BoolOp .And (b::r) pos) lb):ST X p G sub (.BoolOp .And (a::b::r) pos) (.and la lb):=by
 intro whole pins s σ H ρ os hw I R hs;rw[q43] at hs |-;refine isTrue_and (wpAny_mono (ha _ pins s σ H ρ os (.inl rfl) I R (q0A hs)) (λ c s1 ⟨H1,e1,I1,x1⟩=>?_) (λ e s' ⟨c,e1,m⟩=>⟨c,by rw[e1];rfl,m⟩));rw[e1,q00] at hs |-;cases c with
 |false=>exact⟨H1,rfl,I1,x1⟩
 |true =>
  rw[if_pos rfl] at hs |-;exact wpAny_mono (hb _ pins s1 σ H1 ρ os (.inr rfl) I1 (R.ext x1) hs) (λ c s2 ⟨H2,e2,I2,x2⟩=>⟨H2,e2,I2,x1.trans x2⟩) (λ e s' ⟨c,e1,m⟩=>⟨c,e1,m.ext x1⟩)
theorem qLY {la lb:T}(ha:ST X p G sub a la) (hb:ST X p G sub (.BoolOp .Or (b::r) pos) lb):ST X p G sub (.BoolOp .Or (a::b::r) pos) (.or la lb):=by
 intro whole pins s σ H ρ os hw I R hs;rw[qEx] at hs |-;refine isTrue_or (wpAny_mono (ha _ pins s σ H ρ os (.inl rfl) I R (q0A hs)) (λ c s1 ⟨H1,e1,I1,x1⟩=>?_) (λ e s' ⟨c,e1,m⟩=>⟨c,by rw[e1];rfl,m⟩));rw[e1,q00] at hs |-;cases c with
 |true=>exact⟨H1,rfl,I1,x1⟩
 |false =>
  rw[if_neg (by simp)] at hs |-;exact wpAny_mono (hb _ pins s1 σ H1 ρ os (.inr rfl) I1 (R.ext x1) hs) (λ c s2 ⟨H2,e2,I2,x2⟩=>⟨H2,e2,I2,x1.trans x2⟩) (λ e s' ⟨c,e1,m⟩=>⟨c,e1,m.ext x1⟩)
theorem qJ9 {op:BoolOp}(ha:SE X p G sub a la):SE X p G sub (.BoolOp op [a] pos) la:=λ pins s σ H ρ os I R hs=>BoolOp_one (ha pins s σ H ρ os I R hs)
theorem Gd.ext {os:List (List Addr)}{H1:Hp}{r:R D}(x:Ext H H1) (h:Gd X p pins σ os H1 r u s'):Gd X p pins σ os H r u s':=by obtain⟨d,v,H',e,I,rv,y,q⟩:=h;exact⟨d,v,H',e,I,rv,x.trans y,q⟩
theorem Er.ext {α:Type}{H1:Hp}{r:R α}(x:Ext H H1) (h:Er X p pins σ H1 r u s'):Er X p pins σ H r u s':=by obtain⟨c,e,m⟩:=h;exact⟨c,e,m.ext x⟩
theorem Er.bind {α β:Type}{r:R α}{f:α->R β}(h:Er X p pins σ H r u s'):Er X p pins σ H (r.bind f) u s':=by obtain⟨c,e,m⟩:=h;exact⟨c,by rw[e];rfl,m⟩
theorem qJA (ha:SE X p G sub a la) (hb:SE X p G sub (.BoolOp .And (b::r) pos) lb):SE X p G sub (.BoolOp .And (a::b::r) pos) (.and la lb):=by
 intro pins s σ H ρ os I R hs;rw[qIf] at hs |-;refine BoolOp_and (wpAny_mono (ha pins s σ H ρ os I R (q0A hs)) (λ v s1 ⟨d,x,H1,e1,I1,r1,x1,q1⟩=>?_) (λ e s' z=>z.bind));rw[e1,q00] at hs |-;cases d<;>first
  |exact absurd rfl hs
  |skip
 rename_i c;cases (show x=_ from q1);cases r1;refine wpAny_truthy_bool ?_;cases c with
 |true=>exact wpAny_mono (hb pins s1 σ H1 ρ os I1 (R.ext x1) hs) (λ _ _ z=>z.ext x1) (λ _ _ z=>z.ext x1)
 |false=>exact⟨_,.bl false,H1,rfl,I1,rfl,x1,rfl⟩
theorem qLZ (ha:SE X p G sub a la) (hb:SE X p G sub (.BoolOp .Or (b::r) pos) lb):SE X p G sub (.BoolOp .Or (a::b::r) pos) (.or la lb):=by
 intro pins s σ H ρ os I R hs;rw[qL9] at hs |-;refine BoolOp_or (wpAny_mono (ha pins s σ H ρ os I R (q0A hs)) (λ v s1 ⟨d,x,H1,e1,I1,r1,x1,q1⟩=>?_) (λ e s' z=>z.bind));rw[e1,q00] at hs |-;cases d<;>first
  |exact absurd rfl hs
  |skip
 rename_i c;cases (show x=_ from q1);cases r1;refine wpAny_truthy_bool ?_;cases c with
 |false=>exact wpAny_mono (hb pins s1 σ H1 ρ os I1 (R.ext x1) hs) (λ _ _ z=>z.ext x1) (λ _ _ z=>z.ext x1)
 |true=>exact⟨_,.bl true,H1,rfl,I1,rfl,x1,rfl⟩
theorem qJB (hK:p.K=X.K) (ha:SB X p G sub a la):SE X p G sub (.UnaryOp .Not a pos) (.not la):=by intro pins s σ H ρ os I R hs;rw[qIe] at hs |-;refine UnaryOp_ (wpAny_mono (ha pins s σ H ρ os I R (q0A hs)) (λ v s1 ⟨d,x,H1,e1,I1,r1,x1,q1⟩=>?_) (λ e s' z=>z.bind));rw[e1,q00] at hs |-;refine not_of (thn (q3F hK I1 r1 q1 x1 (q0A hs) rfl) λ b s2 ⟨H2,e2,I2,x2⟩=>?_);rw[e2];exact⟨_,.bl _,H2,rfl,I2,rfl,x2,rfl⟩
theorem qJC {c:PySem.Expr}{lc:T}(hc:ST X p G sub c lc) (ha:SE X p G sub a la) (hb:SE X p G sub b lb):SE X p G sub (.IfExp c a b pos) (.ite lc la lb):=by
 intro pins s σ H ρ os I R hs;rw[q9F] at hs |-;refine wpAny_IfExp (wpAny_mono (hc _ pins s σ H ρ os (.inl rfl) I R (q0A hs)) (λ t s1 ⟨H1,e1,I1,x1⟩=>?_) (λ e s' z=>z.bind));rw[e1,q00] at hs |-;cases t with
 |true=>exact wpAny_mono (ha pins s1 σ H1 ρ os I1 (R.ext x1) hs) (λ _ _ z=>z.ext x1) (λ _ _ z=>z.ext x1)
 |false=>exact wpAny_mono (hb pins s1 σ H1 ρ os I1 (R.ext x1) hs) (λ _ _ z=>z.ext x1) (λ _ _ z=>z.ext x1)
def Ga (X:Cx) (p:Pm) (pins:List (Addr×Obj)) (σ:L2.St) (os:List (List Addr)) (H:Hp) (r:R (List D)) (us:List Value) (s':Shared):Prop :=
 ∃ds vs H',r = .ok ds/\Inv X pins σ H' s'/\Vals vs us/\Ext H H'/\RepL p (fz os.flatten H') ds vs
def SA (X:Cx) (p:Pm) (G:Nat->List D->R D) (sub:Nat->Nat->Bool) (es:List PySem.Expr) (l:List L):Prop :=
 ∀(pos:Pos) (pins:List (Addr×Obj)) (s:Shared) (σ:L2.St) (H:Hp) (ρ:Ev.Env) (os:List (List Addr)),Inv X pins σ H s->Rel p ρ σ os H->evs G sub l ρ ≠ .stuck->
  wpAny (model X.prog X.w) X.A (spliced (backTo pos (starEach es X.env))) (Ga X p pins σ os H (evs G sub l ρ)) (Er X p pins σ H (evs G sub l ρ)) s
theorem qF9:SA X p G sub [] []:=λ _ _ _ _ H _ _ I _ _=>Calls.spliced_nil ⟨[],[],H,rfl,I,.nil,Ext.refl _,rfl⟩
theorem qBb {e:PySem.Expr}{l:L}(ha:SE X p G sub e l) (hr:SA X p G sub es ls) (hst:starEach (e::es) X.env=(false,eval e X.env)::starEach es X.env):SA X p G sub (e::es) (l::ls):=by intro pos pins s σ H ρ os I R hs;rw[hst];rw[q0D] at hs |-;show wpAny _ _ (spliced ((false,eval e X.env)::backTo pos (starEach es X.env))) _ _ s;refine Calls.spliced_cons (wpAny_mono (ha pins s σ H ρ os I R (q0A hs)) (λ u s1 ⟨d,x,H1,e1,I1,r1,x1,q1⟩=>?_) (λ e s' z=>z.bind));rw[e1,q00] at hs |-;refine wpAny_mono (hr pos pins s1 σ H1 ρ os I1 (R.ext x1) (q0A hs)) (λ us s2 ⟨ds,vs,H2,e2,I2,r2,x2,q2⟩=>?_) (λ e s' z=>(z.ext x1).bind);rw[e2];exact⟨d::ds,x::vs,H2,rfl,I2,.cons r1 r2,x1.trans x2,x,vs,rfl,q1.mono (q1E x2),q2⟩
theorem qBc {O:List Addr}{a:Addr}{o:HO}(t:Th O H) (n:H a=none):fz O (upd H a o) a=some o:=q1x q0B λ m=>by obtain⟨u,e⟩:=t a m;rw[n] at e;cases e
theorem qJD {k1:Nat}(h:SA X p G sub es ls):SE X p G sub (.Tuple es k1 pos) (.tup ls):=by
 intro pins s σ H ρ os I R hs;rw[qBF] at hs |-;refine wpAny_Tuple_spliced (wpAny_mono (h pos pins s σ H ρ os I R (q0A hs)) (λ us s1 ⟨ds,vs,H1,e1,I1,r1,x1,q1⟩=>?_) (λ e s' z=>z.bind));rw[e1,q00] at hs |-;have z:ds.length<=big:=by
  by_cases z:ds.length<=big
  ·exact z
  ·rw[if_neg z] at hs;exact absurd rfl hs
 rw[if_pos z];have z1:vs.length<=sizeLine:=Qn (q1.length▸z) q0a;refine⟨by rw[<-r1.length];exact z1,?_⟩;have hf:H1 s1.heap.objs.size=none:=I1.hok.fresh (Qi _);refine⟨_,.ref s1.heap.objs.size,upd H1 s1.heap.objs.size (.tup vs),rfl,I1.laid (t':=s1.toks) (λ b u e=>Heap.get?_push_of_some _ e) (Qi _) ?_,rfl,x1.trans (Ext.upd hf),?_⟩
 ·exact⟨z1,us,r1,⟨_,Heap.get?_push_size _ rfl,rfl,_,rfl⟩⟩
 ·exact⟨_,vs,rfl,SqT.of (qBc (R.ext x1).th hf),z1,q1.mono (q1E (Ext.upd hf))⟩
theorem qJE (h:SA X p G sub es ls):SE X p G sub (.List es pos) (.lst ls):=by
 intro pins s σ H ρ os I R hs;rw[q7H] at hs |-;refine wpAny_List_spliced (wpAny_mono (h pos pins s σ H ρ os I R (q0A hs)) (λ us s1 ⟨ds,vs,H1,e1,I1,r1,x1,q1⟩=>?_) (λ e s' z=>z.bind));rw[e1,q00] at hs |-;have z:ds.length<=big:=by
  by_cases z:ds.length<=big
  ·exact z
  ·rw[if_neg z] at hs;exact absurd rfl hs
 rw[if_pos z];have z1:vs.length<=sizeLine:=Qn (q1.length▸z) q0a;refine⟨by rw[<-r1.length];exact z1,?_⟩;have hf:H1 s1.heap.objs.size=none:=I1.hok.fresh (Qi _);refine⟨_,.ref s1.heap.objs.size,upd H1 s1.heap.objs.size (.lst vs),rfl,I1.laid (t':=s1.toks) (λ b u e=>Heap.get?_push_of_some _ e) (Qi _) ?_,rfl,x1.trans (Ext.upd hf),?_⟩
 ·exact⟨z1,us,0,r1,Heap.get?_push_size _ rfl⟩
 ·exact⟨_,vs,rfl,SqL.of (qBc (R.ext x1).th hf),q1.mono (q1E (Ext.upd hf))⟩
end
end Snd
namespace Snd
open PySem PySem.Spec PyProof.Rows L2 Ev
variable {H0 H:Hp}{O0:List Addr}{ρ:Ev.Env}{σ:L2.St}{os:List (List Addr)}{i:Nat}{pins:List (Addr×Obj)}{pos:Pos}{e:PySem.Expr}{l:L}
theorem q3f {p:Pm}{H Hf:Hp}{x:Option Sl}{y:Option V}{as:List Addr}(h:q3c p H Hf x y as):∀{ρ:Ev.Env}{σ:L2.St}{os:List (List Addr)}(i:Nat),q1I p H Hf ρ σ os->q1I p H Hf (ρ.set i x) (σ.set i y) (os.set i as)
 |[],_,_,_,_=>trivial
 |_::ρ,_,_,0,q=>by obtain⟨y1,σ',as',os',rfl,rfl,h1,h2⟩:=q;exact⟨y,σ',as,os',rfl,rfl,h,h2⟩
 |_::ρ,_,_,i+1,q=>by obtain⟨y1,σ',as',os',rfl,rfl,h1,h2⟩:=q;exact⟨y1,σ'.set i y,as',os'.set i as,rfl,rfl,h1,q3f h i h2⟩
theorem q0H {as:List Addr}{b:Addr}:∀{os:List (List Addr)}{i:Nat},b∈(os.set i as).flatten->b∈os.flatten\/b∈as
 |[],i,h=>by simp at h
 |o::os,0,h=>by
  simp only[QZ,Qy,Qm] at h;rcases h with h|h
  ·exact .inr h
  ·exact .inl (by simp only[Qy,Qm];exact .inr h)
 |o::os,i+1,h=>by
  simp only[QY,Qy,Qm] at h;rcases h with h|h
  ·exact .inl (by simp only[Qy,Qm];exact .inl h)
  ·rcases q0H h with h|h
   ·exact .inl (by simp only[Qy,Qm];exact .inr h)
   ·exact .inr h
theorem q11 {as:List Addr}(na:as.Nodup):∀{os:List (List Addr)}{i:Nat},os.flatten.Nodup->(∀a∈as,a∉os.flatten)->(os.set i as).flatten.Nodup
 |[],i,h,_=>by simp
 |o::os,0,h,d=>by simp only[QZ,Qy] at h |-;have h2:=Qz.mp h;refine Qz.mpr ⟨na,h2.2.1,λ a ha b hb e=>?_⟩;subst e;exact d a ha (by simp only[Qy,Qm];exact .inr hb)
 |o::os,i+1,h,d=>by
  simp only[QY,Qy] at h |-;have h2:=Qz.mp h;refine Qz.mpr ⟨h2.1,q11 na h2.2.1 (λ a ha hb=>d a ha (by simp only[Qy,Qm];exact .inr hb)),λ a ha b hb e=>?_⟩;subst e;rcases q0H hb with hb|hb
  ·exact h2.2.2 a ha a hb rfl
  ·exact d a hb (by simp only[Qy,Qm];exact .inl ha)
structure Bd (p:Pm) (H0:Hp) (O0:List Addr) (ρ:Ev.Env) (σ:L2.St) (os:List (List Addr)) (H:Hp):Prop where
 rel:Rel p ρ σ (os++[O0]) H
 len:os.length=ρ.length
 slen:σ.length=ρ.length
 ext:Ext H0 H
 new:∀a∈os.flatten,H0 a=none
theorem Bd.mono {p:Pm}{H1:Hp}(b:Bd p H0 O0 ρ σ os H) (x:Ext H H1):Bd p H0 O0 ρ σ os H1 :=
 ⟨b.rel.ext x,b.len,b.slen,b.ext.trans x,b.new⟩
theorem q2d {A B:List Addr}(h:∀a∈B,a∈A):Ext (fz A H) (fz B H):=λ a o e=>by
 unfold fz at e |-;split at e
 ·cases e
 ·rename_i n;rw[if_neg λ m=>n (h a m)];exact e
theorem q0d (os:List (List Addr)) (O:List Addr):(os++[O]).flatten=os.flatten++O:=by simp
theorem qGK:Ext (fz (os++[O0]).flatten H) (fz O0 H):=q2d λ a h=>by rw[q0d];exact Qj _ h
theorem q0t {O as:List Addr}(h:i<os.length):(os++[O]).set i as=os.set i as++[O]:=by rw[List.set_append,if_pos h]
theorem Bd.setV {p:Pm}{d:D}{v:V}(b:Bd p H0 O0 ρ σ os H) (hi:i < ρ.length) (h:Rep p (fz (os++[O0]).flatten H) d v) :
  Bd p H0 O0 (ρ.set i (some (.val d))) (σ.set i (some v)) (os.set i []) H:=by
 have sub:∀a∈(os.set i []++[O0]).flatten,a∈(os++[O0]).flatten:=λ a ha=>by rw[<-q0t (by rw[b.len];exact hi)] at ha;exact (q0H ha).elim id λ z=>absurd z (by simp)
 have y:Ext (fz (os++[O0]).flatten H) (fz (os.set i []++[O0]).flatten H):=q2d sub;refine⟨⟨?_,λ a ha=>b.rel.there a (sub a ha),?_⟩,by simp[b.len],by simp[b.slen],b.ext,λ a ha=>?_⟩
 ·rw[<-q0t (by rw[b.len];exact hi)];exact q11 Jp b.rel.nd λ a ha=>absurd ha (by simp)
 ·have:=q3f (x:=some (.val d)) (y:=some v) (as:=[]) (show q3c p H (fz (os.set i []++[O0]).flatten H) _ _ _ from⟨rfl,v,rfl,h.mono y⟩) i (q1l (Ext.refl H) y b.rel.slots)
  rwa [q0t (by rw[b.len];exact hi)] at this
 ·exact (q0H ha).elim (b.new a) λ z=>absurd z (by simp)
theorem Bd.setN {p:Pm}{y:Option V}(b:Bd p H0 O0 ρ σ os H) (hi:i < ρ.length) :
  Bd p H0 O0 (ρ.set i none) (σ.set i y) (os.set i []) H:=by
 have sub:∀a∈(os.set i []++[O0]).flatten,a∈(os++[O0]).flatten:=λ a ha=>by rw[<-q0t (by rw[b.len];exact hi)] at ha;exact (q0H ha).elim id λ z=>absurd z (by simp)
 have z:Ext (fz (os++[O0]).flatten H) (fz (os.set i []++[O0]).flatten H):=q2d sub;refine⟨⟨?_,λ a ha=>b.rel.there a (sub a ha),?_⟩,by simp[b.len],by simp[b.slen],b.ext,λ a ha=>?_⟩
 ·rw[<-q0t (by rw[b.len];exact hi)];exact q11 Jp b.rel.nd λ a ha=>absurd ha (by simp)
 ·have:=q3f (x:=none) (y:=y) (as:=[]) (show q3c p H (fz (os.set i []++[O0]).flatten H) _ _ _ from rfl) i (q1l (Ext.refl H) z b.rel.slots)
  rwa [q0t (by rw[b.len];exact hi)] at this
 ·exact (q0H ha).elim (b.new a) λ z=>absurd z (by simp)
theorem Bd.setO {p:Pm}{H1:Hp}{sl:Sl}{v:V}{as:List Addr}(b:Bd p H0 O0 ρ σ os H) (hi:i < ρ.length) (x:Ext H H1) (nd:as.Nodup) (na:∀a∈as,H a=none)
  (th:∀a∈as,∃o,H1 a=some o) (h:q3c p H1 (fz ((os++[O0]).flatten++as) H1) (some sl) (some v) as) :
  Bd p H0 O0 (ρ.set i (some sl)) (σ.set i (some v)) (os.set i as) H1:=by
 have lt:i<os.length:=by rw[b.len];exact hi
 have sub:∀a∈(os.set i as++[O0]).flatten,a∈(os++[O0]).flatten++as:=λ a ha=>by rw[<-q0t lt] at ha;exact Qm.mpr (q0H ha)
 have y:Ext (fz ((os++[O0]).flatten++as) H1) (fz (os.set i as++[O0]).flatten H1):=q2d sub;have z:Ext (fz (os++[O0]).flatten H) (fz ((os++[O0]).flatten++as) H1):=λ c o e=>by
  unfold fz at e |-;split at e
  ·cases e
  ·rename_i n;rw[if_neg λ m=>?_]
   ·exact x _ _ e
   ·rcases Qm.mp m with m|m
    ·exact n m
    ·rw[na c m] at e;cases e
 have dis:∀a∈as,a∉(os++[O0]).flatten:=λ a ha hb=>by obtain⟨o,e⟩:=b.rel.there a hb;rw[na a ha] at e;cases e
 refine⟨⟨?_,λ a ha=>?_,?_⟩,by simp[b.len],by simp[b.slen],b.ext.trans x,λ a ha=>?_⟩
 ·rw[<-q0t lt];exact q11 nd b.rel.nd dis
 ·rcases Qm.mp (sub a ha) with m|m
  ·obtain⟨o,e⟩:=b.rel.there a m;exact⟨o,x _ _ e⟩
  ·exact th a m
 ·have:=q3f (q6M (Ext.refl H1) y h) i (q1l x (z.trans y) b.rel.slots)
  rwa [q0t lt] at this
 ·rcases q0H ha with m|m
  ·exact b.new a m
  ·cases e:H0 a with
   |none=>rfl
   |some o=>have:=b.ext a o e;rw[na a m] at this;cases this
noncomputable def FlR (p:Pm) (H0:Hp) (O0:List Addr) (H:Hp):F->Flow->Prop
 | .nx,.next=>True
 | .brk,.brk=>True
 | .cont,.cont=>True
 | .ret d,.ret u=>∃v,RelV v u/\Rep p (fz O0 H) d v
 | .retN d,.ret u=>∃a ds vs,u = .ref a/\d = .lst ds/\H0 a=none/\H a=some (.lst vs)/\RepL p (fz (a::O0) H) ds vs
 |_,_=>False
section
variable {X:Cx}{p:Pm}{G:Nat->List D->R D}{sub:Nat->Nat->Bool}
def Es (X:Cx) (p:Pm) (H0:Hp) (O0:List Addr) (pins:List (Addr×Obj)) (r:RS) (e:Value) (s':Shared):Prop :=
 ∃c ρ' σ' os' H',r = .err c ρ'/\Bd p H0 O0 ρ' σ' os' H'/\Mid X p pins σ' H' c e s'
def Gs (X:Cx) (p:Pm) (H0:Hp) (O0:List Addr) (pins:List (Addr×Obj)) (r:RS) (f:Flow) (s':Shared):Prop :=
 ∃ρ' fl σ' os' H',r = .ok ρ' fl/\Bd p H0 O0 ρ' σ' os' H'/\Inv X pins σ' H' s'/\FlR p H0 O0 H' fl f
def SS (X:Cx) (p:Pm) (G:Nat->List D->R D) (sub:Nat->Nat->Bool) (st:Stmt) (l:S):Prop :=
 ∀(H0:Hp) (O0:List Addr) (E:Value->Shared->Prop),PassesOwn (model X.prog X.w) X.A X.env E->∀(pins:List (Addr×Obj)) (s:Shared) (σ:L2.St) (H:Hp) (ρ:Ev.Env) (os:List (List Addr)),Inv X pins σ H s->Bd p H0 O0 ρ σ os H->
  ex G sub l ρ ≠ .stuck->(∀e s',Es X p H0 O0 pins (ex G sub l ρ) e s'->E e s')->wpAny (model X.prog X.w) X.A (exec st X.env) (Gs X p H0 O0 pins (ex G sub l ρ)) E s
def SSs (X:Cx) (p:Pm) (G:Nat->List D->R D) (sub:Nat->Nat->Bool) (st:List Stmt) (l:List S):Prop :=
 ∀(H0:Hp) (O0:List Addr) (E:Value->Shared->Prop),PassesOwn (model X.prog X.w) X.A X.env E->∀(pins:List (Addr×Obj)) (s:Shared) (σ:L2.St) (H:Hp) (ρ:Ev.Env) (os:List (List Addr)),Inv X pins σ H s->Bd p H0 O0 ρ σ os H->
  exs G sub l ρ ≠ .stuck->(∀e s',Es X p H0 O0 pins (exs G sub l ρ) e s'->E e s')->wpAny (model X.prog X.w) X.A (execs st X.env) (Gs X p H0 O0 pins (exs G sub l ρ)) E s
theorem q1t {α:Type}{r:R α}{f:α->RS}(h:r.go ρ f ≠ .stuck):r ≠ .stuck:=λ e=>h (by rw[e];rfl)
theorem q2W {α:Type}{r:R α}{f:α->RS}{e:Value}{s':Shared}(B:Bd p H0 O0 ρ σ os H) (h:Er X p pins σ H r e s'):Es X p H0 O0 pins (r.go ρ f) e s':=by obtain⟨c,e1,m⟩:=h;exact⟨c,ρ,σ,os,H,by rw[e1];rfl,B,m⟩
theorem qGL:SSs X p G sub [] []:=λ H0 O0 E _ pins s σ H ρ os I B _ _=>wpAny_execs_nil ⟨ρ,.nx,σ,os,H,rfl,B,I,trivial⟩
theorem qDk {st:Stmt}{sts:List Stmt}{l:S}{ls:List S}(h1:SS X p G sub st l) (h2:SSs X p G sub sts ls):SSs X p G sub (st::sts) (l::ls):=by
 intro H0 O0 E hp pins s σ H ρ os I B hs hE;have e0:exs G sub (l::ls) ρ=(ex G sub l ρ).nx λ ρ'=>exs G sub ls ρ':=rfl;rw[e0] at hs hE |-;have ns:ex G sub l ρ ≠ .stuck:=λ e=>hs (by rw[e];rfl);refine wpAny_execs_cons (thn (h1 H0 O0 E hp pins s σ H ρ os I B ns (λ e s' ⟨c,ρ',σ',os',H',e1,B1,m⟩=>hE e s' ⟨c,ρ',σ',os',H',by rw[e1];rfl,B1,m⟩)) λ f s1 q=>?_);obtain⟨ρ1,fl,σ1,os1,H1,e1,B1,I1,r1⟩:=q;rw[e1] at hs hE |-;cases fl<;>cases f<;>first|exact r1.elim|skip
 ·exact h2 H0 O0 E hp pins s1 σ1 H1 ρ1 os1 I1 B1 hs hE
 all_goals exact⟨_,_,σ1,os1,H1,rfl,B1,I1,r1⟩
theorem qGM:SS X p G sub (.Pass pos) .pass:=λ H0 O0 E _ pins s σ H ρ os I B _ _=>wpAny_Pass ⟨ρ,.nx,σ,os,H,rfl,B,I,trivial⟩
theorem qJF:SS X p G sub (.Break pos) .brk:=λ H0 O0 E _ pins s σ H ρ os I B _ _=>wpAny_Break ⟨ρ,.brk,σ,os,H,rfl,B,I,trivial⟩
theorem qGN:SS X p G sub (.Continue pos) .cont:=λ H0 O0 E _ pins s σ H ρ os I B _ _=>wpAny_Continue ⟨ρ,.cont,σ,os,H,rfl,B,I,trivial⟩
theorem qJG {x:Str}{j:Nat}{pos':Pos}:SS X p G sub (.Expr (.Constant (.str x) j pos) pos') .pass:=λ H0 O0 E _ pins s σ H ρ os I B _ _ =>
 wpAny_Expr (Calls.Constant_str (show Gs X p H0 O0 pins _ .next {s with toks:=s.toks+1} from⟨ρ,.nx,σ,os,H,rfl,B,I.tok _,trivial⟩)) I.quiet
theorem qGO (he:SE X p G sub e l) (hsw:swapsWith e none pos.line X.env=pure false):SS X p G sub (.Expr e pos) (.expr l):=by intro H0 O0 E hp pins s σ H ρ os I B hs hE;have e0:ex G sub (.expr l) ρ=(ev G sub l ρ).go ρ λ _=> .ok ρ .nx:=rfl;rw[e0] at hs hE |-;refine wpAny_Expr_any (wpAny_mono (he pins s σ H ρ _ I B.rel (q1t hs)) (λ v s1 ⟨d,x,H1,e1,I1,r1,x1,q1⟩=>?_) (λ e s' z=>hE e s' (q2W B z))) I.quiet hsw;rw[e1];exact⟨ρ,.nx,σ,os,H1,rfl,B.mono x1,I1,trivial⟩
theorem qJH (he:SE X p G sub e l):SS X p G sub (.Return (some e) pos) (.ret l):=by intro H0 O0 E hp pins s σ H ρ os I B hs hE;have e0:ex G sub (.ret l) ρ=(ev G sub l ρ).go ρ λ d=> .ok ρ (.ret d):=rfl;rw[e0] at hs hE |-;refine wpAny_Return_some (wpAny_mono (he pins s σ H ρ _ I B.rel (q1t hs)) (λ v s1 ⟨d,x,H1,e1,I1,r1,x1,q1⟩=>?_) (λ e s' z=>hE e s' (q2W B z)));rw[e1];exact⟨ρ,.ret d,σ,os,H1,rfl,B.mono x1,I1,x,r1,q1.mono qGK⟩
theorem qGP:SS X p G sub (.Return none pos) .retN:=λ H0 O0 E _ pins s σ H ρ os I B _ _=>wpAny_Return_none ⟨ρ,.ret .non,σ,os,H,rfl,B,I,.non,rfl,rfl⟩
theorem qJI {c:PySem.Expr}{a b:List Stmt}{lc:T}{la lb:List S}(hc:ST X p G sub c lc) (ha:SSs X p G sub a la) (hb:SSs X p G sub b lb):SS X p G sub (.If c a b pos) (.ifs lc la lb):=by
 intro H0 O0 E hp pins s σ H ρ os I B hs hE;have e0:ex G sub (.ifs lc la lb) ρ=(tst G sub lc ρ).go ρ λ t=>if t then exs G sub la ρ else exs G sub lb ρ:=rfl
 rw[e0] at hs hE |-;refine wpAny_If (wpAny_mono (hc _ pins s σ H ρ _ (.inl rfl) I B.rel (q1t hs)) (λ t s1 ⟨H1,e1,I1,x1⟩=>?_) (λ e s' z=>hE e s' (q2W B z)));rw[e1,q04] at hs hE |-;cases t with
 |true=>exact ha H0 O0 E hp pins s1 σ H1 ρ os I1 (B.mono x1) hs hE
 |false=>exact hb H0 O0 E hp pins s1 σ H1 ρ os I1 (B.mono x1) hs hE
theorem qJJ {x:Str}{pos':Pos}(hN:X.N.Nodup) (hi:X.N[i]? = some x) (hx:Loc X.env.scope x) (hf:X.fn x=true\/X.env.scope.names.lookup x=some .local) (he:SE X p G sub e l)
  (hsw:swapsWith e (some (.Name x pos')) pos.line X.env=pure false):SS X p G sub (.Assign [.Name x pos'] e pos) (.set i l):=by
 intro H0 O0 E hp pins s σ H ρ os I B hs hE;have e0:ex G sub (.set i l) ρ=(ev G sub l ρ).go ρ λ d=> .ok (ρ.set i (some (.val d))) .nx:=rfl;rw[e0] at hs hE |-;refine wpAny_Assign_Name (wpAny_mono (he pins s σ H ρ _ I B.rel (q1t hs)) (λ v s1 ⟨d,y,H1,e1,I1,r1,x1,q1⟩=>?_) (λ e s' z=>hE e s' (q2W B z))) hsw;rw[e1];have lt:i < ρ.length:=by rw[<-B.slen,I.len];exact (Qc.mp hi).1
 exact q0q I1 hN hi hx r1 (λ s2 I2=>⟨_,.nx,_,_,H1,rfl,(B.mono x1).setV lt q1,I2,trivial⟩) hf
theorem BOk.qDl {pl:List (Addr×Obj)}{B:Heap}(b:BOk X (pins++pl) H B):BOk X pins H B :=
 ⟨b.hok,b.keep,b.there,λ q hq=>b.pin q ((Qm.mp hq).elim (λ z=>Qv _ z) λ z=>Qj _ (Qv _ z))⟩
theorem Mid.qDl {pl:List (Addr×Obj)}{c:Nat}{e:Value}{s':Shared}(m:Mid X p (pins++pl) σ H c e s'):Mid X p pins σ H c e s':=by
 obtain⟨H',a,C,h1,h2,h3,h4⟩:=m;refine⟨H',a,C,h1,h2,h3,?_⟩;rcases h4 with ⟨s1,vs,q1,q2⟩|⟨B,t,q1,q2,q3⟩|⟨B,t,L,q0,q1,q2,q3⟩
 ·exact .inl ⟨s1,vs,q1.q14,q2⟩
 ·exact .inr (.inl ⟨B,t,q1.q14,q2.qDl,q3⟩)
 ·exact .inr (.inr ⟨B,t,L,q0,q1.q14,q2.qDl,q3⟩)
theorem qJK {c:PySem.Expr}{body:List Stmt}{lc:T}{lb:List S}(hc:ST X p G sub c lc) (hb:SSs X p G sub body lb):SS X p G sub (.While c body [] pos) (.whl lc lb):=by
 intro H0 O0 E hp pins s σ H ρ os I B hs hE;have e0:ex G sub (.whl lc lb) ρ=q0x (tst G sub lc) (exs G sub lb) 100000 ρ:=rfl;rw[e0] at hs hE |-;generalize hr:q0x (tst G sub lc) (exs G sub lb) 100000 ρ=r at hs hE |-;refine wpAny_While (codeAny_whileLoop (λ n s'=>∃ρ' σ' os' H',Inv X pins σ' H' s'/\Bd p H0 O0 ρ' σ' os' H'/\q0x (tst G sub lc) (exs G sub lb) n ρ'=r) ?_ 100000 ⟨ρ,σ,os,H,I,B,hr⟩);rintro n s1 ⟨ρ1,σ1,os1,H1,I1,B1,w1⟩;cases n with
 |zero=>exact absurd w1.symm hs
 |succ n =>
  have w2:q0x (tst G sub lc) (exs G sub lb) (n+1) ρ1=(tst G sub lc ρ1).go ρ1 λ t=>if t then (exs G sub lb ρ1).turn λ ρ'=>q0x (tst G sub lc) (exs G sub lb) n ρ' else .ok ρ1 .nx:=rfl
  rw[w2] at w1;have ns:tst G sub lc ρ1 ≠ .stuck:=λ e=>hs (by rw[<-w1,e];rfl);refine wpAny_passesOwn hp (wpAny_mono (hc _ pins s1 σ1 H1 ρ1 _ (.inl rfl) I1 B1.rel ns) (λ t s2 ⟨H2,e2,I2,x2⟩=>?_) (λ e s' z=>hE e s' (by rw[<-w1];exact q2W B1 z)));rw[e2,q04] at w1;cases t with
  |true =>
   rw[if_pos rfl] at w1 |-;have ns:exs G sub lb ρ1 ≠ .stuck:=λ e=>hs (by rw[<-w1,e];rfl);refine wpAny_passesOwn hp (thn (hb H0 O0 E hp pins s2 σ1 H2 ρ1 os1 I2 (B1.mono x2) ns (λ e s' ⟨c,ρ',σ',os',H',e1,B1,m⟩=>hE e s' ⟨c,ρ',σ',os',H',by rw[<-w1,e1];rfl,B1,m⟩)) λ f s3 q3=>?_);obtain⟨ρ3,fl,σ3,os3,H3,e3,B3,I3,r3⟩:=q3;rw[e3] at w1;cases fl<;>cases f<;>first|exact r3.elim|skip
   ·exact⟨n,Q7 _,ρ3,σ3,os3,H3,I3,B3,w1⟩
   ·exact⟨ρ3,.nx,σ3,os3,H3,w1.symm,B3,I3,trivial⟩
   ·exact⟨n,Q7 _,ρ3,σ3,os3,H3,I3,B3,w1⟩
   ·exact⟨ρ3,_,σ3,os3,H3,w1.symm,B3,I3,r3⟩
   ·exact⟨ρ3,_,σ3,os3,H3,w1.symm,B3,I3,r3⟩
  |false =>
   rw[if_neg Bool.false_ne_true] at w1 |-;exact wpAny_execs_nil ⟨ρ1,.nx,σ1,os1,H2,w1.symm,B1.mono x2,I2,trivial⟩
end
end Snd
namespace Snd
open PySem PySem.Spec PyProof.Rows L2 Ev
variable {Hf H H0:Hp}{vs:List V}{K:PySem.W.Frag}{d:Addr}{o:Obj}{kvs:List (Key×V)}{P:Program}{w:World}{u:Value}{i:Nat}{tg:PySem.Expr}{E:Value->Shared->Prop}{pins:List (Addr×Obj)}{s:Shared}{σ:L2.St}{os:List (List Addr)}{v:V}{l:L}{pos:Pos}{O0:List Addr}{ρ:Ev.Env}
structure Wk (J:It) (Hf:Hp) (vs:List V):Prop where
 go:∀i H',Ext Hf H'->i<vs.length->J.go i H'
 yld:∀i H' x H'',Ext Hf H'->i<vs.length->J.yld i H' x H''->H''=H'/\vs[i]? = some x
 stop:∀H',Ext Hf H'->J.stop vs.length H'
theorem Wk.mono {J:It}{Hf':Hp}(k:Wk J Hf vs) (x:Ext Hf Hf'):Wk J Hf' vs :=
 ⟨λ i H' y=>k.go i H' (x.trans y),λ i H' v H'' y=>k.yld i H' v H'' (x.trans y),λ H' y=>k.stop H' (x.trans y)⟩
theorem qGQ {a:Addr}(h:SqL K Hf a vs):Wk (Itl K a) Hf vs :=
 ⟨λ i H' x hi=>⟨vs,vs[i],x.sqL h,by simp[hi]⟩,λ i H' v H'' x _ y=>⟨y.1,y.2 vs (x.sqL h)⟩,λ H' x=>⟨vs,x.sqL h,Qi _⟩⟩
theorem qJL {a:Addr}(h:SqT K Hf a vs):Wk (Itt K a) Hf vs :=
 ⟨λ i H' x hi=>⟨vs,vs[i],x.sqT h,by simp[hi]⟩,λ i H' v H'' x _ y=>⟨y.1,y.2 vs (x.sqT h)⟩,λ H' x=>⟨vs,x.sqT h,Qi _⟩⟩
theorem qFA (lo:Int) (n:Nat):Wk (Itr lo n) Hf ((Qg n).map λ (k:Nat)=>V.int (lo+k)):=by
 refine⟨λ i H' _ hi=>?_,λ i H' v H'' _ hi y=>⟨y.1,?_⟩,λ H' _=>?_⟩
 ·show i<n;simpa using hi
 ·have hi':i<n:=by simpa using hi
  rw[y.2];simp[hi']
 ·show n<=_;simp
def Itd (d:Addr) (o:Obj) (kvs:List (Key×V)):It :=
 ⟨λ i H=>H d=some (.frz o (.dK kvs))/\i<kvs.length,λ i H x H'=>H'=H/\∃q,kvs[i]? = some q/\x=kV q.1,λ i H=>H d=some (.frz o (.dK kvs))/\kvs.length<=i⟩
theorem qGR (h:Hf d=some (.frz o (.dK kvs))):Wk (Itd d o kvs) Hf (kvs.map λ q=>kV q.1):=by refine⟨λ i H' x hi=>⟨x _ _ h,by simpa using hi⟩,λ i H' v H'' x _ y=>⟨y.1,?_⟩,λ H' x=>⟨x _ _ h,by simp⟩⟩;obtain⟨q,e1,e2⟩:=y.2;rw[Qs,e1,e2];rfl
theorem qJM {k:Key}(h:(q0g P w).is k u=true):RelV (kV k) u:=by
 rcases q0V h with ⟨i,t,rfl,rfl⟩|⟨x,t,rfl,rfl⟩
 ·exact⟨t,rfl⟩
 ·exact⟨t,rfl⟩
theorem q6N {h:Heap}(ok:HOk P w H h) (e:H d=some (.frz o (.dK kvs))) :
  kvs.length<=sizeLine/\(d==sysModules)=false/\∃vs es ep,KV kvs vs/\o.data = .dict es ep/\h.DictAt (q0g P w) d vs ep:=by
 obtain⟨h1,z,hd,vs,rel,o',es,ep,h2,h3,h4,h5,h6,h7⟩:=ok d _ e;rw[h1] at h2;cases h2;exact⟨z,hd,vs,es,ep,rel,h4,o,es,h1,h3,h4,h5,h6,h7⟩
theorem KV.key {vs:List (Key×Value)}(r:KV kvs vs) {q:Key×V}(e:kvs[i]? = some q):∃u,vs[i]? = some (q.1,u):=by
 induction r generalizing i with
 |nil=>simp at e
 |@cons p p' ps ps' h t ih =>
  cases i with
  |zero=>simp at e;subst e;exact⟨p'.2,by simp[h.1]⟩
  |succ i=>simpa using ih (by simpa using e)
theorem qBd {tg:Expr}{it:Addr}{es:Array DictEntry}{ep:Nat}(hd:o.data = .dict es ep) :
  Turn P w K tg (Itd d o kvs) [it] it (λ i h=>h.IsKeyIter it d i kvs.length ep) where
 mem:=by simp
 obj:=λ i h st b hb=>by
  have e:b=it:=by simpa using hb
  subst e;obtain⟨o,e,c,d⟩:=st;exact⟨o,e,λ v z=>by rw[d] at z;cases z⟩
 keep:=λ i h h' st k=>st.at λ o e=>k it (by simp) o e
 item:=by intro X hP hw hK hc i pins s σ H E I hf st hg;subst hP hw hK;obtain⟨hq,hi⟩:=hg;obtain⟨z,hd',vs,es',ep',rel,dd,hm⟩:=q6N I.hok hq;rw[hd] at dd;cases dd;have hl:=KV.length rel;obtain⟨u,hu⟩:=KV.key rel (i:=i) (q:=kvs[i]) (by simp[hi]);obtain⟨f0,f1,f2,f3,f4,f5⟩:=hf it (by simp);refine wpAny_pyNext_dict_item (hl▸st) hm hu λ key h' hkey st' sb=>?_;have I1:Inv X pins σ H {s with heap:=h'}:=I.turned (t':=s.toks) (λ b o hb e=>(sb.2 b hb).trans e) f0 f1 f3 f4 f5;obtain⟨o1,e,c,d1⟩:=id st';exact⟨key,rfl,qDH (s:={s with heap:=h'}) e c d1 (by decide) ⟨kV (kvs[i]).1,H,I1,qJM hkey,⟨rfl,_,by simp[hi],rfl⟩,hl▸st',λ b hb=>(hf b hb).1⟩⟩
 done:=by intro X hP hw hK hc i pins s σ H E I hf st hg;subst hP hw hK;obtain⟨hq,hi⟩:=hg;obtain⟨z,hd',vs,es',ep',rel,dd,hm⟩:=q6N I.hok hq;rw[hd] at dd;cases dd;have hl:=KV.length rel;obtain⟨f0,f1,f2,f3,f4,f5⟩:=hf it (by simp);exact wpAny_pyNext_dict_end (I.ok.hd hc) (hl▸st) hm (by rw[Q9];lia) λ h' eb=>⟨rfl,I.turned (t':=s.toks) (λ b o hb e=>eb b o hb e) f0 f1 f3 f4 f5⟩
 self:=λ _ _ _ _ _ st h=>wpAny_pyIter_keyiter st h
def Gi (X:Cx) (p:Pm) (fr:Bool) (tg:Expr) (pins:List (Addr×Obj)) (σ:L2.St) (os:List (List Addr)) (H:Hp) (r:R (List D)) (itv:Value) (s2:Shared):Prop :=
 ∃ds,r = .ok ds/\PIE X pins σ tg (λ J H'=>Ext H H'/\∃vs,RepL p (fz os.flatten H') ds vs/\Wk J (if fr then fz os.flatten H' else H') vs) itv s2
def SI (X:Cx) (p:Pm) (G:Nat->List D->R D) (sub:Nat->Nat->Bool) (fr:Bool) (tg e:PySem.Expr) (l:I):Prop :=
 ∀(pins:List (Addr×Obj)) (s:Shared) (σ:L2.St) (H:Hp) (ρ:Ev.Env) (os:List (List Addr)),Inv X pins σ H s->Rel p ρ σ os H->evi G sub l ρ ≠ .stuck->
  wpAny (model X.prog X.w) X.A (eval e X.env) (λ v s1=>wpAny (model X.prog X.w) X.A (pyIter v) (Gi X p fr tg pins σ os H (evi G sub l ρ)) (Er X p pins σ H (evi G sub l ρ)) s1) (Er X p pins σ H (evi G sub l ρ)) s
section
variable {X:Cx}{p:Pm}{G:Nat->List D->R D}{sub:Nat->Nat->Bool}
theorem q6O {Hf:Hp}:∀{kvs:List (Key×V)},(ints? (kvs.map λ q=>keyD q.1)).isSome=true->RepL p Hf (kvs.map λ q=>keyD q.1) (kvs.map λ q=>kV q.1)
 |[],_=>rfl
 |(.inl i,v)::r,h=>by refine⟨.int i,_,rfl,rfl,q6O ?_⟩;have h':((ints? (r.map λ q=>keyD q.1)).map (i::·)).isSome=true:=h;simpa using h'
 |(.inr x,v)::r,h=>by simp[keyD,ints?] at h
theorem q9U {fr:Bool}{tg:Expr}(hK:p.K=X.K) {xs:List D}(I:Inv X pins σ H s) (x0:Ext H0 H) (rv:RelV v u)
  (q:Rep p (fz os.flatten H) (.tup xs) v):wpAny (model X.prog X.w) X.A (pyIter u) (Gi X p fr tg pins σ os H0 (.ok xs)) E s:=by
 obtain⟨a,vs,rfl,s1,z,r1⟩:=q;cases rv;have s1':SqT X.K H a vs:=hK▸q0Z.sqT s1;obtain⟨its,rv,pt,hz⟩:=I.tuple s1';refine wpAny_pyIter_tuple (show s.heap.IsTuple a its.toArray from pt) ?_;refine⟨xs,rfl,s.heap.objs.size,[s.heap.objs.size],_,_,H,rfl,I.kept (t':=s.toks) λ b o e=>Heap.get?_push_of_some _ e,qAM a _,⟨_,Heap.get?_push_size _ rfl,rfl,rfl⟩,λ b hb=>?_,x0,vs,r1,?_⟩
 ·have e:b=s.heap.objs.size:=by simpa using hb
  subst e;exact I.fpOk (Qi _) (I.hok.fresh (Qi _))
 ·have:=qJL (hK▸s1:SqT X.K (fz os.flatten H) a vs);cases fr
  ·exact this.mono q0Z
  ·exact this
theorem q9V {fr:Bool}{tg:Expr}(hK:p.K=X.K) {xs:List D}(I:Inv X pins σ H s) (x0:Ext H0 H) (rv:RelV v u)
  (q:∃a vs,v = .ref a/\SqL p.K (if fr then fz os.flatten H else H) a vs/\RepL p (fz os.flatten H) xs vs):wpAny (model X.prog X.w) X.A (pyIter u) (Gi X p fr tg pins σ os H0 (.ok xs)) E s:=by
 obtain⟨a,vs,rfl,s1,r1⟩:=q;cases rv;have s1':SqL X.K H a vs:=by
  cases fr
  ·exact hK▸s1
  ·exact hK▸q0Z.sqL s1
 obtain⟨its,rv,pt,hz⟩:=I.list s1';refine wpAny_pyIter_list pt.isList ?_;refine⟨xs,rfl,s.heap.objs.size,[s.heap.objs.size],_,_,H,rfl,I.kept (t':=s.toks) λ b o e=>Heap.get?_push_of_some _ e,qAx a _,⟨_,Heap.get?_push_size _ rfl,rfl,rfl⟩,λ b hb=>?_,x0,vs,r1,?_⟩
 ·have e:b=s.heap.objs.size:=by simpa using hb
  subst e;exact I.fpOk (Qi _) (I.hok.fresh (Qi _))
 ·exact qGQ (hK▸s1)
theorem qDm {tg:Expr}{ks ws:List D}(I:Inv X pins σ H s) (x0:Ext H0 H) (rv:RelV v u) (hki:(ints? ks).isSome=true)
  (q:Rep p (fz os.flatten H) (.dct ks ws) v):wpAny (model X.prog X.w) X.A (pyIter u) (Gi X p true tg pins σ os H0 (.ok ks)) E s:=by
 obtain⟨a,kvs,o,rfl,s1,rfl,r1⟩:=q;cases rv;obtain⟨z,hd,vs,es,ep,rel,dd,hm⟩:=q6N I.hok (q0Z _ _ s1);refine wpAny_pyIter_dict hd hm ?_;have hl:=KV.length rel;refine⟨_,rfl,s.heap.objs.size,[s.heap.objs.size],_,Itd a o kvs,H,rfl,I.kept (t':=s.toks) λ b o e=>Heap.get?_push_of_some _ e,qBd dd,⟨_,Heap.get?_push_size _ rfl,rfl,by rw[hl];rfl⟩,λ b hb=>?_,x0,_,q6O hki,qGR s1⟩;have e:b=s.heap.objs.size:=by simpa using hb
 subst e;exact I.fpOk (Qi _) (I.hok.fresh (Qi _))
theorem si_e {e:PySem.Expr}(hK:p.K=X.K) (h:SE X p G sub e l):SI X p G sub true tg e (.e l):=by
 intro pins s σ H ρ os I R hs;rw[q7I] at hs |-;refine wpAny_mono (h pins s σ H ρ os I R (q0A hs)) (λ v s1 ⟨d,x,H1,e1,I1,r1,x1,q1⟩=>?_) (λ e s' z=>z.bind);rw[e1,q00] at hs |-;cases d<;>first
  |exact absurd rfl hs
  |skip
 ·exact q9U hK I1 x1 r1 q1
 ·exact q9V (fr:=true) hK I1 x1 r1 q1
 ·rename_i ks ws;cases hki:(ints? ks).isSome with
  |true =>
   have e0:q0W (.dct ks ws) = .ok ks:=(by simp[q0W,hki]);rw[e0];exact qDm I1 x1 r1 hki q1
  |false=>exact absurd (by simp[q0W,hki]) hs
theorem si_b {x:Str}(hK:p.K=X.K) (hN:X.N[i]? = some x) (hv:Vis X.env.scope x) (hd:(x==("__debug__":Str))=false) (hcd:(x==("__classdict__":Str))=false):SI X p G sub false tg (.Name x pos) (.b i):=by
 intro pins s σ H ρ os I R hs;rw[qIh] at hs |-;refine wpAny_mono (qF8 (G:=G) (sub:=sub) hN hv hd hcd pins s σ H ρ os I R (q0A hs)) (λ v s1 ⟨d,x,H1,e1,I1,r1,x1,q1⟩=>?_) (λ e s' z=>z.bind);rw[qEw] at e1;rw[e1,q00] at hs |-;cases d<;>first
  |exact absurd rfl hs
  |skip
 ·exact q9U hK I1 x1 r1 q1
 ·exact q9V (fr:=false) hK I1 x1 r1 q1
theorem q6P {Hf:Hp}(lo:Int):∀(l:List Nat),RepL p Hf (l.map λ (k:Nat)=>D.int (lo+k)) (l.map λ (k:Nat)=>V.int (lo+k))
 |[]=>rfl
 |k::l=>⟨_,_,rfl,rfl,q6P lo l⟩
theorem rng0 (n:Nat):(Qg n).map (λ (k:Nat)=>D.int k)=(Qg n).map (λ (k:Nat)=>D.int (0+k)):=by simp
theorem q8g {ρ:Ev.Env}:∀{ls:List L}{ds:List D},evs G sub ls ρ = .ok ds->ds.length=ls.length
 |[],ds,e=>by cases e;rfl
 |l::ls,ds,e=>by
  rw[q0D] at e;cases h:ev G sub l ρ with
  |ok d =>
   rw[h,q00] at e;cases h2:evs G sub ls ρ with
   |ok ds'=>rw[h2,q00] at e;cases e;simp[q8g h2]
   |err c=>rw[h2] at e;cases e
   |stuck=>rw[h2] at e;cases e
  |err c=>rw[h] at e;cases e
  |stuck=>rw[h] at e;cases e
theorem q58 {a:PySem.Expr}{q:Pos}(hg:Gl X "range") (hm:X.mg "range" = none) (ha:SA X p G sub [a] [l]) (hst:starEach [a] X.env=[(false,eval a X.env)]):SI X p G sub true tg (.Call (.Name "range" q) [a] [] pos) (.rng [l]):=by
 intro pins s σ H ρ os I R hs;rw[q1Q] at hs |-;refine Call_ (q1u I hg hm boot_range (PyProof.Rows.callWith_type1 (wpAny_mono (ha pos pins s σ H ρ os I R (q0A hs)) (λ us s1 ⟨ds,vs,H1,e1,I1,r1,x1,q1⟩=>?_) (λ e s' z=>z.bind)) hst rfl));have hl:=q8g e1;rw[e1,q00] at hs |-;unfold rngD at hs |-;split at hs
 ·rename_i j;split at hs
  ·rename_i hj;obtain⟨v,r,rfl,h1,h2⟩:=q1;cases (show v=_ from h1);cases (show r=[] from h2);cases r1 with
   |cons ra rb =>
    cases rb;obtain⟨t,rfl⟩:=ra;rw[if_pos hj];refine call_range_1 (wpAny_mono (q9C (tg:=tg) (R:=λ J H'=>H'=H1/\J=Itr 0 j.toNat) (E:=λ _ _=>False) I1 (by lia) (by lia) hj.1 hj.2 ⟨rfl,by simp⟩) (λ itv s2 h=>?_) (λ _ _ z=>z.elim));obtain⟨it,fp,tn,J,H',e2,I2,T,st,f,rfl,rfl⟩:=h;refine⟨_,rfl,it,fp,tn,_,H',e2,I2,T,st,f,x1,_,?_,(qFA 0 j.toNat)⟩;rw[rng0];exact q6P 0 _
  ·exact absurd rfl hs
 ·simp at hl
 ·exact absurd rfl hs
theorem q7S {a b:PySem.Expr}{m:L}{q:Pos}(hg:Gl X "range") (hm:X.mg "range" = none) (ha:SA X p G sub [a,b] [l,m]) (hst:starEach [a,b] X.env=[(false,eval a X.env),(false,eval b X.env)]) (hs2:starEach [b] X.env=[(false,eval b X.env)]) :
  SI X p G sub true tg (.Call (.Name "range" q) [a,b] [] pos) (.rng [l,m]):=by
 intro pins s σ H ρ os I R hs;rw[q1Q] at hs |-;refine Call_ (q1u I hg hm boot_range (PyProof.Rows.callWith_type1 (wpAny_mono (ha pos pins s σ H ρ os I R (q0A hs)) (λ us s1 ⟨ds,vs,H1,e1,I1,r1,x1,q1⟩=>?_) (λ e s' z=>z.bind)) (by rw[hst,hs2]) (by rw[hs2];rfl)));have hl:=q8g e1;rw[e1,q00] at hs |-;unfold rngD at hs |-;split at hs
 ·simp at hl
 ·rename_i i j;split at hs
  ·rename_i hj;obtain⟨v,r,rfl,h1,h2⟩:=q1;obtain⟨v2,r2,rfl,h3,h4⟩:=h2;cases (show v=_ from h1);cases (show v2=_ from h3);cases (show r2=[] from h4);cases r1 with
   |cons ra rb =>
    cases rb with
    |cons rc rd =>
    cases rd;obtain⟨t,rfl⟩:=ra;obtain⟨t',rfl⟩:=rc;rw[if_pos hj];refine call_range_2 (wpAny_mono (q9C (tg:=tg) (R:=λ J H'=>H'=H1/\J=Itr i (j-i).toNat) (E:=λ _ _=>False) I1 hj.1 hj.2.1 hj.2.2.1 hj.2.2.2 ⟨rfl,rfl⟩) (λ itv s2 h=>?_) (λ _ _ z=>z.elim));obtain⟨it,fp,tn,J,H',e2,I2,T,st,f,rfl,rfl⟩:=h;exact⟨_,rfl,it,fp,tn,_,H',e2,I2,T,st,f,x1,_,q6P i _,(qFA i (j-i).toNat)⟩
  ·exact absurd rfl hs
 ·exact absurd rfl hs
def SG (X:Cx) (p:Pm) (tg:PySem.Expr) (k:Nat) (is:List Nat):Prop :=
 ∀(E:Value->Shared->Prop) (H0:Hp) (O0:List Addr) (pins:List (Addr×Obj)) (s:Shared) (σ:L2.St) (H:Hp) (ρ:Ev.Env) (os:List (List Addr)) (d:D) (xs:List D) (v:V) (u:Value),Inv X pins σ H s->Bd p H0 O0 ρ σ os H->RelV v u->
  Rep p (fz (os++[O0]).flatten H) d v->unp k d = .ok xs->wpAny (model X.prog X.w) X.A (assign tg X.env u) (λ _ s'=>∃σ' os',Inv X pins σ' H s'/\Bd p H0 O0 (q33 is xs ρ) σ' os' H) E s
theorem qGS {x:Str}(hN:X.N.Nodup) (hi:X.N[i]? = some x) (hx:Loc X.env.scope x) (hf:X.fn x=true\/X.env.scope.names.lookup x=some .local):SG X p (.Name x pos) 0 [i]:=by
 intro E H0 O0 pins s σ H ρ os d xs v u I B rv q e;cases e;have lt:i < ρ.length:=by rw[<-B.slen,I.len];exact (Qc.mp hi).1
 exact wpAny_assign_Name (q0q I hN hi hx rv (λ s2 I2=>⟨_,_,I2,B.setV lt q⟩) hf)
theorem Bd.refr (b:Bd p H0 O0 ρ σ os H):Bd p (fz os.flatten H) O0 ρ σ os H/\Ext H0 (fz os.flatten H) :=
 ⟨⟨b.rel,b.len,b.slen,q0Z,λ a ha=>by unfold fz;rw[if_pos ha]⟩,λ a o e=>q1x (b.ext a o e) λ m=>by rw[b.new a m] at e;cases e⟩
theorem Bd.back {H0':Hp}(b:Bd p H0' O0 ρ σ os H) (x:Ext H0 H0'):Bd p H0 O0 ρ σ os H :=
 ⟨b.rel,b.len,b.slen,x.trans b.ext,λ a ha=>by
  cases e:H0 a with
  |none=>rfl
  |some o=>have:=x a o e;rw[b.new a ha] at this;cases this⟩
theorem Bd.kept {os2:List (List Addr)}{H2:Hp}(b:Bd p (fz os2.flatten H2) O0 ρ σ os H):Ext (fz (os2++[O0]).flatten H2) (fz (os++[O0]).flatten H):=λ a o e=>by
 unfold fz at e;split at e
 ·cases e
 ·rename_i n;rw[q0d] at n;have e':fz os2.flatten H2 a=some o:=q1x e λ m=>n (Qv _ m);refine q1x (b.ext a o e') λ m=>?_;rw[q0d] at m;rcases Qm.mp m with m|m
  ·rw[b.new a m] at e';cases e'
  ·exact n (Qj _ m)
theorem qGT (k:Nat) (d:D):unp k d = .stuck\/∃xs,unp k d = .ok xs:=by
 unfold unp;split
 ·exact .inr ⟨_,rfl⟩
 ·split
  ·split
   ·exact .inr ⟨_,rfl⟩
   ·exact .inl rfl
  ·exact .inl rfl
theorem qJN {iter:PySem.Expr}{body:List Stmt}{k:Nat}{is:List Nat}{li:I}{lb:List S}(hc:X.calm=true) (hi:SI X p G sub true tg iter li) (hg:SG X p tg k is) (hb:SSs X p G sub body lb) (hfs:∀x,foldedSetIterable iter X.env x=pure x) :
  SS X p G sub (.For tg iter body [] pos) (.forr k is li lb):=by
 intro H0 O0 E hp pins s σ H ρ os I B hs hE;have e0:ex G sub (.forr k is li lb) ρ=(evi G sub li ρ).go ρ λ ds=>q1D (exs G sub lb) k is ds ρ:=rfl;rw[e0] at hs hE |-;refine wpAny_For (wpAny_mono (hi pins s σ H ρ _ I B.rel (q1t hs)) (λ v s1 h1=>wpAny_mono h1 (λ itv s2 h2=>?_) (λ e s' z=>hE e s' (q2W B z))) (λ e s' z=>hE e s' (q2W B z))) hfs;obtain⟨ds,e1,it,fp,tn,J,H2,rfl,I2,T,st2,f2,x2,vs,rep,wk⟩:=h2;rw[e1,q04] at hs hE |-;rw[if_pos rfl] at wk;have B2:=B.mono x2;obtain⟨B2',x02⟩:=B2.refr;have hlen:ds.length=vs.length:=rep.length;generalize hr:q1D (exs G sub lb) k is ds ρ=r at hs hE |-;have stat:∀{H':Hp},(∀b∈fp,H' b=none)->∀b∈fp,FpOk X pins H' b:=λ hn b hb=>⟨hn b hb,(f2 b hb).2⟩
 refine codeAny_forLoop_any (λ n s'=>∃i ρ' σ' os' H',Inv X pins σ' H' s'/\tn i s'.heap/\(∀b∈fp,H' b=none)/\Bd p (fz os.flatten H2) O0 ρ' σ' os' H'/\q1D (exs G sub lb) k is (ds.drop i) ρ'=r/\n=ds.length-i/\i<=ds.length) ?_ ds.length
  ⟨0,ρ,σ,os,H2,I2,st2,λ b hb=>(f2 b hb).1,B2',by simpa using hr,by simp,QM _⟩
 rintro n s3 ⟨i,ρ3,σ3,os3,H3,I3,st3,fr3,B3,w3,rfl,hi3⟩;have xw:Ext (fz (os++[O0]).flatten H2) H3:=B3.kept.trans q0Z
 by_cases hlt:i<ds.length
 ·have hd:ds.drop i=ds[i]::ds.drop (i+1):=List.drop_eq_getElem_cons hlt;rw[hd] at w3;have w3':(unp k ds[i]).go ρ3 (λ xs=>(exs G sub lb (q33 is xs ρ3)).turn λ ρ'=>q1D (exs G sub lb) k is (ds.drop (i+1)) ρ')=r:=w3;rcases qGT k ds[i] with hu|⟨xs,hu⟩
  ·rw[hu] at w3';exact absurd w3'.symm hs
  rw[hu,q04] at w3';refine wpAny_passesOwn hp (wpAny_mono (T.item X rfl rfl rfl hc i pins s3 σ3 H3 E I3 (stat fr3) st3 (wk.go i H3 xw (hlen▸hlt))) (λ r4 s4 ⟨u,hr4,h4⟩=>?_) (λ _ _ z=>z));subst hr4;refine wpAny_passesOwn hp (wpAny_mono h4 (λ _ s5 ⟨x,H5,I5,r5,y5,st5,fr5⟩=>?_) (λ _ _ z=>z));obtain⟨rfl,hx⟩:=wk.yld i H3 x H5 xw (hlen▸hlt) y5;obtain⟨v',hv',rv'⟩:=rep.get (i:=i) (d:=ds[i]) (by simp[hlt]);rw[hx] at hv';cases hv';have I5':=I5.pinned (stat fr5) (T.obj _ _ st5);refine wpAny_passesOwn hp (wpAny_mono (hg E _ O0 _ s5 σ3 H5 ρ3 os3 ds[i] xs x u I5' B3 r5 (rv'.mono B3.kept) hu) (λ _ s6 ⟨σ6,os6,I6,B6⟩=>?_) (λ _ _ z=>z));have ns:exs G sub lb (q33 is xs ρ3) ≠ .stuck:=λ e=>hs (by rw[<-w3',e];rfl);refine wpAny_passesOwn hp (wpAny_mono (hb _ O0 E hp _ s6 σ6 H5 (q33 is xs ρ3) os6 I6 B6 ns (λ e s' z=>hE e s' ?_)) (λ f s7 q7=>?_) (λ _ _ z=>z))
  ·obtain⟨c,ρ',σ',os',H',z1,z2,z3⟩:=z;exact⟨c,ρ',σ',os',H',by rw[<-w3',z1];rfl,z2.back x02,z3.qDl⟩
  ·obtain⟨ρ7,fl,σ7,os7,H7,e7,B7,I7,r7⟩:=q7;rw[e7] at w3';have again:q1D (exs G sub lb) k is (ds.drop (i+1)) ρ7=r->∃m,m<ds.length-i/\∃i ρ' σ' os' H',Inv X pins σ' H' s7/\tn i s7.heap/\(∀b∈fp,H' b=none)/\Bd p (fz os.flatten H2) O0 ρ' σ' os' H'/\q1D (exs G sub lb) k is (ds.drop i) ρ'=r/\m=ds.length-i/\i<=ds.length:=λ w7=>by refine⟨ds.length-(i+1),by lia,i+1,ρ7,σ7,os7,H7,I7.q14,T.keep _ _ _ st5 λ b hb o e=>(I7.pin (b,o) (Qj _ (Qj _ (q1d hb e)))).1,λ b hb=>?_,B7,w7,rfl,hlt⟩;obtain⟨o,e,d⟩:=T.obj _ _ st5 b hb;exact (I7.pin (b,o) (Qj _ (Qj _ (q1d hb e)))).2.1
   cases fl<;>cases f<;>first|exact r7.elim|skip
   ·exact again w3'
   ·exact⟨ρ7,.nx,σ7,os7,H7,w3'.symm,B7.back x02,I7.q14,trivial⟩
   ·exact again w3'
   ·exact⟨ρ7,_,σ7,os7,H7,w3'.symm,B7.back x02,I7.q14,r7⟩
   ·obtain⟨a,ds',vs',z1,z2,z3,z4,z5⟩:=r7;refine⟨ρ7,_,σ7,os7,H7,w3'.symm,B7.back x02,I7.q14,a,ds',vs',z1,z2,?_,z4,z5⟩;cases e:H0 a with
    |none=>rfl
    |some o=>have:=x02 a o e;rw[z3] at this;cases this
 ·have ei:i=ds.length:=by lia
  subst ei;refine wpAny_passesOwn hp (wpAny_mono (T.done X rfl rfl rfl hc ds.length pins s3 σ3 H3 E I3 (stat fr3) st3 (hlen▸wk.stop H3 xw)) (λ r4 s4 ⟨hr4,I4⟩=>?_) (λ _ _ z=>z));subst hr4;rw[List.drop_length] at w3;exact wpAny_execs_nil ⟨ρ3,.nx,σ3,os3,H3,w3.symm,B3.back x02,I4,trivial⟩
end
end Snd
namespace Snd
open PySem PySem.Spec PyProof.Rows L2 Ev
variable {pos:Pos}
noncomputable def cxC (X:Cx) (s2:Shared) (H2:Hp) (sc:Scope) (cl:List (Str×Addr)) (C:Addr) (N':List Str) (fp:List Addr):Cx :=
 {X with N:=N',s₀:=s2,H₀:=H2,env:=compEnvC sc cl C X.env,outer:=X.stack,ex:=fp,fn:=λ _=>false,pn:=[],xe:=λ _ _=>False}
theorem q6Q (scope:Scope) (env:PySem.Env):∀(l:List (Str×NameKind)) (cs:List (Str×Addr)),(∀x∈l,x.2 = .free->∃c,env.cells.lookup x.1=some c)->
  ∃cl,(forIn l cs λ x r=>do
   if (x.2==NameKind.free)=true then do
    let a <-cellOf env x.1
    pure (ForInStep.yield ((x.1,a)::r))
   else pure (ForInStep.yield r):Sem (List (Str×Addr)))=pure cl/\(∀y c,cl.lookup y=some c->cs.lookup y=some c\/env.cells.lookup y=some c)/\(∀x∈l,x.2 = .free->∃c,cl.lookup x.1=some c)/\∀y c,cs.lookup y=some c->∃c',cl.lookup y=some c':=by
 intro l
 induction l with
 |nil=>intro cs _;exact⟨cs,rfl,λ y c h=> .inl h,λ x hx=>absurd hx (by simp),λ y c h=>⟨c,h⟩⟩
 |cons x l ih =>
  intro cs h;obtain⟨n,k⟩:=x
  by_cases hk:k = .free
  ·subst hk;obtain⟨c,hc⟩:=h (n,.free) Qb rfl;have hco:cellOf env n=pure c:=(by unfold cellOf;rw[hc]);obtain⟨cl,e,h1,h2,h3⟩:=ih ((n,c)::cs) (λ x hx=>h x (Qa _ hx));refine⟨cl,?_,λ y c' hy=>?_,λ x hx hf=>?_,λ y c' hy=>?_⟩
   ·rw[List.forIn_cons];simp only[beq_self_eq_true,if_true,hco];exact e
   ·rcases h1 y c' hy with z|z
    ·rw[QP] at z;cases hyn:y==n with
     |true=>rw[hyn] at z;cases z;rw[beq_iff_eq.mp hyn];exact .inr hc
     |false=>rw[hyn] at z;exact .inl z
    ·exact .inr z
   ·rcases Qf.mp hx with rfl|hx
    ·exact h3 n c (by simp[QP])
    ·exact h2 x hx hf
   ·cases hyn:y==n with
    |true=>exact h3 y c (by rw[QP,hyn])
    |false=>exact h3 y c' (by rw[QP,hyn];exact hy)
  ·have hb:(k==NameKind.free)=false:=(by simpa using hk);obtain⟨cl,e,h1,h2,h3⟩:=ih cs (λ x hx=>h x (Qa _ hx));refine⟨cl,?_,h1,λ x hx hf=>?_,h3⟩
   ·rw[List.forIn_cons];simp only[hb,QL,if_false];exact e
   ·rcases Qf.mp hx with rfl|hx
    ·exact absurd hf hk
    ·exact h2 x hx hf
theorem q47 {scope:Scope}{env:PySem.Env}(h:∀x∈scope.names,x.2 = .free->∃c,env.cells.lookup x.1=some c) :
  ∃cl,closureFor scope env=pure cl/\(∀y c,cl.lookup y=some c->env.cells.lookup y=some c)/\∀x∈scope.names,x.2 = .free->∃c,cl.lookup x.1=some c:=by
 obtain⟨cl,e,h1,h2,_⟩:=q6Q scope env scope.names [] h;refine⟨cl,?_,λ y c hy=>(h1 y c hy).elim (λ z=>by simp at z) id,h2⟩;unfold closureFor;dsimp only;rw[e];rfl
theorem q0N (sc:Scope) (env:PySem.Env) (x:Str):(relabel sc env).names.lookup x=(sc.names.lookup x).map λ k=>if (k==NameKind.free&&env.scope.kind == .function&&env.kindOf x==some .cell)=true then NameKind.cell else k:=by
 unfold relabel;dsimp only
 induction sc.names with
 |nil=>rfl
 |cons q r ih =>
  obtain⟨n,k⟩:=q;rw[Qx];cases hx:x==n with
  |true =>
   have e:=beq_iff_eq.mp hx;subst e;dsimp only;split
   ·rename_i h;rw[QP,QP,hx];dsimp only;rw[Option.map_some,if_pos h]
   ·rename_i h;rw[QP,QP,hx];dsimp only;rw[Option.map_some,if_neg h]
  |false =>
   dsimp only;split
   ·rw[QP,QP,hx];exact ih
   ·rw[QP,QP,hx];exact ih
structure ScOk (X:Cx) (sc:Scope) (ts:List Str):Prop where
 kind:sc.kind = .function
 cell:∀y∈sc.names,y.2 ≠ .cell
 free:∀y∈sc.names,y.2 = .free->X.env.kindOf y.1=some .cell\/X.env.kindOf y.1=some .free
 names:∀y∈sc.names,y.2 = .local->sc.names.lookup y.1=some .local
 bang:∀y∈X.N,y∈ts->sc.names.lookup (qB8 y)=none
 out:∀y∈X.N,y∉ts->sc.names.lookup y≠some .local
def inN (ts N:List Str):List Str:=ts++N.map λ x=>if x∈ts then qB8 x else x
theorem q7T {X:Cx}{pins:List (Addr×Obj)}{σ:L2.St}{H2:Hp}{s2:Shared}{sc:Scope}{ts:List Str}{cl:List (Str×Addr)}{fp:List Addr}(I2:Inv X pins σ H2 s2) (S:ScOk X sc ts) (hcl1:∀y c,cl.lookup y=some c->X.env.cells.lookup y=some c)
  (hcl2:∀x∈sc.names,x.2 = .free->∃c,cl.lookup x.1=some c) (f2:∀b∈fp,FpOk X pins H2 b) (ho:∀b∈fp,∃o,s2.heap.get? b=some o) {h':Heap}{tk:Nat}(hns:∃m,h'.Ns (s2.heap.objs.size+1) m)
  (kp:∀b o,s2.heap.get? b=some o->h'.get? b=some o) (hD:h'.get? s2.heap.objs.size=some {cls:= .type "list",data:= .seq ([]:List Value).toArray}) :
  Inv (cxC X s2 H2 sc cl (s2.heap.objs.size+1) (inN ts X.N) fp) [] (Qe ts.length none++σ) (upd H2 s2.heap.objs.size (.lst [])) {s2 with heap:=h',toks:=tk}:=by
 have freeSc:∀x,((relabel sc X.env).names.lookup x=some .cell\/(relabel sc X.env).names.lookup x=some .free)->sc.names.lookup x=some .free:=λ x hx=>by
  rw[q0N] at hx;cases e:sc.names.lookup x with
  |none=>rw[e] at hx;rcases hx with hx|hx<;>cases hx
  |some k =>
   cases k with
   |free=>rfl
   |cell=>exact absurd rfl (S.cell _ (PySem.mem_of_lookup e))
   |_=>rw[e] at hx;rcases hx with hx|hx<;>simp at hx
 have fr:H2 s2.heap.objs.size=none:=I2.hok.fresh (Qi _);have frC:H2 (s2.heap.objs.size+1)=none:=I2.hok.fresh (Nat.le_succ _);refine⟨⟨I2.ok.mod,S.kind,I2.ok.glob,I2.ok.blt,Nat.le_succ _,λ x y c h1 h2=>I2.ok.inj x y c (hcl1 _ _ h1) (hcl1 _ _ h2),λ x hx=>hcl2 (x,.free) (PySem.mem_of_lookup (freeSc x hx)) rfl,λ x c h=>(Bool.noConfusion h:_),I2.ok.hd,I2.ok.frames,.inl rfl,λ b hb=>⟨?_,λ x c h=>(f2 b hb).2.2.2.2.1 x c (hcl1 _ _ h)⟩,
  I2.bs,Qn I2.ok.bsz I2.sz,λ b o e hb=>?_,λ b hb hm=>?_,I2.stack,I2.q8L⟩,rfl,I2.bare,Un.laid kp (Qi _) fr,?_,λ x c h=>?_,?_,λ x c h=>?_,λ p hp=>absurd (show p∈([]:List (Addr×Obj)) from hp) (by simp),?_,?_⟩
 ·obtain⟨o,e⟩:=ho b hb;exact QH (Jg (Heap.lt_size e))
 ·rcases (f2 b hb).2.2.2.1 with z|z
  ·exact I2.ok.noex b o e z
  ·exact absurd (Qp (Heap.lt_size e) (Qn I2.ok.bsz z)) (Jd _)
 ·rcases Qf.mp (I2.q3R b hm) with z|z
  ·exact (f2 b hb).2.1 z
  ·exact (f2 b hb).2.2.1 z
 ·obtain⟨m,hm⟩:=hns;obtain⟨m2,hn2,hl2⟩:=I2.loc;refine⟨m,hm,λ i x v e1 e2 e3=>?_⟩;have e3:Vis (relabel sc X.env) x:=e3;have e1:(inN ts X.N)[i]? = some x:=e1;unfold inN at e1;have hi:¬i<ts.length:=λ z=>by rw[QI (by simpa using z),List.getElem?_replicate,if_pos z] at e2;cases e2
  rw[QT (by lia)] at e1;rw[QT (by rw[Q4];lia),Q4] at e2;rw[Qs] at e1;cases ey:X.N[i-ts.length]? with
  |none=>rw[ey] at e1;cases e1
  |some y =>
   rw[ey] at e1;have e1:(if y∈ts then qB8 y else y)=x:=(by simpa using e1);have yN:y∈X.N:=Qk ey
   by_cases hy:y∈ts
   ·rw[if_pos hy] at e1;have hb:=S.bang y yN hy;rw[e1] at hb;unfold Vis at e3;rw[q0N,hb] at e3;rcases e3 with z|z|z<;>cases z
   ·rw[if_neg hy] at e1;subst e1;have hf:sc.names.lookup y=some .free:=by
     rcases e3 with z|z
     ·exfalso;rw[q0N] at z;cases e:sc.names.lookup y with
      |none=>rw[e] at z;cases z
      |some k =>
       rw[e] at z;cases k with
       |«local»=>exact S.out y yN hy e
       |_=>simp at z<;>(split at z<;>cases z)
     ·exact freeSc y z
    have hk:=S.free _ (PySem.mem_of_lookup hf) rfl;obtain⟨u,r,l⟩:=hl2 _ y v ey e2 (.inr hk);refine⟨u,r,.inr ⟨?_,?_⟩⟩
    ·rcases e3 with z|z
     ·exfalso;rw[q0N,hf,Option.map_some] at z;have z:=QQ.inj z;split at z<;>cases z
     ·exact z
    ·obtain⟨c,hc⟩:=hcl2 (y,.free) (PySem.mem_of_lookup hf) rfl;rcases l with ⟨l1,_⟩|⟨_,c',hc',hcell⟩
     ·rcases hk with z|z<;>(rw[l1] at z;cases z)
     ·have:=hcl1 _ _ hc;rw[hc'] at this;cases this;obtain⟨o,ho',hd⟩:=hcell;exact⟨c,hc,o,kp _ _ ho',hd⟩
 ·obtain⟨v,o,ho',hd⟩:=I2.cell x c (hcl1 _ _ h);exact⟨v,o,kp _ _ ho',hd⟩
 ·show upd H2 s2.heap.objs.size _ (s2.heap.objs.size+1)=none;rw[q07 (Nat.succ_ne_self _)];exact frC
 ·obtain⟨v,o,ho',hd⟩:=I2.cell x c (hcl1 _ _ h);rw[q07 (QH (Heap.lt_size ho'))];exact I2.freeC x c (hcl1 _ _ h)
 ·exact I2.hok.laid kp (Qi _) ⟨QM _,[],0,.nil,hD⟩
 ·show _=(inN ts X.N).length;unfold inN;rw[QA,QA,Q4,Qh,I2.len]
theorem q5b {elt:Ev.Env->R D}{cond:Ev.Env->R Bool}{k:Nat}{ρ:Ev.Env}{d:D}{ds es:List D}(h:q0O elt cond k ρ (d::ds) = .ok es) :
  ∃xs b,unp k d = .ok xs/\cond (vals xs++ρ) = .ok b/\(b=true->∃e es',elt (vals xs++ρ) = .ok e/\q0O elt cond k ρ ds = .ok es'/\es=e::es')/\(b=false->q0O elt cond k ρ ds = .ok es):=by
 unfold q0O at h;cases h1:unp k d with
 |ok xs =>
  rw[h1,q00] at h;cases h2:cond (vals xs++ρ) with
  |ok b =>
   rw[h2,q00] at h;refine⟨xs,b,rfl,h2,λ hb=>?_,λ hb=>?_⟩
   ·subst hb;rw[if_pos rfl] at h;cases h3:elt (vals xs++ρ) with
    |ok e =>
     rw[h3,q00] at h;cases h4:q0O elt cond k ρ ds with
     |ok es'=>rw[h4,q00] at h;cases h;exact⟨e,es',rfl,rfl,rfl⟩
     |err c=>rw[h4] at h;cases h
     |stuck=>rw[h4] at h;cases h
    |err c=>rw[h3] at h;cases h
    |stuck=>rw[h3] at h;cases h
   ·subst hb;rw[if_neg (by simp)] at h;exact h
  |err c=>rw[h2] at h;cases h
  |stuck=>rw[h2] at h;cases h
 |err c=>rw[h1] at h;cases h
 |stuck=>rw[h1] at h;cases h
theorem q48 {p:Pm}{H Hf:Hp}{more:List (List Addr)}:∀{ρ:Ev.Env}{σ:L2.St}{os:List (List Addr)},q1I p H Hf ρ σ os->q1I p H Hf ρ σ (os++more)
 |[],_,_,_=>trivial
 |_::ρ,_,_,h=>by obtain⟨y,σ',as,os',rfl,rfl,h1,h2⟩:=h;exact⟨y,σ',as,os'++more,rfl,rfl,h1,q48 h2⟩
theorem q59 {p:Pm}{H Hf:Hp}{ρ:Ev.Env}{σ:L2.St}{os:List (List Addr)}(h:q1I p H Hf ρ σ os):∀{xs:List D}{vs:List V},RepL p Hf xs vs->q1I p H Hf (vals xs++ρ) (vs.map some++σ) (Qe xs.length []++os)
 |[],vs,r=>by cases (show vs=[] from r);exact h
 |d::xs,vs,r=>by obtain⟨v,r',rfl,h1,h2⟩:=r;exact⟨some v,r'.map some++σ,[],Qe xs.length []++os,rfl,by simp[Ji],⟨rfl,v,rfl,h1⟩,q59 h h2⟩
theorem q4l (n:Nat) (os:List (List Addr)) (D:Addr):(Qe n []++os++[[D]]).flatten=os.flatten++[D]:=by simp
section
variable {prog:Program}{w:World}{A:Around}{R:Result->Shared->Prop}{s:Shared}
theorem q4c {elt target iter:PySem.Expr}{ifs:List PySem.Expr}{scope:Scope}{it acc:Value}{env:PySem.Env}(I:Nat->Shared->Prop)
  (turn:∀n s,I n s->wpAny (model prog w) A (pyNext it) (λ r s₁=>match r with
   |none=>R (.ok .next) s₁
   |some v=>wpAny (model prog w) A (letOwnedTupleGo target it v) (λ _ s₁'=>wpAny (model prog w) A (assign target env v) (λ _ s₂ =>
     wpAny (model prog w) A (forIn ifs true λ c r=>if r=true then do let ok <-isTrue c env (eval c env);pure (ForInStep.yield ok) else pure (ForInStep.yield r)) (λ ok s₃ =>
      if ok=true then wpAny (model prog w) A (eval elt env) (λ x s₄ =>
       wpAny (model prog w) A (call (.builtin "list.append") [acc,x]) (λ _ s₅=>∃m,m<n/\I m s₅) (λ _ _=>False) s₄) (λ _ _=>False) s₃
      else ∃m,m<n/\I m s₃) (λ _ _=>False) s₂) (λ _ _=>False) s₁') (λ _ _=>False) s₁) (λ _ _=>False) s)
  (n:Nat) (h:I n s):codeAny (model prog w) A (.compLoop (.ListComp elt [⟨target,iter,ifs,0⟩] scope pos) 0 it acc env) R s:=by
 refine codeAny_loop rfl I (λ n s hI=>?_) n h;show wpAny _ A ((compTurn (.ListComp elt [⟨target,iter,ifs,0⟩] scope pos) 0 it acc env).onRaise (λ x=>do noteFrame x env;theTreesLotGoes x)) _ _ s;refine wpAny_noted ?_;rw[compTurn_list];refine wpAny_bind (wpAny_standAt (wpAny_bind (wpAny_mono (turn n s hI) (λ r s₁ h₁=>?_) λ _ _ h'=>h'.elim)));cases r with
 |none=>exact wpAny_pure h₁
 |some v =>
  refine wpAny_bind (wpAny_mono h₁ (λ _ s₁' h₁'=>?_) λ _ _ h'=>h'.elim);refine wpAny_bind (wpAny_mono h₁' (λ _ s₂ h₂=>wpAny_bind (wpAny_mono h₂ (λ ok s₃ h₃=>?_) λ _ _ h'=>h'.elim)) λ _ _ h'=>h'.elim);cases ok with
  |false=>exact wpAny_pure ⟨rfl,h₃⟩
  |true =>
   exact wpAny_bind (wpAny_bind (wpAny_mono h₃ (λ x s₄ h₄=>wpAny_bind (wpAny_mono h₄ (λ _ s₅ h₅=>wpAny_pure (wpAny_pure ⟨rfl,h₅⟩)) λ _ _ h'=>h'.elim)) λ _ _ h'=>h'.elim))
end
def SGc (X:Cx) (p:Pm) (tg:PySem.Expr) (k m:Nat):Prop :=
 ∀(E:Value->Shared->Prop) (pins:List (Addr×Obj)) (s:Shared) (σt σ:L2.St) (H Hf:Hp) (d:D) (xs:List D) (v:V) (u:Value),Inv X pins (σt++σ) H s->σt.length=m->RelV v u->Ext Hf H->Rep p Hf d v->unp k d = .ok xs->
  wpAny (model X.prog X.w) X.A (assign tg X.env u) (λ _ s'=>∃vs,RepL p Hf xs vs/\vs.length=m/\Inv X pins (vs.map some++σ) H s') E s
section
variable {X:Cx}{p:Pm}{G:Nat->List D->R D}{sub:Nat->Nat->Bool}
theorem q9W {x:Str}(hN:X.N.Nodup) (hi:X.N[0]? = some x) (hl:X.env.scope.names.lookup x=some .local):SGc X p (.Name x pos) 0 1:=by
 intro E pins s σt σ H Hf d xs v u I hm rv xt q e;cases e;obtain⟨o,rfl⟩:∃o,σt=[o]:=by
  match σt,hm with
  |[o],_=>exact⟨o,rfl⟩
 exact wpAny_assign_Name (q0q I hN hi (.inl hl) rv (λ s2 I2=>⟨[v],⟨v,[],rfl,q,rfl⟩,rfl,I2⟩) (.inr hl))
theorem qGU {x y:Str}{px py:Pos}{k1:Nat}(hK:p.K=X.K) (hc:X.calm=true) (hN:X.N.Nodup) (hi:X.N[0]? = some x) (hl:X.env.scope.names.lookup x=some .local) (hj:X.N[1]? = some y) (hl2:X.env.scope.names.lookup y=some .local):SGc X p (.Tuple [.Name x px,.Name y py] k1 pos) 2 2:=by
 intro E pins s σt σ H Hf d xs v u I hm rv xt q e;obtain⟨o1,o2,rfl⟩:∃o1 o2,σt=[o1,o2]:=by
  match σt,hm with
  |[o1,o2],_=>exact⟨o1,o2,rfl⟩
 cases d<;>first
  |(exfalso;unfold unp at e;rw[if_neg (by decide)] at e;cases e;done)
  |skip
 rename_i ds;unfold unp at e;rw[if_neg (by decide)] at e;dsimp only at e;split at e
 ·rename_i hl';cases e;obtain⟨a,vs,rfl,s1,z,r1⟩:=q;obtain⟨d1,d2,rfl⟩:∃d1 d2,xs=[d1,d2]:=by
   match xs,hl' with
   |[d1,d2],_=>exact⟨d1,d2,rfl⟩
  obtain⟨v1,r,rfl,q1,h2⟩:=r1;obtain⟨v2,r2,rfl,q2,h4⟩:=h2;cases (show r2=[] from h4);refine wpAny_mono (qI9 (X:=X.wish E) (n:=2) hc (q9B (qAw (X:=X.wish E) hN hi (.inl hl) (.inr hl)) (q9B (qAw (X:=X.wish E) hN hj (.inl hl2) (.inr hl2)) qFb rfl) rfl) rfl rfl pins s _ H (.ref a) u (λ σ' H'=>H'=H/\σ'=some v1::some v2::σ) (I.wish E) rv
   ⟨a,[v1,v2],rfl,hK▸xt.sqT s1,rfl,v1,[v2],rfl,v2,[],rfl,rfl,rfl,rfl⟩) (λ _ s' h=>?_) (λ _ _ z=>z)
  obtain⟨σ',H',I',rfl,rfl⟩:=h;exact⟨[v1,v2],⟨v1,_,rfl,q1,v2,_,rfl,q2,rfl⟩,rfl,I'.q2Y⟩
 ·cases e
def STs (X:Cx) (p:Pm) (G:Nat->List D->R D) (sub:Nat->Nat->Bool) (ifs:List PySem.Expr) (lc:List T):Prop:=(ifs=[]/\lc=[])\/∃c l,ifs=[c]/\lc=[l]/\ST X p G sub c l
theorem q9X {elt tg iter:PySem.Expr}{ifs:List PySem.Expr}{sc:Scope}{k:Nat}{ts:List Str}{le:L}{lc:List T}{it:Addr}{fp:List Addr}{tn:Nat->Heap->Prop}{J:It}{pins:List (Addr×Obj)}{s2:Shared}{σ:L2.St}{H2:Hp}{ρ:Ev.Env}{os:List (List Addr)}
  {ds es:List D}{vs:List V}{cl:List (Str×Addr)}{E:Value->Shared->Prop}{RR:Value->Addr->Result->Shared->Prop}(hc:X.calm=true) (S:ScOk X sc ts) (hcl1:∀y c,cl.lookup y=some c->X.env.cells.lookup y=some c)
  (hcl2:∀x∈sc.names,x.2 = .free->∃c,cl.lookup x.1=some c) (hE:∀s2 H2 cl C fp,SE (cxC X s2 H2 sc cl C (inN ts X.N) fp) p G sub elt le) (hT:∀s2 H2 cl C fp,STs (cxC X s2 H2 sc cl C (inN ts X.N) fp) p G sub ifs lc)
  (hG:∀s2 H2 cl C fp,SGc (cxC X s2 H2 sc cl C (inN ts X.N) fp) p tg k ts.length)
  (I2:Inv X pins σ H2 s2) (R2:Rel p ρ σ os H2) (T:Turn X.prog X.w X.K tg J fp it tn) (st2:tn 0 s2.heap) (f2:∀b∈fp,FpOk X pins H2 b) (rep:RepL p (fz os.flatten H2) ds vs) (wk:Wk J H2 vs)
  (hgo:q0O (ev G sub le) (tsts G sub lc) k ρ ds = .ok es) (hbig:es.length<=big)
  (hRR:∀D C s' H',Inv X pins σ H' s'->Ext H2 H'->Rep p (fz os.flatten H') (.lst es) (.ref D)->(∃m,s'.heap.Ns C m)->FpOk X pins H' C->H2 D=none->RR (.ref D) C (.ok .next) s') :
  wpAny (model X.prog X.w) X.A (newList []) (λ acc s3=>wpAny (model X.prog X.w) X.A (newFunctionEnv sc X.env.globals cl [] X.env.qual none .none (some X.env)) (λ cenv s4 =>
   codeAny (model X.prog X.w) X.A (.compStart (.ListComp elt [⟨tg,iter,ifs,0⟩] sc pos) 0 (.ref it) acc {cenv with scope:=relabel sc X.env}) (RR acc cenv.locals) s4) E s3) E s2:=by
 refine wpAny_newObj_type (wpAny_newFunctionEnv S.cell (by intro y hy;simp at hy) (λ h1 hns1 hsb1=>?_) S.kind);dsimp only at hns1 hsb1 |-;generalize hH2:s2.heap.push {cls:= .type "list",dict:=none,data:= .seq ([]:List Value).toArray}=HH at hns1 hsb1 |-;have hC:HH.objs.size=s2.heap.objs.size+1:=by rw[<-hH2,Heap.size_push]
 rw[hC] at hns1 hsb1 |-;have kp:∀b o,s2.heap.get? b=some o->h1.get? b=some o:=λ b o e=>hsb1.extBut b o (QH (Jg (Heap.lt_size e))) (Heap.get?_push_of_some _ (hH2▸Heap.get?_push_of_some _ e));have hD:h1.get? s2.heap.objs.size=some {cls:= .type "list",data:= .seq ([]:List Value).toArray}:=hsb1.extBut _ _ (QH (Q7 _)) (Heap.get?_push_of_some _ (hH2▸Heap.get?_push_size _ rfl));generalize hs4:({s2 with heap:=h1,toks:=s2.toks+([]:List (Str×Value)).length}:Shared)=s4;have ho:∀b∈fp,∃o,s2.heap.get? b=some o:=λ b hb=>let ⟨o,e,_⟩:=T.obj 0 _ st2 b hb;⟨o,e⟩;have I4:Inv (cxC X s2 H2 sc cl (s2.heap.objs.size+1) (inN ts X.N) fp) [] (Qe ts.length none++σ) (upd H2 s2.heap.objs.size (.lst [])) s4:=by rw[<-hs4];exact q7T I2 S hcl1 hcl2 f2 ho ⟨_,hns1⟩ kp hD
 have st4:tn 0 s4.heap:=T.keep _ _ _ st2 λ b hb o e=>by rw[<-hs4];exact kp b o e
 have fr:H2 s2.heap.objs.size=none:=I2.hok.fresh (Qi _);have frC:H2 (s2.heap.objs.size+1)=none:=I2.hok.fresh (Nat.le_succ _);have stat:∀{H':Hp},(∀b∈fp,H' b=none)->∀b∈fp,FpOk (cxC X s2 H2 sc cl (s2.heap.objs.size+1) (inN ts X.N) fp) [] H' b:=λ {H'} hn b hb=>by
  refine⟨hn b hb,?_,λ hm=>?_,.inl hb,λ x c h=>(f2 b hb).2.2.2.2.1 x c (hcl1 _ _ h),λ p hp=>absurd (show p∈([]:List (Addr×Obj)) from hp) (by simp)⟩
  ·obtain⟨o,e⟩:=ho b hb;exact QH (Jg (Heap.lt_size e))
  ·rcases Qf.mp (I2.q3R b hm) with z|z
   ·exact (f2 b hb).2.1 z
   ·exact (f2 b hb).2.2.1 z
 have hlen:ds.length=vs.length:=rep.length;have loop:codeAny (model X.prog X.w) X.A (.compLoop (.ListComp elt [⟨tg,iter,ifs,0⟩] sc pos) 0 (.ref it) (.ref s2.heap.objs.size) (compEnvC sc cl (s2.heap.objs.size+1) X.env)) (RR (.ref s2.heap.objs.size) (s2.heap.objs.size+1)) s4:=by
  refine q4c (λ n s'=>∃i σt H' ys es0 es1,Inv (cxC X s2 H2 sc cl (s2.heap.objs.size+1) (inN ts X.N) fp) [] (σt++σ) H' s'/\σt.length=ts.length/\tn i s'.heap/\(∀b∈fp,H' b=none)/\Ext H2 H'/\H' s2.heap.objs.size=some (.lst ys)/\
   RepL p (fz (os.flatten++[s2.heap.objs.size]) H') es0 ys/\q0O (ev G sub le) (tsts G sub lc) k ρ (ds.drop i) = .ok es1/\es0++es1=es/\n=ds.length-i/\i<=ds.length) ?_ ds.length
   ⟨0,Qe ts.length none,upd H2 s2.heap.objs.size (.lst []),[],[],es,I4,by simp,st4,λ b hb=>?_,Ext.upd fr,q0B,rfl,by simpa using hgo,rfl,by simp,QM _⟩
  ·rintro n s5 ⟨i,σt,H5,ys,es0,es1,I5,hσ,st5,fr5,x5,hDs,rp5,go5,he5,rfl,hi5⟩
   by_cases hlt:i<ds.length
   ·have hd:ds.drop i=ds[i]::ds.drop (i+1):=List.drop_eq_getElem_cons hlt;rw[hd] at go5;obtain⟨xs,b,hu,hcnd,hpos,hneg⟩:=q5b go5;refine wpAny_mono (T.item (cxC X s2 H2 sc cl (s2.heap.objs.size+1) (inN ts X.N) fp) rfl rfl rfl hc i [] s5 _ H5 (λ _ _=>False) I5 (stat fr5) st5 (wk.go i H5 x5 (hlen▸hlt))) (λ r s6 ⟨u,hr,h6⟩=>?_) (λ _ _ z=>z);subst hr;refine wpAny_mono h6 (λ _ s7 ⟨x,H7,I7,r7,y7,st7,fr7⟩=>?_) (λ _ _ z=>z);obtain⟨rfl,hx⟩:=wk.yld i H5 x H7 x5 (hlen▸hlt) y7;obtain⟨v',hv',rv'⟩:=rep.get (i:=i) (d:=ds[i]) (by simp[hlt]);rw[hx] at hv';cases hv';have I7':=I7.pinned (stat fr7) (T.obj _ _ st7);have xf:Ext (fz os.flatten H2) (fz (os.flatten++[s2.heap.objs.size]) H7):=λ a o e=>by
     unfold fz at e;split at e
     ·cases e
     ·rename_i n;refine q1x (x5 a o e) λ m=>?_;rcases Qm.mp m with m|m
      ·exact n m
      ·rw[Qt.mp m,fr] at e;cases e
    refine wpAny_mono (hG s2 H2 cl (s2.heap.objs.size+1) fp (λ _ _=>False) _ s7 σt σ H7 (fz (os.flatten++[s2.heap.objs.size]) H7) ds[i] xs x u I7' hσ r7 q0Z (rv'.mono xf) hu) (λ _ s8 ⟨vs8,rp8,hl8,I8⟩=>?_) (λ _ _ z=>z);have RL:Rel p (vals xs++ρ) (vs8.map some++σ) (Qe xs.length []++os++[[s2.heap.objs.size]]) H7:=by
     refine⟨?_,λ a ha=>?_,?_⟩
     ·rw[q4l];refine Qz.mpr ⟨R2.nd,by simp,λ a ha b hb e=>?_⟩;rw[Qt.mp hb] at e;obtain⟨o,q⟩:=R2.there a ha;rw[e,fr] at q;cases q
     ·rw[q4l] at ha;rcases Qm.mp ha with m|m
      ·obtain⟨o,q⟩:=R2.there a m;exact⟨o,x5 _ _ q⟩
      ·rw[Qt.mp m];exact⟨_,hDs⟩
     ·rw[q4l];exact q48 (q59 (q1l x5 xf R2.slots) rp8)
    have test:wpAny (model X.prog X.w) X.A (forIn ifs true λ c r=>if r=true then do let ok <-isTrue c (compEnvC sc cl (s2.heap.objs.size+1) X.env) (eval c (compEnvC sc cl (s2.heap.objs.size+1) X.env));pure (ForInStep.yield ok) else pure (ForInStep.yield r))
      (λ ok s9=>ok=b/\∃H9,Inv (cxC X s2 H2 sc cl (s2.heap.objs.size+1) (inN ts X.N) fp) ([]++q71 fp s7.heap) (vs8.map some++σ) H9 s9/\Ext H7 H9) (λ _ _=>False) s8:=by
     rcases hT s2 H2 cl (s2.heap.objs.size+1) fp with ⟨rfl,rfl⟩|⟨c,l,rfl,rfl,hst⟩
     ·have:b=true:=(by rw[q15] at hcnd;cases hcnd;rfl);exact wpAny_tests_nil ⟨this.symm,H7,I8,Ext.refl _⟩
     ·have e1:tst G sub l (vals xs++ρ) = .ok b:=by
       rw[q0c] at hcnd;cases h:tst G sub l (vals xs++ρ) with
       |ok t =>
        rw[h,q00] at hcnd;cases t
        ·simpa using hcnd
        ·simpa using hcnd
       |err c=>rw[h] at hcnd;cases hcnd
       |stuck=>rw[h] at hcnd;cases hcnd
      refine wpAny_tests_one (wpAny_mono (hst _ _ s8 _ H7 (vals xs++ρ) _ (.inl rfl) I8 RL (by rw[e1];simp)) (λ t s9 ⟨H9,e9,I9,x9⟩=>?_) (λ e s' ⟨c,z,_⟩=>by rw[e1] at z;cases z));rw[e1] at e9;cases e9;exact⟨rfl,H9,I9,x9⟩
    refine wpAny_mono test (λ ok s9 ⟨hok,H9,I9,x9⟩=>?_) (λ _ _ z=>z);subst hok;have keepT:∀{s':Shared}{σ':L2.St}{H':Hp},Inv (cxC X s2 H2 sc cl (s2.heap.objs.size+1) (inN ts X.N) fp) ([]++q71 fp s7.heap) σ' H' s'->tn (i+1) s'.heap/\∀b∈fp,H' b=none:=λ {s' σ' H'} I' =>
     ⟨T.keep _ _ _ st7 λ b hb o e=>(I'.pin (b,o) (Qj _ (Qj _ (q1d hb e)))).1,λ b hb=>by obtain⟨o,e,d⟩:=T.obj _ _ st7 b hb;exact (I'.pin (b,o) (Qj _ (Qj _ (q1d hb e)))).2.1⟩
    cases ok with
    |false =>
     rw[if_neg (by simp)];obtain⟨k1,k2⟩:=keepT I9;exact⟨ds.length-(i+1),by lia,i+1,vs8.map some,H9,ys,es0,es1,I9.q14,by simpa using hl8,k1,k2,x5.trans x9,x9 _ _ hDs,rp5.mono (q1E x9),hneg rfl,he5,rfl,hlt⟩
    |true =>
     rw[if_pos rfl];obtain⟨e',es',hev,hgo',rfl⟩:=hpos rfl;refine wpAny_mono (hE s2 H2 cl (s2.heap.objs.size+1) fp _ s9 _ H9 (vals xs++ρ) _ I9 (RL.ext x9) (by rw[hev];simp)) (λ y s10 h10=>?_) (λ e s' ⟨c,z,_⟩=>by rw[hev] at z;cases z);obtain⟨d10,v10,H10,e10,I10,r10,x10,q10⟩:=h10;rw[hev] at e10;cases e10;rw[q4l] at q10;have hz:es0.length=ys.length:=rp5.length;have hzb:ys.length<sizeLine:=by have h1:es0.length+(es'.length+1)=es.length:=(by rw[<-he5];simp);have:=q0a;lia
     refine wpAny_mono (q3U (X:=cxC X s2 H2 sc cl (s2.heap.objs.size+1) (inN ts X.N) fp) _ s10 _ H10 (.ref s2.heap.objs.size) [v10] (.ref s2.heap.objs.size) [y] (λ z H'=>H'=upd H10 s2.heap.objs.size (.lst (ys++[v10]))) I10 rfl (.cons r10 .nil)
      ⟨_,ys,v10,rfl,rfl,x10 _ _ (x9 _ _ hDs),hzb,rfl⟩) (λ _ s11 h11=>?_) (λ _ _ z=>z)
     obtain⟨_,H11,I11,_,rfl⟩:=h11;obtain⟨k1,k2⟩:=keepT I11;refine⟨ds.length-(i+1),by lia,i+1,vs8.map some,_,ys++[v10],es0++[e'],es',I11.q14,by simpa using hl8,k1,k2,λ a o e=>?_,q0B,?_,hgo',by simpa using he5,rfl,hlt⟩
     ·rw[q07 (q08 e fr)];exact x10 _ _ (x9 _ _ (x5 _ _ e))
     ·rw[q45 (by simp)];exact (rp5.mono (q1E (x9.trans x10))).snoc q10
   ·have ei:i=ds.length:=(by lia);subst ei;refine wpAny_mono (T.done (cxC X s2 H2 sc cl (s2.heap.objs.size+1) (inN ts X.N) fp) rfl rfl rfl hc ds.length [] s5 _ H5 (λ _ _=>False) I5 (stat fr5) st5 (hlen▸wk.stop H5 x5)) (λ r s6 ⟨hr,I6⟩=>?_) (λ _ _ z=>z);subst hr;rw[List.drop_length] at go5;have e1:es1=[]:=(by cases go5;rfl);subst e1;rw[QR] at he5;subst he5;obtain⟨m,hm,_⟩:=I6.loc;have fC:FpOk X pins H5 (s2.heap.objs.size+1):=I2.fpOk (Nat.le_succ _) I6.free;refine hRR _ _ s6 H5 ?_ x5 ⟨_,ys,rfl,SqL.of (q1x hDs λ m=>?_),rp5.mono (q2d λ a ha=>Qv _ ha)⟩ ⟨m,hm⟩ fC fr
    ·exact I2.qFa (ch:=fp) I6.os I6.base I6.hok I6.bare λ b hb=>⟨(f2 b hb).2.2.2.1,(f2 b hb).2.1,(f2 b hb).2.2.2.2.1,(f2 b hb).2.2.2.2.2⟩
    ·obtain⟨o,q⟩:=R2.there _ m;rw[fr] at q;cases q
  ·obtain⟨o,e⟩:=ho b hb;rw[q07 (QH (Heap.lt_size e))];exact (f2 b hb).1
 exact codeAny_compStart_list loop (T.self _ 0 _ _ _ st4 loop)
end
end Snd
namespace Snd
open PySem PySem.Spec PyProof.Rows L2 Ev
variable {fr:Bool}{sc:Scope}{ts:List Str}
section
variable {X:Cx}{p:Pm}{G:Nat->List D->R D}{sub:Nat->Nat->Bool}
theorem q9Y {α β:Type}{r:R α}{f:α->R β}(h:r.q6B.bind f ≠ .stuck):∃a,r = .ok a:=by
 cases r with
 |ok a=>exact⟨a,rfl⟩
 |err c=>exact absurd rfl h
 |stuck=>exact absurd rfl h
theorem qBe {J:It}{H:Hp}{os:List (List Addr)}{vs:List V}(w:Wk J (if fr then fz os.flatten H else H) vs):Wk J H vs:=by
 cases fr
 ·exact w
 ·exact w.mono q0Z
theorem q49 (ok:X.Ok) (S:ScOk X sc ts):∀x∈sc.names,x.2 = .free->∃c,X.env.cells.lookup x.1=some c:=λ x hx hf=>ok.has x.1 (S.free x hx hf)
theorem qGV {elt tg iter:PySem.Expr}{ifs:List PySem.Expr}{pos:Pos}{k:Nat}{li:I}{le:L}{lc:List T}(hc:X.calm=true) (S:ScOk X sc ts) (hi:SI X p G sub fr tg iter li)
  (hE:∀s2 H2 cl C fp,SE (cxC X s2 H2 sc cl C (inN ts X.N) fp) p G sub elt le) (hT:∀s2 H2 cl C fp,STs (cxC X s2 H2 sc cl C (inN ts X.N) fp) p G sub ifs lc)
  (hG:∀s2 H2 cl C fp,SGc (cxC X s2 H2 sc cl C (inN ts X.N) fp) p tg k ts.length) (hfs:∀x,foldedSetIterable iter X.env x=pure x) :
  SE X p G sub (.ListComp elt [⟨tg,iter,ifs,0⟩] sc pos) (.comp k le li lc):=by
 intro pins s σ H ρ os I R hs;rw[q0i] at hs |-;obtain⟨cl,hcl,hcl1,hcl2⟩:=q47 (q49 I.ok S);rw[eval_ListComp];refine wpAny_comprehension_free (use:=none) rfl hfs hcl S.kind S.names (wpAny_mono (hi pins s σ H ρ os I R (q0A hs)) (λ v s1 h1=>wpAny_mono h1 (λ itv s2 h2=>?_) (λ e s' z=>z.bind)) (λ e s' z=>z.bind));obtain⟨ds,e1,it,fp,tn,J,H2,rfl,I2,T,st2,f2,x2,vs,rep,wk⟩:=h2;rw[e1,q00] at hs |-;obtain⟨es,hes⟩:=q9Y hs;rw[hes,q0P,q00] at hs |-;have z:es.length<=big:=by
  by_cases z:es.length<=big
  ·exact z
  ·rw[if_neg z] at hs;exact absurd rfl hs
 rw[if_pos z];refine q9X (RR:=λ acc C=>compPost (model X.prog X.w) X.A _ none _ acc C) hc S hcl1 hcl2 hE hT hG I2 (R.ext x2) T st2 f2 rep (qBe wk) hes z λ D C s' H' I' x' q' hns fC _=>?_;obtain⟨m,hm⟩:=hns;refine⟨m,hm,λ h' hs'=>⟨.lst es,.ref D,H',rfl,?_,rfl,x2.trans x',q'⟩⟩;obtain⟨f0,f1,f2,f3,f4,f5⟩:=fC;exact I'.turned (t':=s'.toks) (λ b o hb e=>hs'.extBut b o hb e) f0 f1 f3 f4 f5
theorem qGW {i:Nat}{x:Str}{elt tg iter:PySem.Expr}{ifs:List PySem.Expr}{pos pos' spos:Pos}{k:Nat}{li:I}{le:L}{lc:List T}(hc:X.calm=true) (S:ScOk X sc ts) (hi:SI X p G sub fr tg iter li)
  (hE:∀s2 H2 cl C fp,SE (cxC X s2 H2 sc cl C (inN ts X.N) fp) p G sub elt le) (hT:∀s2 H2 cl C fp,STs (cxC X s2 H2 sc cl C (inN ts X.N) fp) p G sub ifs lc)
  (hG:∀s2 H2 cl C fp,SGc (cxC X s2 H2 sc cl C (inN ts X.N) fp) p tg k ts.length) (hfs:∀x,foldedSetIterable iter X.env x=pure x)
  (hN:X.N.Nodup) (hiN:X.N[i]? = some x) (hx:Loc X.env.scope x) (hf:X.fn x=true\/X.env.scope.names.lookup x=some .local)
  (hsw:swapsWith (.ListComp elt [⟨tg,iter,ifs,0⟩] sc pos) (some (.Name x pos')) spos.line X.env=pure true) :
  SS X p G sub (.Assign [.Name x pos'] (.ListComp elt [⟨tg,iter,ifs,0⟩] sc pos) spos) (.set i (.comp k le li lc)):=by
 intro H0 O0 E hp pins s σ H ρ os I B hs hE';have e0:ex G sub (.set i (.comp k le li lc)) ρ=(ev G sub (.comp k le li lc) ρ).go ρ λ d=> .ok (ρ.set i (some (.val d))) .nx:=rfl;rw[e0] at hs hE' |-;rw[q0i] at hs hE' |-;obtain⟨cl,hcl,hcl1,hcl2⟩:=q47 (q49 I.ok S);have lt:i < ρ.length:=by rw[<-B.slen,I.len];exact (Qc.mp hiN).1
 rw[exec_Assign_Name_used _ _ _ _ hsw];refine wpAny_bind (wpAny_standAt (wpAny_bind ?_));show wpAny _ X.A (do let _ <-comprehension (.ListComp elt [⟨tg,iter,ifs,0⟩] sc pos) sc X.env _ (newList []) false (eval iter X.env) (some (assign (.Name x pos') X.env))) _ _ s;refine wpAny_bind (wpAny_mono (wpAny_comprehension_free (use:=some (assign (.Name x pos') X.env)) (Q:=λ _ s'=>Gs X p H0 O0 pins (((evi G sub li ρ).bind λ ds=>(q0O (ev G sub le) (tsts G sub lc) k ρ ds).q6B.bind λ es=>if es.length<=big then .ok (.lst es) else .stuck).go ρ λ d=> .ok (ρ.set i (some (.val d))) .nx) .next s') rfl hfs hcl S.kind S.names
  (wpAny_mono (hi pins s σ H ρ _ I B.rel (q0A (q1t hs))) (λ v s1 h1=>wpAny_mono h1 (λ itv s2 h2=>?_) (λ e s' z=>hE' e s' (q2W B z.bind))) (λ e s' z=>hE' e s' (q2W B z.bind)))) (λ _ s' hq=>wpAny_pure (wpAny_pure hq)) λ _ _ e=>e)
 obtain⟨ds,e1,it,fp,tn,J,H2,rfl,I2,T,st2,f2,x2,vs,rep,wk⟩:=h2;rw[e1,q00] at hs |-;obtain⟨es,hes⟩:=q9Y (q1t hs);rw[hes,q0P,q00] at hs |-;have z:es.length<=big:=by
  by_cases z:es.length<=big
  ·exact z
  ·rw[if_neg z] at hs;exact absurd rfl hs
 rw[if_pos z,q04];refine q9X (RR:=λ acc C=>compPost (model X.prog X.w) X.A _ (some (assign (.Name x pos') X.env)) _ acc C) hc S hcl1 hcl2 hE hT hG I2 (B.rel.ext x2) T st2 f2 rep (qBe wk) hes z λ D C s' H' I' x' q' hns fC _=>?_;obtain⟨m,hm⟩:=hns;obtain⟨f0,f1,f2',f3,f4,f5⟩:=fC;obtain⟨oC,esC,epC,hoC,hdC,hrC⟩:=id hm;have IP:Inv X (pins++[(C,oC)]) σ H' s':=I'.q67 λ q hq=>(Qm.mp hq).elim (λ z=>I'.pin q (Qj _ z)) λ z=>by cases Qt.mp z;exact⟨hoC,f0,f1,f2',λ v z=>by rw[hdC] at z;cases z⟩
 refine wpAny_assign_Name (q0q IP hN hiN hx (v:= .ref D) rfl (λ s3 I3=>?_) hf);have hC3:=(I3.pin (C,oC) (Qj _ (Qj _ (Qt.mpr rfl)))).1;refine⟨m,⟨oC,esC,epC,hC3,hdC,hrC⟩,λ h' hs'=>⟨_,.nx,_,_,H',rfl,(B.mono (x2.trans x')).setV lt q',?_,trivial⟩⟩;exact I3.q14.turned (t':=s3.toks) (λ b o hb e=>hs'.extBut b o hb e) f0 f1 f3 f4 f5
end
end Snd
namespace Snd
open PySem PySem.Spec PyProof.Rows L2 Ev
variable {a:PySem.Expr}{l:L}{pos:Pos}{pins:List (Addr×Obj)}{σ:L2.St}{H:Hp}{ρ:Ev.Env}{b:Bi}
def Ans (r:R D):Prop:=r = .stuck\/∃d,r = .ok d
theorem q12 (d:D):Ans (.ok d):= .inr ⟨d,rfl⟩
theorem q19:Ans .stuck:= .inl rfl
theorem q5l {c:Prop}[Decidable c] {r:R D}(h:Ans r):Ans (if c then r else .stuck):=by
 by_cases z:c
 ·rw[if_pos z];exact h
 ·rw[if_neg z];exact q19
theorem q0o {f:D->R D}(h:∀d,Ans (f d)):∀ds,Ans (oneD f ds)
 |[]=>q19
 |[d]=>h d
 |_::_::_=>q19
theorem q6R {f:D->D->R D}(h:∀d e,Ans (f d e)):∀ds,Ans (twoD f ds)
 |[]=>q19
 |[_]=>q19
 |[d,e]=>h d e
 |_::_::_::_=>q19
theorem q5A {f:List D->R D}(h:∀xs,Ans (f xs)) (d:D):Ans (lstD f d):=by cases d<;>first|exact q19|exact h _
theorem qBf {f:List D->R D}(h:∀xs,Ans (f xs)) (d:D):Ans (seqD f d):=by cases d<;>first|exact q19|exact h _
theorem q3G {f:Int->R D}(h:∀i,Ans (f i)) (d:D):Ans (intD f d):=by cases d<;>first|exact q19|exact h _
theorem qBg {f:Nat->R D}(h:∀i,Ans (f i)) (d:D):Ans (excD f d):=by cases d<;>first|exact q19|exact h _
theorem qBh (x:D):∀(l:List D) (n:Nat),Ans (idxOf x l n)
 |[],_=>q19
 |y::l,n=>by
  rw[idxOf]
  by_cases z:eqb y x=true
  ·rw[if_pos z];exact q12 _
  ·rw[if_neg z];exact qBh x l (n+1)
theorem q6S (sub:Nat->Nat->Bool) (b:Bi) (ds:List D):biD sub b ds = .stuck\/∃r,biD sub b ds = .ok r:=by
 have it:∀d,q0W d = .stuck\/∃r,q0W d = .ok r:=λ d=>by
  cases d<;>first
   |exact .inr ⟨_,rfl⟩
   |exact .inl rfl
   |skip
  rename_i ks vs;cases z:(ints? ks).isSome with
  |true=>exact .inr ⟨ks,by rw[q0W,z];rfl⟩
  |false=>exact .inl (by rw[q0W,z];rfl)
 have it2:∀d,q1v d = .stuck\/∃r,q1v d = .ok r:=λ d=>by cases d<;>first|exact .inr ⟨_,rfl⟩|exact .inl rfl
 show Ans (biD sub b ds);cases b with
 |len=>exact q0o (λ d=>by cases d<;>first|exact q19|exact q12 _) ds
 |sorted=>exact q0o (λ d=>by rcases it d with z|⟨r,z⟩<;>rw[z];exact q19;exact q5l (q12 _)) ds
 |sortedRev=>exact q0o (λ d=>by rcases it d with z|⟨r,z⟩<;>rw[z];exact q19;exact q5l (q12 _)) ds
 |sortedSet=>exact q0o (λ d=>by rcases it2 d with z|⟨r,z⟩<;>rw[z];exact q19;exact q5l (q12 _)) ds
 |tuple=>exact q0o (qBf λ _=>q12 _) ds
 |list=>exact q0o (qBf λ _=>q12 _) ds
 |sum=>exact q0o (q5A λ xs=>by unfold sumD;cases ints? xs<;>first|exact q19|exact q12 _) ds
 |all=>exact q0o (q5A λ xs=>by unfold allD;cases bools? xs<;>first|exact q19|exact q12 _) ds
 |bits=>exact q0o (q3G λ _=>q5l (q12 _)) ds
 |count=>exact q6R (λ _ _=>q5A (λ _=>q5l (q12 _)) _) ds
 |index=>exact q6R (λ _ _=>q5A (λ _=>q5l (qBh _ _ _)) _) ds
 |min2=>exact q6R (λ x y=>q3G (λ _=>q3G (λ _=>q12 _) y) x) ds
 |max2=>exact q6R (λ x y=>q3G (λ _=>q3G (λ _=>q12 _) y) x) ds
 |toInt=>exact q0o (λ d=>by cases d<;>first|exact q19|exact q12 _) ds
 |abs=>exact q0o (q3G λ _=>q12 _) ds
 |isTup=>exact q0o (λ d=>by cases d<;>first|exact q19|exact q12 _) ds
 |isLst=>exact q0o (q5A λ _=>q12 _) ds
 |isInt=>exact q0o (q3G λ _=>q12 _) ds
 |isBool=>exact q0o (λ d=>by cases d<;>first|exact q19|exact q12 _) ds
 |isVal=>exact q0o (qBg λ _=>q12 _) ds
 |isExc c=>exact q0o (qBg λ _=>q12 _) ds
def BS (X:Cx) (p:Pm) (sub:Nat->Nat->Bool) (b:Bi) (fv:Value):Prop :=
 ∀(E:Value->Shared->Prop) (pins:List (Addr×Obj)) (s:Shared) (σ:L2.St) (H:Hp) (os:List (List Addr)) (d r:D) (v:V) (u:Value),Inv X pins σ H s->Th os.flatten H->RelV v u->RepB p H (fz os.flatten H) d v->biD sub b [d] = .ok r->
  wpAny (model X.prog X.w) X.A (call fv [u]) (EP (X.wish E) pins σ (Fin p os.flatten H r)) E s
section
variable {X:Cx}{p:Pm}{G:Nat->List D->R D}{sub:Nat->Nat->Bool}
theorem q8h (ha:SB X p G sub a l) (hst:starEach [a] X.env=[(false,eval a X.env)]) {s:Shared}{os:List (List Addr)}{E:Value->Shared->Prop}{Q:List Value->Shared->Prop}(I:Inv X pins σ H s) (R:Rel p ρ σ os H) (hs:ev G sub l ρ ≠ .stuck)
  (hq:∀u s1,Gb X p pins σ os H (ev G sub l ρ) u s1->Q [u] s1) (he:∀e s',Er X p pins σ H (ev G sub l ρ) e s'->E e s'):wpAny (model X.prog X.w) X.A (spliced (backTo pos (starEach [a] X.env))) Q E s:=by
 rw[hst];show wpAny _ _ (spliced ((false,eval a X.env)::backTo pos [])) _ _ s;exact Calls.spliced_cons (wpAny_mono (ha pins s σ H ρ os I R hs) (λ u s1 h=>Calls.spliced_nil (hq u s1 h)) he)
theorem q2G {α:Type}{f:D->R α}(l:L) (ρ:Ev.Env) (g:List D->R α) (h:∀d,g [d]=f d):(evs G sub [l] ρ).bind g=(ev G sub l ρ).bind f:=by rw[q0D,q0n];cases ev G sub l ρ<;>first|exact h _|rfl
theorem qBi {s1:Shared}{os:List (List Addr)}{fv u:Value}(hB:BS X p sub b fv) (R:Rel p ρ σ os H) (hs:ev G sub (.bi b [l]) ρ ≠ .stuck) (h:Gb X p pins σ os H (ev G sub l ρ) u s1) :
  wpAny (model X.prog X.w) X.A (call fv [u]) (Gd X p pins σ os H (ev G sub (.bi b [l]) ρ)) (Er X p pins σ H (ev G sub (.bi b [l]) ρ)) s1:=by
 obtain⟨d,v,H1,e1,I1,r1,x1,q1⟩:=h;have e0:ev G sub (.bi b [l]) ρ=biD sub b [d]:=by rw[q1P,q2G (f:=λ d=>biD sub b [d]) l ρ _ (λ _=>rfl),e1];rfl
 rw[e0] at hs |-;rcases q6S sub b [d] with z|⟨r,z⟩
 ·exact absurd z hs
 ·rw[z];exact wpAny_mono (hB (Er X p pins σ H (.ok r)) pins s1 σ H1 os d r v u I1 (R.ext x1).th r1 q1 z) (λ w s2 h2=>qAY x1 rfl h2) λ _ _ z=>z
theorem q7U {e:Value}{s':Shared}(h:Er X p pins σ H (ev G sub l ρ) e s'):Er X p pins σ H (ev G sub (.bi b [l]) ρ) e s':=by rw[q1P,q2G (f:=λ d=>biD sub b [d]) l ρ _ (λ _=>rfl)];exact h.bind
theorem q7V (hs:ev G sub (.bi b [l]) ρ ≠ .stuck):ev G sub l ρ ≠ .stuck:=λ e=>hs (by rw[q1P,q2G (f:=λ d=>biD sub b [d]) l ρ _ (λ _=>rfl),e];rfl)
theorem qBj {x:Str}{id:String}{q:Pos}(hB:BS X p sub b (.builtin id)) (hg:Gl X x) (hm:X.mg x=none) (hv:bootBuiltins x=some (.builtin id)) (ha:SB X p G sub a l)
  (hn:x ≠ "__name__") (hdb:(x==("__debug__":Str))=false) (hst:starEach [a] X.env=[(false,eval a X.env)]):SE X p G sub (.Call (.Name x q) [a] [] pos) (.bi b [l]):=by
 intro pins s σ H ρ os I R hs;refine wpAny_Call_Name_kw (q1u I hg hm hv ?_ hn hdb);exact PyProof.Rows.callWith_builtin1 (q8h ha hst I R (q7V hs) (λ u s1 h=>qBi hB R hs h) (λ _ _=>q7U)) hst rfl
theorem qBk {x:Str}{T:String}{q:Pos}(hB:BS X p sub b (.type T)) (hg:Gl X x) (hm:X.mg x=none) (hv:bootBuiltins x=some (.type T)) (ha:SB X p G sub a l)
  (hn:x ≠ "__name__") (hdb:(x==("__debug__":Str))=false) (hst:starEach [a] X.env=[(false,eval a X.env)]):SE X p G sub (.Call (.Name x q) [a] [] pos) (.bi b [l]):=by
 intro pins s σ H ρ os I R hs;refine wpAny_Call_Name_kw (q1u I hg hm hv ?_ hn hdb);exact PyProof.Rows.callWith_type1 (q8h ha hst I R (q7V hs) (λ u s1 h=>qBi hB R hs h) (λ _ _=>q7U)) hst rfl
theorem qJO (hK:p.K=X.K):BS X p sub .len (.builtin "len"):=by
 intro E pins s σ H os d r v u I t rv q h;cases d<;>first
  |(cases h;done)
  |skip
 ·cases h;obtain⟨rfl,z⟩:=q;exact q7B (X:=X.wish E) pins s σ H _ _ _ (I.wish E) (.cons rv .nil) ⟨_,rfl,Qn z q0a,q0M rfl⟩
 ·cases h;obtain⟨a,vs,rfl,s1,z,r1⟩:=q;refine q4V (X:=X.wish E) pins s σ H _ _ _ (I.wish E) (.cons rv .nil) ⟨a,vs,rfl,.inr (hK▸q0Z.sqT s1),?_⟩;rw[<-r1.length];exact q0M rfl
 ·cases h;obtain⟨a,vs,rfl,s1,r1⟩:=q;refine q4V (X:=X.wish E) pins s σ H _ _ _ (I.wish E) (.cons rv .nil) ⟨a,vs,rfl,.inl (hK▸s1),?_⟩;rw[<-r1.length];exact q0M rfl
 ·cases h;obtain⟨a,kvs,rfl,s1,rfl,r1⟩:=q;cases rv;refine qL6 I s1 λ t s' I'=>⟨.int _,H,I'.wish E,⟨t,rfl⟩,?_⟩
  rw[Qh];exact q0M rfl
theorem qDn (hK:p.K=X.K):BS X p sub .tuple (.type "tuple"):=by
 intro E pins s σ H os d r v u I t rv q h;cases d<;>first
  |(cases h;done)
  |skip
 ·cases h;obtain⟨a,vs,rfl,s1,z,r1⟩:=q;exact q3T (X:=X.wish E) pins s σ H _ _ _ (I.wish E) (.cons rv .nil) ⟨a,vs,rfl,.inr ⟨hK▸q0Z.sqT s1,q0M ⟨a,vs,rfl,s1,z,r1⟩⟩⟩
 ·cases h;obtain⟨a,vs,rfl,s1,r1⟩:=q;have s1':SqL X.K H a vs:=hK▸s1;obtain⟨_,_,_,hz⟩:=I.list s1';exact q3T (X:=X.wish E) pins s σ H _ _ _ (I.wish E) (.cons rv .nil) ⟨a,vs,rfl,.inl ⟨s1',λ l hl=>q8f t r1 hz hl⟩⟩
theorem qGX (hK:p.K=X.K):BS X p sub .list (.type "list"):=by
 intro E pins s σ H os d r v u I t rv q h;cases d<;>first
  |(cases h;done)
  |skip
 ·cases h;obtain⟨a,vs,rfl,s1,z,r1⟩:=q;exact q4W (X:=X.wish E) pins s σ H _ _ _ (I.wish E) (.cons rv .nil) ⟨a,vs,rfl,.inr (hK▸q0Z.sqT s1),λ l hl=>q46 t r1 hl⟩
 ·cases h;obtain⟨a,vs,rfl,s1,r1⟩:=q;exact q4W (X:=X.wish E) pins s σ H _ _ _ (I.wish E) (.cons rv .nil) ⟨a,vs,rfl,.inl (hK▸s1),λ l hl=>q46 t r1 hl⟩
theorem qDo {vs:List V}{us:List Value}(r:Vals vs us) {i:Nat}{u:Value}(h:us[i]? = some u):∃v,vs[i]? = some v/\RelV v u:=by
 cases e:vs[i]? with
 |none=>rw[r.none_of e] at h;cases h
 |some v =>
  obtain⟨u',h1,h2⟩:=r.get e;rw[h] at h1;cases h1;exact⟨v,rfl,h2⟩
theorem q7W {Hf:Hp}:∀{ds:List D}{bs:List Bool}{vs:List V},bools? ds=some bs->RepL p Hf ds vs->vs=bs.map V.bl
 |[],bs,vs,h,r=>by cases h;exact r
 | .bl b::ds,bs,vs,h,r=>by
  obtain⟨v,r',rfl,h1,h2⟩:=r;have h':(bools? ds).map (b::·)=some bs:=h;cases e:bools? ds with
  |none=>rw[e] at h';cases h'
  |some bs' =>
   rw[e] at h';cases h';cases (show v=_ from h1);rw[q7W e h2];rfl
 | .non::_,_,_,h,_=>by cases h
 | .int _::_,_,_,h,_=>by cases h
 | .str _::_,_,_,h,_=>by cases h
 | .tup _::_,_,_,h,_=>by cases h
 | .lst _::_,_,_,h,_=>by cases h
 | .dct _ _::_,_,_,h,_=>by cases h
 | .exc _::_,_,_,h,_=>by cases h
theorem range_all {α:Type}(f:α->Bool) (d:α):∀(l:List α),(Qg l.length).all (λ i=>f (l.getD i d))=l.all f
 |[]=>rfl
 |a::l=>by rw[Qo,all_succ,List.all_cons];congr 1;exact range_all f d l
theorem qJP (hK:p.K=X.K) (hc:X.calm=true):BS X p sub .all (.builtin "all"):=by
 intro E pins s σ H os d r v u I t rv q h;cases d<;>first
  |(cases h;done)
  |skip
 rename_i xs;replace h:allD _ = .ok r:=h;unfold allD at h;split at h
 ·rename_i bs hb;cases h;obtain⟨a,vs,rfl,s1,r1⟩:=q;have e0:=q7W hb r1;subst e0;cases rv;obtain⟨its,rv,pt,hz⟩:=I.list (hK▸s1:SqL X.K H a _);have hl:its.length=bs.length:=by rw[<-rv.length];simp
  have hlt:a<s.heap.objs.size:=by obtain⟨_,e,_⟩:=pt.isList;exact Heap.lt_size e
  refine call_all_walk (wpAny_pyIter_list pt.isList ⟨_,_,_,_,_,_,λ i=>bs.getD i false,rfl,Walks.list (A:=X.A.in1) (I.ok.hd hc) s.heap.objs.size a (QH hlt) its.toArray,⟨⟨_,Heap.get?_push_size _ rfl,rfl,rfl⟩,pt.isList.push _⟩,λ i v s Q E hP hQ=>?_,λ h' tk hk=>?_⟩)
  ·have hP':its[i]? = some v:=(by simpa using hP);obtain⟨w,hw,rw'⟩:=qDo rv hP';rw[Qs] at hw;cases eb:bs[i]? with
   |none=>rw[eb] at hw;cases hw
   |some b =>
    rw[eb] at hw;cases hw;cases rw';refine wpAny_truthy_bool ?_;have e2:bs.getD i false=b:=(by simp[Jm,eb]);dsimp only at hQ;rw[e2] at hQ;exact hQ
  ·refine⟨.bl _,H,(I.wish E).kept (t':=tk) (h':=h') λ b o e=>hk b o (by simp;exact QH (Heap.lt_size e)) (Heap.get?_push_of_some _ e),rfl,?_⟩;have:(Qg its.toArray.size).all (λ i=>bs.getD i false)=bs.all id:=by rw[Qr,hl];exact range_all id false bs
   rw[this];exact q0M rfl
 ·cases h
end
end Snd
namespace Srt
open PySem PySem.W PyProof.Rows
variable {p:Array Nat}{m:Nat}
def run {α:Type}(c:Nat->Nat->Bool):KasT α->α
 | .ret a=>a
 | .ask i j k=>run c (k (c i j))
theorem run_bind {α β:Type}(c:Nat->Nat->Bool) (f:α->KasT β):∀t:KasT α,run c (t.bind f)=run c (f (run c t))
 | .ret a=>rfl
 | .ask i j k=>run_bind c f (k (c i j))
def BndR {α:Type}(c:Nat->Nat->Bool) (n:Nat):KasT α->Prop
 | .ret _=>True
 | .ask i j k=>i<n/\j<n/\BndR c n (k (c i j))
theorem q2H {α β:Type}{c:Nat->Nat->Bool}{n:Nat}{f:α->KasT β}:∀{t:KasT α},BndR c n t->BndR c n (f (run c t))->BndR c n (t.bind f)
 | .ret a,_,h=>h
 | .ask i j k,h1,h=>⟨h1.1,h1.2.1,q2H h1.2.2 h⟩
theorem qJQ {α:Type}{cmp:Nat->Nat->(Bool->Shared->Prop)->Shared->Prop}{c:Nat->Nat->Bool}{n:Nat}{s:Shared}{Q:α->Shared->Prop}(hc:∀i j C,i<n->j<n->C (c i j) s->cmp i j C s):∀(t:KasT α),BndR c n t->Q (run c t) s->t.kasWp cmp Q s
 | .ret a,_,h=>h
 | .ask i j k,b,h=>hc i j _ b.1 b.2.1 (qJQ hc (k (c i j)) b.2.2 h)
section
variable {c:Nat->Nat->Bool}{n:Nat}
structure Ord (c:Nat->Nat->Bool) (n:Nat):Prop where
 irr:∀i,i<n->c i i=false
 tot:∀i j,i<n->j<n->i≠j->c i j=false->c j i=true
 tr:∀i j k,i<n->j<n->k<n->c i j=true->c j k=true->c i k=true
def at_ (p:Array Nat) (i:Nat):Nat:=p.getD i 0
structure Pm (p:Array Nat) (n:Nat):Prop where
 sz:p.size=n
 lt:∀i,i<n->at_ p i<n
 inj:∀i j,i<n->j<n->at_ p i=at_ p j->i=j
def Up (c:Nat->Nat->Bool) (p:Array Nat) (m:Nat):Prop:=∀i j,i<j->j<m->c (at_ p i) (at_ p j)=true
def Dn (c:Nat->Nat->Bool) (p:Array Nat) (m:Nat):Prop:=∀i j,i<j->j<m->c (at_ p j) (at_ p i)=true
theorem Ord.asym (o:Ord c n) {i j:Nat}(hi:i<n) (hj:j<n) (h:c i j=true):c j i=false:=by
 cases e:c j i with
 |false=>rfl
 |true=>have:=o.tr i j i hi hj hi h e;rw[o.irr i hi] at this;cases this
theorem Up.succ (o:Ord c n) (P:Pm p n) (h1:1<=m) (hm:m<n) (u:Up c p m) (h:c (at_ p (m-1)) (at_ p m)=true):Up c p (m+1):=λ i j hij hj=>by
 by_cases e:j<m
 ·exact u i j hij e
 ·have e:j=m:=by lia
  subst e
  by_cases e2:i=j-1
  ·rw[e2];exact h
  ·exact o.tr _ (at_ p (j-1)) _ (P.lt _ (by lia)) (P.lt _ (by lia)) (P.lt _ hm) (u i (j-1) (by lia) (by lia)) h
theorem Dn.succ (o:Ord c n) (P:Pm p n) (h1:1<=m) (hm:m<n) (u:Dn c p m) (h:c (at_ p m) (at_ p (m-1))=true):Dn c p (m+1):=λ i j hij hj=>by
 by_cases e:j<m
 ·exact u i j hij e
 ·have e:j=m:=by lia
  subst e
  by_cases e2:i=j-1
  ·rw[e2];exact h
  ·exact o.tr _ (at_ p (j-1)) _ (P.lt _ hm) (P.lt _ (by lia)) (P.lt _ (by lia)) h (u i (j-1) (by lia) (by lia))
theorem q2e {α:Type}(i j:Nat) (k:Bool->KasT α):run c (.ask i j k)=run c (k (c i j)):=rfl
theorem q2f {α:Type}{i j:Nat}{k:Bool->KasT α}(h1:i<n) (h2:j<n) (h:BndR c n (k (c i j))):BndR c n (.ask i j k):=⟨h1,h2,h⟩
theorem qBl (o:Ord c n) {p:Array Nat}(P:Pm p n):∀(f m:Nat),1<=m->m+f=n->Up c p m->BndR c n (kas_asc p f m)/\∃r,run c (kas_asc p f m)=r/\m<=r/\r<=n/\Up c p r/\(r=n\/c (at_ p r) (at_ p (r-1))=true)
 |0,m,h1,hn,u=>⟨trivial,m,rfl,Qi _,by lia,u,.inl (by lia)⟩
 |f+1,m,h1,hn,u=>by
  have hm:m<n:=by lia
  have e0:kas_asc p (f+1) m = .ask (p.getD m 0) (p.getD (m-1) 0) λ c=>if c=true then .ret m else kas_asc p f (m+1):=rfl
  rw[e0];cases e:c (at_ p m) (at_ p (m-1)) with
  |true =>
   have e':c (p.getD m 0) (p.getD (m-1) 0)=true:=e;refine⟨q2f (P.lt m hm) (P.lt (m-1) (by lia)) ?_,m,?_,Qi _,Nat.le_of_lt hm,u,.inr e⟩
   ·rw[e'];trivial
   ·rw[q2e,e'];rfl
  |false =>
   have e':c (p.getD m 0) (p.getD (m-1) 0)=false:=e;have up:=u.succ o P h1 hm (o.tot _ _ (P.lt m hm) (P.lt (m-1) (by lia)) (λ z=>by have:=P.inj m (m-1) hm (by lia) z;lia) e);obtain⟨b1,r,b2,b3,b4,b5,b6⟩:=qBl o P f (m+1) (by lia) (by lia) up;refine⟨q2f (P.lt m hm) (P.lt (m-1) (by lia)) ?_,r,?_,by lia,b4,b5,b6⟩
   ·rw[e'];exact b1
   ·rw[q2e,e'];exact b2
theorem qBm (o:Ord c n) {p:Array Nat}(P:Pm p n):∀(f m:Nat),1<=m->m+f=n->Dn c p m->BndR c n (kas_desc f p m 0)/\∃r,run c (kas_desc f p m 0)=(p,r,0)/\m<=r/\r<=n/\Dn c p r
 |0,m,h1,hn,u=>⟨trivial,m,rfl,Qi _,by lia,u⟩
 |f+1,m,h1,hn,u=>by
  have hm:m<n:=by lia
  have e0:kas_desc (f+1) p m 0 = .ask (p.getD m 0) (p.getD (m-1) 0) λ c=>if c=true then kas_desc f p (m+1) 0
   else .ask (p.getD (m-1) 0) (p.getD m 0) λ d=>if d=true then .ret (p,m,0) else kas_desc f p (m+1) (0+1):=rfl
  rw[e0];cases e:c (at_ p m) (at_ p (m-1)) with
  |true =>
   have e':c (p.getD m 0) (p.getD (m-1) 0)=true:=e;obtain⟨b1,r,b2,b3,b4,b5⟩:=qBm o P f (m+1) (by lia) (by lia) (u.succ o P h1 hm e);refine⟨q2f (P.lt m hm) (P.lt (m-1) (by lia)) ?_,r,?_,by lia,b4,b5⟩
   ·rw[e'];exact b1
   ·rw[q2e,e'];exact b2
  |false =>
   have e':c (p.getD m 0) (p.getD (m-1) 0)=false:=e;have e2:c (at_ p (m-1)) (at_ p m)=true:=o.tot _ _ (P.lt m hm) (P.lt (m-1) (by lia)) (λ z=>by have:=P.inj m (m-1) hm (by lia) z;lia) e;have e2':c (p.getD (m-1) 0) (p.getD m 0)=true:=e2;refine⟨q2f (P.lt m hm) (P.lt (m-1) (by lia)) ?_,m,?_,Qi _,Nat.le_of_lt hm,u⟩
   ·rw[e'];refine q2f (P.lt (m-1) (by lia)) (P.lt m hm) ?_;rw[e2'];trivial
   ·rw[q2e,e'];show run c (KasT.ask (p.getD (m-1) 0) (p.getD m 0) λ d=>if d=true then .ret (p,m,0) else kas_desc f p (m+1) (0+1))=_;rw[q2e,e2'];rfl
theorem q7X (hm:m<=p.size) (k:Nat):at_ (kas_rev p 0 m) k=if k<m then at_ p (m-1-k) else at_ p k:=by
 have e:=getElem?_mirror_all (xs:=p) (i:=0) (j:=m) hm k;have g:∀(q:Array Nat) (i:Nat),at_ q i=q[i]?.getD 0:=λ q i=>by unfold at_;simp[Array.getD_eq_getD_getElem?]
 rw[g,show kas_rev p 0 m=mirror p 0 m ((m-0) / 2) from rfl,e]
 by_cases h:k<m
 ·rw[if_pos ⟨QM _,h⟩,if_pos h,g];congr 2;lia
 ·rw[if_neg (λ z=>h z.2),if_neg h,g]
theorem Pm.rev (P:Pm p n) (hm:m<=n):Pm (kas_rev p 0 m) n:=by
 have hs:m<=p.size:=by rw[P.sz];exact hm
 refine⟨by rw[show kas_rev p 0 m=mirror p 0 m ((m-0) / 2) from rfl,mirror_size,P.sz],λ i hi=>?_,λ i j hi hj h=>?_⟩
 ·rw[q7X hs];split
  ·exact P.lt _ (by lia)
  ·exact P.lt _ hi
 ·rw[q7X hs,q7X hs] at h;split at h<;>split at h
  ·have:=P.inj _ _ (by lia) (by lia) h;lia
  ·have:=P.inj _ _ (by lia) (by lia) h;lia
  ·have:=P.inj _ _ (by lia) (by lia) h;lia
  ·exact P.inj _ _ hi hj h
theorem Dn.rev (hm:m<=p.size) (d:Dn c p m):Up c (kas_rev p 0 m) m:=λ i j hij hj=>by rw[q7X hm,q7X hm,if_pos (by lia),if_pos hj];exact d _ _ (by lia) (by lia)
theorem qDp (o:Ord c n) (hn:2<=n) (P:Pm p n):BndR c n (kas_count n p)/\∃m q,run c (kas_count n p)=(m,q)/\1<=m/\m<=n/\Pm q n/\Up c q m:=by
 have u1:Up c p 1:=λ i j hij hj=>by lia
 obtain⟨a1,r,hr,a2,a3,a4,a5⟩:=qBl o P (n-1) 1 (Qi _) (by lia) u1;have goal:∀t,t=(if (r==n)=true then KasT.ret (r,p) else if r > 1 then .ask (p.getD 0 0) (p.getD (r-1) 0) λ c=>if c=true then .ret (r,p) else kas_descPart r n (kas_rev p 0 r) else kas_descPart r n p)->BndR c n t/\∃m q,run c t=(m,q)/\1<=m/\m<=n/\Pm q n/\Up c q m:=by
  intro t ht
  by_cases e:r=n
  ·rw[if_pos (by simp[e])] at ht;subst ht;exact⟨trivial,r,p,rfl,a2,a3,P,a4⟩
  ·rw[if_neg (by simpa using e)] at ht
   by_cases e2:r > 1
   ·rw[if_pos e2] at ht;have h0:c (p.getD 0 0) (p.getD (r-1) 0)=true:=a4 0 (r-1) (by lia) (by lia);subst ht;refine⟨q2f (P.lt 0 (by lia)) (P.lt (r-1) (by lia)) ?_,r,p,?_,a2,a3,P,a4⟩
    ·rw[h0];trivial
    ·rw[q2e,h0];rfl
   ·rw[if_neg e2] at ht;have er:r=1:=(by lia);subst er;have hlt:c (at_ p 1) (at_ p 0)=true:=by
     rcases a5 with z|z
     ·exact absurd z e
     ·exact z
    have d2:Dn c p 2:=λ i j hij hj=>by have e1:i=0:=(by lia);have e2:j=1:=(by lia);subst e1 e2;exact hlt
    obtain⟨b1,m,b2,b3,b4,b5⟩:=qBm o P (n-2) 2 (by lia) (by lia) d2;have hs:m<=p.size:=(by rw[P.sz];exact b4);obtain⟨k1,k0,k00,k2,k3,k4,k5⟩:=qBl o (P.rev b4) (n-m) m (by lia) (by lia) (b5.rev hs);have t3:BndR c n (kas_tail3 m n p):=q2H k1 trivial;have r3:run c (kas_tail3 m n p)=(k0,kas_rev p 0 m):=by unfold kas_tail3;rw[run_bind,k00];rfl
    have dp:kas_descPart 1 n p=(kas_desc (n-2) p 2 0).bind λ r=>if r.2.2 > 0 then kas_tail3 r.2.1 n (kas_rev r.1 (r.2.1-(r.2.2+1)) r.2.1) else kas_tail3 r.2.1 n r.1:=rfl
    subst ht;rw[dp];refine⟨q2H b1 ?_,_,_,?_,by lia,k3,P.rev b4,k4⟩
    ·rw[b2];dsimp only;rw[if_neg (by simp)];exact t3
    ·rw[run_bind,b2];dsimp only;rw[if_neg (by simp)];exact r3
 obtain⟨g1,g2⟩:=goal _ rfl;refine⟨?_,?_⟩
 ·unfold kas_count;refine q2H a1 ?_;rw[hr];exact g1
 ·unfold kas_count;rw[run_bind,hr];exact g2
theorem q6T (o:Ord c n) {p:Array Nat}(P:Pm p n) {k:Nat}(hk:k<n) (u:Up c p k):∀(f l r:Nat),l<=r->r<=k->r-l<=f->(∀i,i<l->c (at_ p i) (at_ p k)=true)->(∀i,r<=i->i<k->c (at_ p k) (at_ p i)=true)->
  BndR c n (kas_place p k f l r)/\∃m,run c (kas_place p k f l r)=m/\m<=k/\(∀i,i<m->c (at_ p i) (at_ p k)=true)/\∀i,m<=i->i<k->c (at_ p k) (at_ p i)=true
 |0,l,r,hlr,hrk,hf,h1,h2=>⟨trivial,l,rfl,by lia,h1,λ i hi=>h2 i (by lia)⟩
 |f+1,l,r,hlr,hrk,hf,h1,h2=>by
  unfold kas_place
  by_cases e:l≥r
  ·rw[if_pos e];exact⟨trivial,l,rfl,by lia,h1,λ i hi=>h2 i (by lia)⟩
  ·rw[if_neg e];have hmid:(l+r) / 2<r:=(by lia);cases q:c (at_ p k) (at_ p ((l+r) / 2)) with
   |true =>
    have q':c (p.getD k 0) (p.getD ((l+r) / 2) 0)=true:=q;obtain⟨b1,m,b2,b3⟩:=q6T o P hk u f l ((l+r) / 2) (by lia) (by lia) (by lia) h1 (λ i hi hik=>by
     by_cases e3:i=(l+r) / 2
     ·rw[e3];exact q
     ·exact o.tr _ (at_ p ((l+r) / 2)) _ (P.lt _ hk) (P.lt _ (by lia)) (P.lt _ (by lia)) q (u _ _ (by lia) hik))
    refine⟨q2f (P.lt k hk) (P.lt _ (by lia)) ?_,m,?_,b3⟩
    ·rw[q'];exact b1
    ·rw[q2e,q'];exact b2
   |false =>
    have q':c (p.getD k 0) (p.getD ((l+r) / 2) 0)=false:=q;have q2:=o.tot _ _ (P.lt k hk) (P.lt ((l+r) / 2) (by lia)) (λ z=>by have:=P.inj k ((l+r) / 2) hk (by lia) z;lia) q;obtain⟨b1,m,b2,b3⟩:=q6T o P hk u f ((l+r) / 2+1) r (by lia) hrk (by lia) (λ i hi=>by
     by_cases e3:i=(l+r) / 2
     ·rw[e3];exact q2
     ·exact o.tr _ (at_ p ((l+r) / 2)) _ (P.lt _ (by lia)) (P.lt _ (by lia)) (P.lt _ hk) (u _ _ (by lia) (by lia)) q2) h2
    refine⟨q2f (P.lt k hk) (P.lt _ (by lia)) ?_,m,?_,b3⟩
    ·rw[q'];exact b1
    ·rw[q2e,q'];exact b2
theorem q7Y {k:Nat}(hk:k<p.size) (hm:m<=k) (i:Nat):at_ (bubble p k (k-m)) i=if i=m then at_ p k else if m<i/\i<=k then at_ p (i-1) else at_ p i:=by
 have e:=getElem?_bubble (xs:=p) hk (k-m) (by lia) i;have g:∀(q:Array Nat) (i:Nat),at_ q i=q[i]?.getD 0:=λ q i=>by unfold at_;simp[Array.getD_eq_getD_getElem?]
 rw[show k-(k-m)=m by lia] at e;rw[g,e];split
 ·rw[g]
 ·split
  ·rw[g]
  ·rw[g]
theorem qFB (o:Ord c n):∀(f:Nat) (p:Array Nat) (k:Nat),Pm p n->1<=k->k+f=n->Up c p k->BndR c n (kas_bin f p k)/\Pm (run c (kas_bin f p k)) n/\Up c (run c (kas_bin f p k)) n
 |0,p,k,P,h1,hn,u=>⟨trivial,P,show Up c p n from (show k=n by lia)▸u⟩
 |f+1,p,k,P,h1,hn,u=>by
  have hk:k<n:=by lia
  obtain⟨b1,m,hm,b2,b3,b4⟩:=q6T o P hk u k 0 k (QM _) (Qi _) (by lia) (λ i hi=>by lia) (λ i hi hk'=>by lia);have hks:k<p.size:=by rw[P.sz];exact hk
  have P':Pm (bubble p k (k-m)) n:=by
   refine⟨by rw[bubble_size,P.sz],λ i hi=>?_,λ i j hi hj h=>?_⟩
   ·rw[q7Y hks b2];split
    ·exact P.lt _ hk
    ·split
     ·exact P.lt _ (by lia)
     ·exact P.lt _ hi
   ·rw[q7Y hks b2,q7Y hks b2] at h;split at h
    ·split at h
     ·lia
     ·split at h
      ·have:=P.inj _ _ hk (by lia) h;lia
      ·have:=P.inj _ _ hk hj h;lia
    ·split at h
     ·split at h
      ·have:=P.inj _ _ (by lia) hk h;lia
      ·split at h
       ·have:=P.inj _ _ (by lia) (by lia) h;lia
       ·have:=P.inj _ _ (by lia) hj h;lia
     ·split at h
      ·have:=P.inj _ _ hi hk h;lia
      ·split at h
       ·have:=P.inj _ _ hi (by lia) h;lia
       ·exact P.inj _ _ hi hj h
  have u':Up c (bubble p k (k-m)) (k+1):=λ i j hij hj=>by
   rw[q7Y hks b2,q7Y hks b2]
   by_cases ei:i=m
   ·rw[if_pos ei,if_neg (by lia),if_pos (by lia)];exact b4 _ (by lia) (by lia)
   ·rw[if_neg ei]
    by_cases ej:j=m
    ·rw[if_neg (by lia),if_pos ej];exact b3 _ (by lia)
    ·rw[if_neg ej]
     by_cases ei2:m<i/\i<=k
     ·rw[if_pos ei2,if_pos (by lia)];exact u _ _ (by lia) (by lia)
     ·rw[if_neg ei2]
      by_cases ej2:m<j/\j<=k
      ·rw[if_pos ej2];exact u _ _ (by lia) (by lia)
      ·rw[if_neg ej2];exact u _ _ hij (by lia)
  obtain⟨d1,d2,d3⟩:=qFB o f _ (k+1) P' (by lia) (by lia) u';have e0:kas_bin (f+1) p k=(kas_place p k k 0 k).bind λ l=>kas_bin f (bubble p k (k-l)) (k+1):=rfl;rw[e0];refine⟨q2H b1 (by rw[hm];exact d1),?_,?_⟩
  ·rw[run_bind,hm];exact d2
  ·rw[run_bind,hm];exact d3
theorem q9Z:Pm (Jk (Qg n)) n:=by
 have e:∀i,i<n->at_ (Jk (Qg n)) i=i:=λ i hi=>by simp[at_,Array.getD_eq_getD_getElem?,hi]
 refine⟨by simp,λ i hi=>by rw[e i hi];exact hi,λ i j hi hj h=>?_⟩;rw[e i hi,e j hj] at h;exact h
theorem qGY (o:Ord c n) (hn:2<=n):BndR c n (kas_sort n)/\Pm (run c (kas_sort n)) n/\Up c (run c (kas_sort n)) n:=by
 obtain⟨a1,m,q,a2,a3,a4,a5,a6⟩:=qDp o hn (q9Z (n:=n));unfold kas_sort
 by_cases e:m<n
 ·obtain⟨b1,b2,b3⟩:=qFB o (n-max m 1) q (max m 1) a5 (by lia) (by lia) (by rw[show max m 1=m by lia];exact a6);refine⟨q2H a1 (by rw[a2];dsimp only;rw[if_pos e];exact b1),?_,?_⟩
  ·rw[run_bind,a2];dsimp only;rw[if_pos e];exact b2
  ·rw[run_bind,a2];dsimp only;rw[if_pos e];exact b3
 ·refine⟨q2H a1 (by rw[a2];dsimp only;rw[if_neg e];trivial),?_,?_⟩
  ·rw[run_bind,a2];dsimp only;rw[if_neg e];exact a5
  ·rw[run_bind,a2];dsimp only;rw[if_neg e];have:m=n:=(by lia);subst this;exact a6
theorem len_sub:∀{a b:List Nat},a.Nodup->(∀x∈a,x∈b)->a.length<=b.length
 |[],_,_,_=>QM _
 |x::a,b,nd,h=>by have hx:=h x Qb;have nd':=QD.mp nd;have:=len_sub (a:=a) (b:=b.erase x) nd'.2 λ y hy=>(List.mem_erase_of_ne (λ (z:y=x)=>nd'.1 (z▸hy))).mpr (h y (Qa _ hy));rw[Jx hx] at this;have:=List.length_pos_of_mem hx;simp only[Qo];lia
theorem Pm.perm (P:Pm p n):p.toList.Perm (Qg n):=by
 have e:p.toList=(Qg n).map (at_ p):=by
  refine List.ext_getElem? λ i=>?_
  by_cases h:i<n
  ·have hs:i<p.size:=(by rw[P.sz];exact h);rw[Qs,Jy h,Array.getElem?_toList];simp[at_,Array.getD_eq_getD_getElem?,hs]
  ·rw[Jb (by simp[P.sz];lia),Jb (by simp;lia)]
 have nd:p.toList.Nodup:=by
  rw[e];refine Jh.mpr (Ja.mpr λ i j hi hj hij h=>?_);have hi':i<n:=by simpa using hi
  have hj':j<n:=by simpa using hj
  have:=P.inj i j hi' hj' (by simpa using h);lia
 refine (List.perm_ext_iff_of_nodup nd Jn).mpr λ a=>⟨λ h=>?_,λ h=>?_⟩
 ·rw[e] at h;obtain⟨i,hi,rfl⟩:=Qq.mp h;exact QE.mpr (P.lt i (QE.mp hi))
 ·refine Decidable.byContradiction λ hna=>?_;have hsub:∀x∈p.toList,x∈(Qg n).erase a:=λ x hx=>by refine (List.Nodup.mem_erase_iff Jn).mpr ⟨λ z=>hna (z▸hx),?_⟩;rw[e] at hx;obtain⟨i,hi,rfl⟩:=Qq.mp hx;exact QE.mpr (P.lt i (QE.mp hi))
  have hle:=len_sub nd hsub;rw[Jx h,QK,Array.length_toList,P.sz] at hle;have:=QE.mp h;lia
end
end Srt
namespace Srt
open PySem PySem.W PyProof.Rows
section
variable {prog:Program}{w:World}{A:Around}{E:Value->Shared->Prop}{s:Shared}
def pick {α:Type}(p:Array Nat) (xs:List α) (d:α):List α:=p.toList.map λ i=>xs.getD i d
theorem q3g {α:Type}{n:Nat}{p:Array Nat}(P:Pm p n) (xs:List α) (d:α):(pick p xs d).length=n:=by unfold pick;rw[Qh,Array.length_toList,P.sz]
theorem q5m {α:Type}(xs:List α) (d:α):pick (Jk (Qg xs.length)) xs d=xs:=by
 unfold pick;refine List.ext_getElem? λ i=>?_;simp only[List.toList_toArray,Qs]
 by_cases h:i<xs.length
 ·rw[Jy h];simp[h]
 ·rw[Jb (by simp;lia),Jb (by lia)];rfl
theorem qGZ {a:Addr}{vs:List Value}{e0:Nat}{c:Nat->Nat->Bool}{P:PySem.Fin->Shared->Prop}(ho:s.heap.get? a=some (seqObj "list" vs.toArray e0)) (h64:vs.length<64) (o:Ord c vs.length)
  (hk:2<=vs.length->∀h',(∀b x,b≠a->s.heap.get? b=some x->h'.get? b=some x)->wpAny (model prog w) A (keyKind' vs.toArray) (λ κ s'=>s'={s with heap:=h'}/\∀i j C,i<vs.length->j<vs.length->C (c i j) s'->kas_ask prog w A κ vs i j C s') (λ _ _=>False) {s with heap:=h'})
  (fin:∀(p:Array Nat) (h':Heap) (e:Nat),Pm p vs.length->Up c p vs.length->(∀b x,b≠a->s.heap.get? b=some x->h'.get? b=some x)->h'.get? a=some (seqObj "list" (pick p vs Value.none).toArray e)->P (.done (.ret .none)) {s with heap:=h'}) :
  wpAny (model prog w) A (Builtin.«list.sort» ⟨[.ref a],[]⟩) P E s:=by
 have lta:a<s.heap.objs.size:=Heap.lt_size ho;obtain⟨e1,g1⟩:∃e1,(s.heap.update a (Obj.mapSeq λ _=>(#[]:Array Value))).get? a=some (seqObj "list" #[] e1):=⟨_,get?_update_seq ho λ _=>#[]⟩
 generalize hh3:((s.heap.update a (Obj.mapSeq λ _=>(#[]:Array Value))).push (seqObj "tuple" vs.toArray 0)).push (seqObj "list" #[] 0)=h3;have kp:∀b x,b≠a->s.heap.get? b=some x->h3.get? b=some x:=λ b x nb q=>by rw[<-hh3];exact Heap.get?_push_of_some _ (Heap.get?_push_of_some _ ((Heap.get?_update_other _ _ (Ne.symm nb)).trans q))
 have g3:h3.get? a=some (seqObj "list" #[] e1):=by rw[<-hh3];exact Heap.get?_push_of_some _ (Heap.get?_push_of_some _ g1)
 have small:vs.length<=sizeLine:=by rw[sizeLine_eq];lia
 rw[list_sort_plain];refine wpAny_bind (listItems_at ho rfl (wpAny_bind (listUpdate_at ho rfl (wpAny_bind (seqEpoch_at g1 rfl (wpAny_bind (wpAny_newTuple ?_ small)))) (by simpa using small) (QM _))));refine wpAny_bind (wpAny_newList ?_ (QM _));refine wpAny_holding ?_;have hs3:({s with heap:=((s.heap.update a (Obj.mapSeq λ _=>(#[]:Array Value))).push {cls:= .type "tuple",data:= .seq vs.toArray.toList.toArray}).push {cls:= .type "list",data:= .seq ([]:List Value).toArray}}:Shared)={s with heap:=h3}:=by rw[<-hh3]
 rw[hs3];dsimp only
 by_cases h2:vs.toArray.size<2
 ·rw[if_pos h2,if_pos h2];refine wpAny_bind (wpAny_pure ?_);rw[StateT.run_pure];refine wpAny_bind (wpAny_pure ?_);dsimp only;have eo:((vs.toArray.zip vs.toArray).map λ x=>x.2)=vs.toArray:=by apply Array.toList_inj.mp;simp[List.map_snd_zip]
  simp only[eo];refine wpAny_bind (seqEpoch_at g3 rfl (wpAny_bind (listUpdate_at g3 rfl ?_ (QM _) (by simpa using Nat.le_succ_of_le small))));simp only[bne_self_eq_false,QL,if_false];obtain⟨e2,g4⟩:∃e2,(h3.update a (Obj.mapSeq λ _=>vs.toArray)).get? a=some (seqObj "list" vs.toArray e2):=⟨_,get?_update_seq g3 λ _=>vs.toArray⟩
  have hlen:vs.length<2:=by simpa using h2
  refine wpAny_pure (fin (Jk (Qg vs.length)) _ e2 q9Z (λ i j hij hj=>by lia) (λ b x nb q=>(Heap.get?_update_other _ _ (Ne.symm nb)).trans (kp b x nb q)) ?_);rw[q5m];exact g4
 ·have h2':2<=vs.length:=by have:¬vs.length<2:=(by simpa using h2);lia
  rw[if_neg h2,if_neg h2];obtain⟨so1,so2,so3⟩:=qGY o h2';refine wpAny_bind (wpAny_mono (hk h2' h3 kp) (λ κ s4 h4=>?_) λ _ _ x=>x.elim);obtain⟨rfl,ask⟩:=h4;refine wpAny_bind (wpAny_mono (kat_run (Q:=λ st s5=>s5={s with heap:=h3}/\arrOf st=(run c (kas_sort vs.length)).map (kas_item (vs.toArray.zip vs.toArray))/\failedOf st=none) (G:=λ p s5=>p=run c (kas_sort vs.length)/\s5={s with heap:=h3}) rfl h2' h64 (λ p st s5 a1 a2 a3 a4=>⟨a4.2,by rw[a2,a4.1],a3⟩) (qJQ ask _ so1 ⟨rfl,rfl⟩)) ?_ λ _ _ x=>x);rintro⟨⟨⟩,st⟩ s5 ⟨rfl,har,hf⟩;dsimp only;rw[kat_snds rfl har];have lp:(pick (run c (kas_sort vs.length)) vs Value.none).length=vs.length:=q3g so2 vs _;refine wpAny_bind (seqEpoch_at g3 rfl (wpAny_bind (listUpdate_at g3 rfl ?_ (QM _) (by show (Jk (pick (run c (kas_sort vs.length)) vs Value.none)).size<=_;rw[Qr,lp];exact Nat.le_succ_of_le small))));rw[hf];simp only[bne_self_eq_false,QL,if_false];obtain⟨e2,g4⟩:∃e2,(h3.update a (Obj.mapSeq λ _=>Jk (pick (run c (kas_sort vs.length)) vs Value.none))).get? a=some (seqObj "list" (Jk (pick (run c (kas_sort vs.length)) vs Value.none)) e2):=⟨_,get?_update_seq g3 λ _=>Jk (pick (run c (kas_sort vs.length)) vs Value.none)⟩
  exact wpAny_pure (fin _ _ e2 so2 so3 (λ b x nb q=>(Heap.get?_update_other _ _ (Ne.symm nb)).trans (kp b x nb q)) g4)
theorem q7Z {x:Value}{n:Nat}{Gv:List Value->Prop}{c:Nat->Nat->Bool}{Q:Value->Shared->Prop}(h64:n<64) (o:Ord c n) (hlen:∀vs,Gv vs->vs.length=n)
  (hcol:∀(R:List Value->Shared->Prop),(∀vs h' tk,Gv vs->(∀b x,s.heap.get? b=some x->h'.get? b=some x)->R vs {s with heap:=h',toks:=tk})->wpAny (model prog w) A.in1 (collect x) R E s)
  (hk:∀vs,Gv vs->2<=vs.length->∀h' tk,(∀b x,s.heap.get? b=some x->h'.get? b=some x)->wpAny (model prog w) A.in1.in1 (keyKind' vs.toArray) (λ κ s'=>s'={s with heap:=h',toks:=tk}/\∀i j C,i<vs.length->j<vs.length->C (c i j) s'->kas_ask prog w A.in1.in1 κ vs i j C s') (λ _ _=>False) {s with heap:=h',toks:=tk})
  (fin:∀(vs:List Value) (p:Array Nat) (D:Addr) (h':Heap) (tk e:Nat),Gv vs->Pm p n->Up c p n->(∀b x,s.heap.get? b=some x->h'.get? b=some x)->s.heap.get? D=none->h'.get? D=some (seqObj "list" (pick p vs Value.none).toArray e)->Q (.ref D) {s with heap:=h',toks:=tk}) :
  wpAny (model prog w) A (call (.builtin "sorted") [x]) Q E s:=by
 refine Calls.call_function_entry kind_sorted plain_sorted entry_sorted (args_sorted1 _) ?_;unfold Builtin.«sorted»;refine wpAny_bind (m:=checkCount "sorted" 1 1 _) (wpAny_pure (wpAny_bind (hcol _ λ vs h1 tk gv k1=>?_)));have hl:=hlen vs gv;have hle:s.heap.get? h1.objs.size=none:=by
  cases q:s.heap.get? h1.objs.size with
  |none=>rfl
  |some x=>exact absurd (Heap.lt_size (k1 _ _ q)) (Jd _)
 refine wpAny_bind (wpAny_newList ?_ (by rw[sizeLine_eq];lia));refine wpAny_bind (wpAny_holding (wpAny_call_entry slot_list_sort ⟨_,Heap.get?_push_size _ rfl,rfl⟩ entry_list_sort (qGZ (c:=c) (s:={s with heap:=h1.push {cls:= .type "list",data:= .seq vs.toArray},toks:=tk}) (e0:=0) (Heap.get?_push_size _ rfl) (hl▸h64) (hl▸o) (λ h2 h' k=>?_) λ p h' e P U k g=>?_) (args_list_sort _)))
 ·exact hk vs gv h2 h' tk λ b x q=>k b x (QH (Heap.lt_size (k1 b x q))) (Heap.get?_push_of_some _ (k1 b x q))
 ·exact⟨_,rfl,wpAny_pure ⟨_,rfl,fin vs p _ h' tk e gv (hl▸P) (hl▸U) (λ b x q=>k b x (QH (Heap.lt_size (k1 b x q))) (Heap.get?_push_of_some _ (k1 b x q))) hle g⟩⟩
end
end Srt
namespace Snd
open PySem PySem.Spec PyProof.Rows L2 Ev
variable {H:Hp}{h:Heap}{a:Addr}{ds:List D}
theorem q2I {P:Program}{w:World}{o:HO}(x:q1O P w H h a o):∃ob,h.get? a=some ob:=by
 cases o with
 |lst xs=>obtain⟨_,_,_,_,e⟩:=x;exact⟨_,e⟩
 |tup xs=>obtain⟨_,_,_,o,e,_⟩:=x;exact⟨_,e⟩
 |dK kvs=>obtain⟨_,_,_,_,o,_,_,e,_⟩:=x;exact⟨_,e⟩
 |dT kvs=>obtain⟨_,_,_,_,o,_,_,e,_⟩:=x;exact⟨_,e⟩
 |set S n=>obtain⟨o,_,_,_,e,_⟩:=x;exact⟨_,e⟩
 |ins C dx fs=>obtain⟨_,_,_,e,_⟩:=x;exact⟨_,e⟩
 |own y=>obtain⟨_,e⟩:=x;exact⟨_,e⟩
 |xd fs=>obtain⟨_,⟨_,_,_,e,_⟩,_⟩:=x;exact⟨_,e⟩
 |rng lo hi=>obtain⟨_,_,_,e⟩:=x;exact⟨_,e⟩
 |frz ob u=>obtain⟨e,_⟩:=x;exact⟨_,e⟩
 |tbl ps=>exact⟨_,(show h.get? a=some _ from x)⟩
 |met f y=>exact⟨_,(show h.get? a=some _ from x)⟩
 |ext φ=>obtain⟨_,⟨_,e⟩,_⟩:=x;exact⟨_,e⟩
theorem q6U {P:Program}{w:World}(x:HOk P w H h) (n:h.get? a=none):H a=none:=by
 cases q:H a with
 |none=>rfl
 |some o =>
  obtain⟨ob,e⟩:=q2I (x a o q);rw[n] at e;cases e
theorem qGa {X:Cx}{pins:List (Addr×Obj)}{σ:L2.St}{s:Shared}{h':Heap}{o:HO}{t':Nat}(I:Inv X pins σ H s) (k:∀b u,s.heap.get? b=some u->h'.get? b=some u) (hn:s.heap.get? a=none) (new:q1O X.prog X.w (upd H a o) h' a o) :
  Inv X pins σ (upd H a o) {s with heap:=h',toks:=t'}:=by
 have hf:=q6U I.hok hn;have nb:∀b u,s.heap.get? b=some u->b≠a:=λ b u e z=>by rw[z,hn] at e;cases e
 refine I.un ⟨λ b u q _ _ _=>k b u q,λ b u q _ _ _=>⟨u.slots,k b u q⟩,λ b u q n _=>by rw[q07 (nb b u q)];exact n,λ b u q _=>⟨u,k b u q⟩,λ b xs q=>by rw[q07 (q08 q hf)];exact q,λ b u xs q=>by rw[q07 (q08 q hf)];exact q,λ b ps q=>⟨#[],by rw[q07 (q08 q hf),q];simp⟩⟩ λ b u e=>?_
 by_cases hb:b=a
 ·subst hb;rw[q0B] at e;cases e;exact new
 ·rw[q07 hb] at e;exact (I.hok b u e).stay (λ c v _ q=>k c v q) (λ c q=>by rw[q07 (q08 q hf)];exact q) λ c xs q=>by rw[q07 (q08 q hf)];exact q
theorem q5B {h':Heap}(k:∀b o,h.get? b=some o->h'.get? b=some o):(∀d u,Dv h d u->Dv h' d u)/\(∀ds us,DvL h ds us->DvL h' ds us):=by
 refine D.ind (P:=λ d=>∀u,Dv h d u->Dv h' d u) (Q:=λ ds=>∀us,DvL h ds us->DvL h' ds us)
  (λ u r=>r) (λ _ u r=>r) (λ _ u r=>r) (λ _ u r=>r) (λ l ih u r=>?_) (λ l ih u r=>?_) (λ _ _ _ _ u r=>r) (λ _ u r=>r) (λ us r=>r) (λ d ds ih1 ih2 us r=>?_)
 ·obtain⟨a,us,rfl,⟨o,e,c⟩,r1⟩:=r;exact⟨a,us,rfl,⟨o,k _ _ e,c⟩,ih _ r1⟩
 ·obtain⟨a,us,rfl,⟨o,e,c⟩,r1⟩:=r;exact⟨a,us,rfl,⟨o,k _ _ e,c⟩,ih _ r1⟩
 ·obtain⟨u,r',rfl,h1,h2⟩:=r;exact⟨u,r',rfl,ih1 _ h1,ih2 _ h2⟩
theorem q6V:∀l:List D,(dedup l).length<=l.length
 |[]=>Qi _
 |x::l=>by
  unfold dedup;split
  ·exact Nat.le_succ_of_le (q6V l)
  ·exact Nat.succ_le_succ (q6V l)
theorem q5n:∀{l:List D},qDO l=true->(∀d∈l,q02 d=true)->l.Pairwise (·≠·)
 |[],_,_=> .nil
 |x::l,h,hh=>by
  have h':(dedup (x::l)).length=(x::l).length:=of_decide_eq_true h;unfold dedup at h';split at h'
  ·have:=q6V l;simp only[Qo] at h';lia
  ·rename_i c;refine QF.mpr ⟨λ y hy z=>c ?_,q5n (decide_eq_true (by simpa using h')) λ d hd=>hh d (Qa _ hd)⟩;refine Q1.mpr ⟨y,hy,(q0Y (hh x Qb) (hh y (Qa _ hy))).mpr z⟩
structure SoOk (ds:List D):Prop where
 len:ds.length<64
 hsh:∀d∈ds,q02 d=true
 pln:∀d∈ds,pl d=true
 cmp:∀a∈ds,∀b∈ds,q0r a b=true
 dif:ds.Pairwise (·≠·)
theorem qBn (h:q1h ds=true):SoOk ds/\((∀d∈ds,q4X d=true)\/∀d∈ds,q32 d=true):=by unfold q1h at h;simp only[Qd,Q6,Qw] at h;obtain⟨⟨⟨⟨⟨h1,h2⟩,h3⟩,h4⟩,h5⟩,h6⟩:=h;have h2':=q0Q.mp h2;refine⟨⟨of_decide_eq_true h1,h2',q1R.mp h3,λ a ha b hb=>?_,q5n h5 h2'⟩,h6⟩;unfold q3V at h4;simp only[Qw] at h4;exact h4 a ha b hb
def cOf (ds:List D) (i j:Nat):Bool:=ltb (ds.getD i .non) (ds.getD j .non)
theorem getD_mem {i:Nat}(h:i<ds.length):ds.getD i .non∈ds:=by
 have:ds.getD i .non=ds[i]:=by simp[h]
 rw[this];exact QW h
theorem SoOk.ord (h:SoOk ds):Srt.Ord (cOf ds) ds.length:=by
 refine⟨λ i hi=>q8V (h.hsh _ (getD_mem hi)),λ i j hi hj ne hc=>?_,λ i j k hi hj hk a b=>q4x (h.hsh _ (getD_mem hi)) (h.hsh _ (getD_mem hj)) (h.hsh _ (getD_mem hk)) a b⟩;rcases q8X (h.hsh _ (getD_mem hi)) (h.hsh _ (getD_mem hj)) (h.cmp _ (getD_mem hi) _ (getD_mem hj)) with z|z|z
 ·have hc':ltb (ds.getD i .non) (ds.getD j .non)=false:=hc;rw[z] at hc';cases hc'
 ·exfalso;have ei:ds.getD i .non=ds[i]:=by simp[hi]
  have ej:ds.getD j .non=ds[j]:=by simp[hj]
  rw[ei,ej] at z;rcases Nat.lt_or_gt_of_ne ne with l|l
  ·exact Ja.mp h.dif i j hi hj l z
  ·exact Ja.mp h.dif j i hj hi l z.symm
 ·exact z
theorem q7a (h:SoOk ds) {p:Array Nat}(P:Srt.Pm p ds.length) (U:Srt.Up (cOf ds) p ds.length):Srt.pick p ds .non=q21 ds:=by
 have perm:(Srt.pick p ds .non).Perm ds:=by
  have:=P.perm.map λ i=>ds.getD i .non;have e:(Qg ds.length).map (λ i=>ds.getD i .non)=ds:=by have:=Srt.q5m ds (.non:D);unfold Srt.pick at this;simpa using this
  rw[e] at this;exact this
 have hm:∀d∈Srt.pick p ds .non,d∈ds:=λ d hd=>perm.mem_iff.mp hd;refine q42 (perm.trans (q18 ds).symm) (λ d hd=>h.hsh d (hm d hd)) (λ a ha b hb=>h.cmp a (hm a ha) b (hm b hb)) ?_ (q24 h.hsh);refine Ja.mpr λ i j hi hj hij=>?_;have li:i<ds.length:=by rw[<-Srt.q3g P ds .non];exact hi
 have lj:j<ds.length:=by rw[<-Srt.q3g P ds .non];exact hj
 have at1:∀k (hk:k<(Srt.pick p ds .non).length),(Srt.pick p ds .non)[k]=ds.getD (Srt.at_ p k) .non:=λ k hk=>by
  have lk:k<p.size:=by rw[P.sz,<-Srt.q3g P ds .non];exact hk
  simp[Srt.pick,Srt.at_,Array.getD_eq_getD_getElem?,lk]
 rw[at1 i hi,at1 j hj];have:=U i j hij lj;exact h.ord.asym (P.lt i li) (P.lt j lj) this
end Snd
namespace Snd
open PySem PySem.Spec PySem.W PyProof.Rows L2 Ev
variable {ds:List D}{us:List Value}
section
variable {prog:Program}{w:World}{A:Around}{E:Value->Shared->Prop}{s:Shared}
theorem qFC {k:Nat}(hu:A.units+k<cLine) {b fin:Bool}{Q:Bool->Shared->Prop}:∀{ds es:List D}{us vs:List Value}(i:Nat),1<=i->DvL s.heap ds us->DvL s.heap es vs->(∀d∈ds,plN k d=true)->(∀d∈es,plN k d=true)->(∀d∈ds,q02 d=true)->(∀d∈es,q02 d=true)->
  q0w ds es=true->fin=decide (ds.length<es.length)->Q (ltbL ds es) s->KatLex prog w A b fin Q (us.zip vs) i s
 |[],es,us,vs,i,hi,x,y,p1,p2,g1,g2,c,hf,q=>by
  cases (show us=[] from x);rw[List.zip_nil_left];refine kat_nil ?_;rw[hf];cases es with
  |nil=>simpa[ltbL] using q
  |cons e es=>simpa[ltbL] using q
 |d::ds,[],us,vs,i,hi,x,y,p1,p2,g1,g2,c,hf,q=>by cases (show vs=[] from y);rw[List.zip_nil_right];refine kat_nil ?_;rw[hf];simpa[ltbL] using q
 |d::ds,e::es,us,vs,i,hi,x,y,p1,p2,g1,g2,c,hf,q=>by
  obtain⟨u,us',rfl,x1,x2⟩:=x;obtain⟨v,vs',rfl,y1,y2⟩:=y;rw[JC];have pd:=p1 d Qb;have pe:=p2 e Qb;have gd:=g1 d Qb;have ge:=g2 e Qb;rw[ltbL] at q;rw[q0w] at c;refine kat_cons (q35 k pd pe x1 y1 hu prog w _ _ ?_);cases z:eqb d e with
  |true =>
   rw[z,if_pos rfl] at q c;refine kat_yes (qFC hu (i+1) (by lia) x2 y2 (λ d hd=>p1 d (Qa _ hd)) (λ d hd=>p2 d (Qa _ hd)) (λ d hd=>g1 d (Qa _ hd)) (λ d hd=>g2 d (Qa _ hd)) c ?_ q);rw[hf];simp
  |false =>
   rw[z,if_neg (by simp)] at q c;refine kat_no ?_;have hb:(b&&i==0)=false:=by have:(i==0)=false:=(by simp;lia);rw[this,Bool.and_false]
   rw[hb];exact kat_one _ _ ((qBU k pd pe gd ge c x1 y1 hu).1 prog w _ _ q)
theorem qJR {k:Nat}(hu:A.units+k<cLine) {Q:Bool->Shared->Prop}{d e:D}{u v:Value}(td:q32 d=true) (te:q32 e=true) (x:Dv s.heap d u) (y:Dv s.heap e v) (p1:plN (k+1) d=true) (p2:plN (k+1) e=true) (g1:q02 d=true) (g2:q02 e=true)
  (c:q0r d e=true) (q:Q (ltb d e) s):wpAny (model prog w) A (keyLt' (tuples' true) u v) Q E s:=by
 unfold q32 at td te;split at td
 ·rename_i i ds;split at te
  ·rename_i j es;obtain⟨a,us,rfl,⟨ox,hx,cx,n1,dx⟩,x1⟩:=x;obtain⟨b,vs,rfl,⟨oy,hy,cy,n2,dy⟩,y1⟩:=y;obtain⟨u1,us',rfl,⟨t1,rfl⟩,x2⟩:=x1;obtain⟨v1,vs',rfl,⟨t2,rfl⟩,y2⟩:=y1;rw[q1j,Qw] at p1 p2;have g1':q09 (D.int i::ds)=true:=g1;have g2':q09 (D.int j::es)=true:=g2;have g1'':=q0Q.mp g1';have g2'':=q0Q.mp g2';have c':q0w (D.int i::ds) (D.int j::es)=true:=c;have q':Q (ltbL (D.int i::ds) (D.int j::es)) s:=q;refine kat_lt hx dx hy dy ?_;show KatLex prog w A true _ Q ((Value.int i t1,Value.int j t2)::us'.zip vs') 0 s;refine kat_cons (SeqAt.EqAt.int_int i t1 j t2 prog w _ _ ?_);rw[ltbL] at q';rw[q0w] at c';have lx:=x2.length;have ly:=y2.length;have eq1:eqb (D.int i) (D.int j)=(i==j):=by have:eqb (D.int i) (D.int j)=decide (i=j):=(by simp[eqb]);rw[this,QB];simp
   rw[eq1] at q' c';cases z:(i==j) with
   |true =>
    rw[z,if_pos rfl] at q' c';refine kat_yes (qFC hu 1 (Qi _) x2 y2 (λ d hd=>p1 d (Qa _ hd)) (λ d hd=>p2 d (Qa _ hd)) (λ d hd=>g1'' d (Qa _ hd)) (λ d hd=>g2'' d (Qa _ hd)) c' ?_ q');simp[lx,ly]
   |false =>
    rw[z,if_neg (by simp)] at q' c';refine kat_no ?_;have e3:ltb (D.int i) (D.int j)=decide (i<j):=(by simp[ltb]);rw[e3] at q';exact oneLt_int q'
  ·cases te
 ·cases td
theorem q7b {h:Heap}:∀{ds:List D}{us:List Value},DvL h ds us->(∀d∈ds,q32 d=true)->∃fs,KatTups h us fs/\fs.length=ds.length/\∀f∈fs,∃i t,f=Value.int i t
 |[],us,x,_=>by cases (show us=[] from x);exact⟨[],KatTups.nil,rfl,λ f hf=>absurd hf (by simp)⟩
 |d::ds,us,x,t=>by
  obtain⟨u,r,rfl,x1,x2⟩:=x;obtain⟨fs,k1,k2,k3⟩:=q7b x2 λ d hd=>t d (Qa _ hd);have td:=t d Qb;unfold q32 at td;split at td
  ·rename_i i0 tl0;obtain⟨a,us,rfl,⟨ox,hx,cx,n1,dx⟩,y1⟩:=x1;obtain⟨u1,us',rfl,⟨t1,rfl⟩,y2⟩:=y1;refine⟨Value.int i0 t1::fs,KatTups.cons hx cx dx (by simp) k1,by simp[k2],λ f hf=>?_⟩;rcases Qf.mp hf with rfl|hf
   ·exact⟨_,_,rfl⟩
   ·exact k3 f hf
  ·cases td
theorem q6W {h:Heap}(x:DvL h ds us) {i:Nat}(hi:i<ds.length):Dv h (ds.getD i .non) (us.getD i Value.none):=by
 obtain⟨u,e1,e2⟩:=x.get (i:=i) (d:=ds[i]) (by simp[hi]);have e3:ds.getD i .non=ds[i]:=by simp[hi]
 have e4:us.getD i Value.none=u:=by simp[Jm,e1]
 rw[e3,e4];exact e2
theorem qBo (hu:A.units+8<cLine) (so:SoOk ds) (hk:(∀d∈ds,q4X d=true)\/∀d∈ds,q32 d=true) (x:DvL s.heap ds us) (h2:2<=us.length) :
  wpAny (model prog w) A (keyKind' us.toArray) (λ κ s'=>s'=s/\∀i j C,i<us.length->j<us.length->C (cOf ds i j) s'->kas_ask prog w A κ us i j C s') (λ _ _=>False) s:=by
 have hl:=x.length;rcases hk with hk|hk
 ·have allI:∀u∈us,∃i t,u=Value.int i t:=λ u hu=>by
   obtain⟨d,hd,dv⟩:=x.mem hu;have:=hk d hd;unfold q4X at this;split at this
   ·obtain⟨t,e⟩:=dv;exact⟨_,t,e⟩
   ·cases this
  refine kas_kind (T:= .type "int") h2 (λ v hv=>?_) (by decide) (by decide) ⟨rfl,λ i j C hi hj hC=>?_⟩
  ·obtain⟨i,t,rfl⟩:=allI v hv;exact Looks.of_pure rfl
  ·have di:=q6W x (i:=i) (by lia);have dj:=q6W x (i:=j) (by lia);have ki:=hk _ (getD_mem (ds:=ds) (i:=i) (by lia));have kj:=hk _ (getD_mem (ds:=ds) (i:=j) (by lia));unfold cOf at hC;unfold kas_ask;unfold q4X at ki kj;split at ki
   ·rename_i m e1;split at kj
    ·rename_i n e2;rw[e1] at di hC;rw[e2] at dj hC;obtain⟨t1,f1⟩:=di;obtain⟨t2,f2⟩:=dj;rw[f1,f2];refine kat_lt_int ?_;have e3:ltb (D.int m) (D.int n)=decide (m<n):=(by simp[ltb]);rw[e3] at hC;exact hC
    ·cases kj
   ·cases ki
 ·obtain⟨fs,k1,k2,k3⟩:=q7b x hk;refine kat_kind (T:= .type "int") k1 (by lia) (λ v hv=>?_) (by decide) ⟨rfl,λ i j C hi hj hC=>?_⟩
  ·obtain⟨i,t,rfl⟩:=k3 v hv;exact Looks.of_pure rfl
  ·have mi:=getD_mem (ds:=ds) (i:=i) (by lia);have mj:=getD_mem (ds:=ds) (i:=j) (by lia);exact qJR (k:=7) (by lia) (hk _ mi) (hk _ mj) (q6W x (by lia)) (q6W x (by lia)) (so.pln _ mi) (so.pln _ mj) (so.hsh _ mi) (so.hsh _ mj) (so.cmp _ mi _ mj) hC
end
section
variable {X:Cx}{p:Pm}{G:Nat->List D->R D}{sub:Nat->Nat->Bool}
theorem q9a {Hf:Hp}{ds:List D}{vs:List V}(r:RepL p Hf ds vs):∀{l:List Nat},(∀i∈l,i<ds.length)->RepL p Hf (l.map λ i=>ds.getD i .non) (l.map λ i=>vs.getD i .non)
 |[],_=>rfl
 |i::l,h=>by
  have hi:=h i Qb;obtain⟨v,e1,e2⟩:=r.get (i:=i) (d:=ds[i]) (by simp[hi]);refine⟨vs.getD i .non,_,rfl,?_,q9a r λ i hi=>h i (Qa _ hi)⟩;have e3:ds.getD i .non=ds[i]:=by simp[hi]
  have e4:vs.getD i .non=v:=by simp[Jm,e1]
  dsimp only;rw[e3,e4];exact e2
theorem q7c {vs:List V}{us:List Value}(r:Vals vs us):∀{l:List Nat},(∀i∈l,i<vs.length)->Vals (l.map λ i=>vs.getD i .non) (l.map λ i=>us.getD i Value.none)
 |[],_=> .nil
 |i::l,h=>by
  have hi:=h i Qb;obtain⟨u,e1,e2⟩:=r.get (i:=i) (x:=vs[i]) (by simp[hi]);have e3:vs.getD i .non=vs[i]:=by simp[hi]
  have e4:us.getD i Value.none=u:=by simp[Jm,e1]
  refine .cons ?_ (q7c r λ i hi=>h i (Qa _ hi));dsimp only;rw[e3,e4];exact e2
theorem q5C {E:Value->Shared->Prop}{pins:List (Addr×Obj)}{s:Shared}{σ:L2.St}{H:Hp}{O:List Addr}{vs:List V}{q:Array Nat}{Dd:Addr}{h':Heap}{tk e n:Nat}(I:Inv X pins σ H s) (t:Th O H) (r1:RepL p (fz O H) ds vs) (rv:Vals vs us) (hz:vs.length<=sizeLine)
  (P:Srt.Pm q n) (hn:n=ds.length) (k:∀b x,s.heap.get? b=some x->h'.get? b=some x) (nD:s.heap.get? Dd=none) (g:h'.get? Dd=some (seqObj "list" (Srt.pick q us Value.none).toArray e)) :
  EP (X.wish E) pins σ (Fin p O H (.lst (Srt.pick q ds .non))) (.ref Dd) {s with heap:=h',toks:=tk}:=by
 have hl:=r1.length;have lt:∀i∈q.toList,i<ds.length:=λ i hi=>by have:=P.perm.mem_iff.mp hi;rw[<-hn];exact QE.mp this
 have lt2:∀i∈q.toList,i<vs.length:=λ i hi=>hl▸lt i hi;have hf:=q6U I.hok nD;refine⟨.ref Dd,upd H Dd (.lst (Srt.pick q vs .non)),(qGa (o:= .lst (Srt.pick q vs .non)) I k nD ⟨?_,_,_,q7c rv lt2,g⟩).wish E,rfl,Ext.upd hf,Dd,_,rfl,SqL.of (qBc t hf),(q9a r1 lt).mono (q1E (Ext.upd hf))⟩;rw[Srt.q3g P,hn,hl];exact hz
def Yld (X:Cx) (p:Pm) (A:Around) (E:Value->Shared->Prop) (s:Shared) (Hf:Hp) (ds:List D) (x:Value):Prop :=
 ∃vs:List V,RepL p Hf ds vs/\vs.length<=sizeLine/\∀(R:List Value->Shared->Prop),(∀us h' tk,Vals vs us->(∀b x,s.heap.get? b=some x->h'.get? b=some x)->R us {s with heap:=h',toks:=tk})->wpAny (model X.prog X.w) A (collect x) R E s
theorem qJS (hK:p.K=X.K) (hc:X.calm=true) {A:Around}(hA:A.handled=none) {E:Value->Shared->Prop}{pins:List (Addr×Obj)}{s:Shared}{σ:L2.St}{H:Hp}{O:List Addr}{d:D}{v:V}{u:Value}(I:Inv X pins σ H s) (rv:RelV v u) (q:RepB p H (fz O H) d v) (hi:q0W d = .ok ds) :
  Yld X p A E s (fz O H) ds u:=by
 cases d<;>first
  |(exfalso;simpa[q0W] using hi)
  |skip
 ·cases hi;obtain⟨a,vs,rfl,s1,z,r1⟩:=q;cases rv;obtain⟨its,rv,⟨o,ho,hcl,n,hd⟩,hz⟩:=I.tuple (hK▸q0Z.sqT s1:SqT X.K H a vs);exact⟨vs,r1,hz,λ R hR=>wpAny_collect_seq a (.inr rfl) ho hcl hd (λ h' k=>by simpa using hR its h' s.toks rv k) (by simpa[<-rv.length] using hz)⟩
 ·cases hi;obtain⟨a,vs,rfl,s1,r1⟩:=q;cases rv;obtain⟨its,rv,pt,hz⟩:=I.list (hK▸s1:SqL X.K H a vs);obtain⟨o,ho,hcl,n,hd⟩:=pt.isList;exact⟨vs,r1,hz,λ R hR=>wpAny_collect_seq a (.inl rfl) ho hcl hd (λ h' k=>by simpa using hR its h' s.toks rv k) (by simpa[<-rv.length] using hz)⟩
 ·rename_i ks ws;obtain⟨a,kvs,rfl,s1,rfl,r1⟩:=q;cases rv;have hki:(ints? (kvs.map λ q=>keyD q.1)).isSome=true:=by
   cases h:(ints? (kvs.map λ q=>keyD q.1)).isSome with
   |true=>rfl
   |false=>simp[q0W,h] at hi
  have e0:q0W (.dct (kvs.map λ q=>keyD q.1) ws) = .ok (kvs.map λ q=>keyD q.1):=by simp[q0W,hki]
  rw[e0] at hi;cases hi;obtain⟨z,hd,xs,rel,o,es,ep,h1,h2,h3,h4,h5,h6⟩:=q8M I.hok s1;have hl:=KV.length rel;refine⟨_,q6O hki,by simpa using z,λ R hR=>PySem.W.kdu_collect (A:=A) (PySem.W.kdl_dict (kvs:=xs) (ep:=ep) hd) hA ⟨o,es,h1,h2,h3,h4,h5,h6⟩ (hl▸z) λ h' tk acc hk hacc=>hR _ h' tk ?_ hk⟩;obtain⟨a1,a2⟩:=hacc;have hlen:acc.toList.length=kvs.length:=by rw[Array.length_toList,a1,hl]
  have all:∀(ks:List (Key×V)) (us:List Value),us.length=ks.length->(∀(i:Nat) (q:Key×V) (u:Value),ks[i]? = some q->us[i]? = some u->RelV (kV q.1) u)->Vals (ks.map λ q=>kV q.1) us:=by
   intro ks
   induction ks with
   |nil=>intro us hl _;cases us with
    |nil=>exact .nil
    |cons _ _=>simp at hl
   |cons q ks ih=>intro us hl h;cases us with
    |nil=>simp at hl
    |cons u us=>exact .cons (h 0 q u rfl rfl) (ih us (by simpa using hl) λ i q u e1 e2=>h (i+1) q u (by simpa using e1) (by simpa using e2))
  refine all kvs acc.toList hlen λ i q u e1 e2=>?_;have hi:i<acc.size:=by have:=(Qc.mp e2).1;simpa using this
  obtain⟨k',x',b1,b2⟩:=a2 i u (by simpa using e2);obtain⟨u',hu'⟩:=KV.key rel e1;rw[b1] at hu';cases hu';exact qJM b2
theorem qBp (hK:p.K=X.K) (hc:X.calm=true) (hu:X.A.units+64<cLine):BS X p sub .sorted (.builtin "sorted"):=by
 intro E pins s σ H os d r v u I t rv q h;cases hi:q0W d with
 |stuck=>exact absurd (show (q0W d).bind _ = .ok r from h) (by rw[hi];intro z;cases z)
 |err c=>exact absurd (show (q0W d).bind _ = .ok r from h) (by rw[hi];intro z;cases z)
 |ok ds =>
  have h':(if q1h ds then R.ok (D.lst (q21 ds)) else .stuck) = .ok r:=by rw[<-h];show _=(q0W d).bind _;rw[hi];rfl
  split at h'
  ·rename_i so;cases h';obtain⟨sk,kd⟩:=qBn so;obtain⟨vs,r1,hz,hcol⟩:=qJS (E:=E) hK hc (A:=X.A.in1) (I.ok.hd hc) I rv q hi;refine Srt.q7Z (Gv:=λ us=>Vals vs us) sk.len sk.ord (λ us rvs=>by rw[<-rvs.length,<-r1.length]) hcol (λ us rvs h2 h' tk k=>?_) λ us q D h' tk e rvs P U k nD g=>?_
   ·exact qBo (s:={s with heap:=h',toks:=tk}) (by show X.A.units+1+1+8<cLine;lia) sk kd ((q5B k).2 _ _ ((q2b hK I).2 ds vs us (r1.mono q0Z) rvs)) h2
   ·rw[<-q7a sk P U];exact q5C I t r1 rvs hz P rfl k nD g
  ·cases h'
end
end Snd
namespace Snd
open PySem PySem.Spec PyProof.Rows L2 Ev
variable {h:Heap}{pins:List (Addr×Obj)}{σ:L2.St}{H:Hp}{b:Addr}{c:Nat}
def TrW (B:Heap) (l:List PySem.Env) (e:Addr) (cls a0 fl:Value) (h:Heap):Prop:=B.StaysIn h/\B.get? e=none/\h.FunFrames B l/\h.TracedAtW B e cls a0 fl
section
variable {M:Model}{A:Around}{E:Value->Shared->Prop}{s:Shared}{B:Heap}{l outer:List PySem.Env}{env:PySem.Env}{e L:Addr}{cls a0 fl:Value}{Q:Unit->Shared->Prop}
theorem qDq {o:Option Addr}(h:TrW B l e cls a0 fl s.heap) (hQ:∀h',TrW B l e cls a0 (o.elim Value.none λ f=>rawInt f) h'->s.heap.UpToSlots h'->Q () {s with heap:=h'}):wpAny M A (setFlight (.ref e) o) Q E s:=by
 obtain⟨k1,k2,k3,oe,vs,T,oT,ts,g1,g2,g3,g4,g5,g6,g7,g8,g9⟩:=h;have sz:3<ts.size:=(Array.getElem?_eq_some_iff.mp g9).1;generalize hv:(o.elim Value.none λ f=>rawInt f)=fv at hQ;have oth:∀b,b≠T->(s.heap.update T (Obj.mapFields λ x=>x.setIfInBounds 3 fv)).get? b=s.heap.get? b:=λ b nb=>Heap.get?_update_other _ _ (Ne.symm nb);have nrec:∀b x,s.heap.get? b=some x->(∀vs,x.data ≠ .fields vs)->b≠T:=λ b x q nf z=>by rw[z,g7] at q;cases q;exact nf ts g8
 unfold setFlight;refine wpAny_bind (wpAny_field g1 g3 g4 ?_);have ht:(Value.ref T != Value.none)=true:=by simp
 rw[if_pos ht,hv];refine wpAny_setField g7 g8 sz (hQ _ ⟨λ b x q=>(oth b λ z=>by rw[z,g5] at q;cases q).trans (k1 b x q),k2,k3.of_keeps λ b x q nf=>⟨x,(oth b (nrec b x q nf)).trans q,rfl⟩,?_⟩ λ b x q nf=>⟨x.slots,(oth b (nrec b x q nf)).trans q⟩);exact⟨oe,vs,T,_,_,(oth e (Ne.symm g6)).trans g1,g2,g3,g4,g5,g6,Heap.get?_update_self _ g7 (Obj.isFreed_of_fields (Obj.data_mapFields g8 _)),Obj.data_mapFields g8 _,by simp[sz]⟩
theorem qFD (hfr:A.frames=some (env::outer)) (hf:env.frame=some L) (h:TrW B (env::outer) e cls a0 fl s.heap) (hfl:fl = .none\/fl=rawInt L) (hQ:∀h',TrW B (env::outer) e cls a0 (rawInt L) h'->s.heap.UpToSlots h'->Q () {s with heap:=h'}) :
  wpAny M A (noteFrame (.ref e) env) Q E s:=by
 rcases hfl with rfl|rfl
 ·exact wpAny_looks_onW hfr hf h hQ
 ·exact wpAny_noteFrame_againW hf h.2.2.2 (hQ s.heap h (Heap.UpToSlots.refl _))
theorem qDr {args:List Value}(hfr:A.frames=some (env::outer)) (hf:env.frame=some L) (hkb:B.StaysIn h) (hl:h.FunFrames B (env::outer)) (hx:Heap.MadeExcOf h s.heap e cls args)
  (hQ:∀h' t,TrW B (env::outer) e cls (.ref t) (rawInt L) h'->s.heap.UpToSlots h'->Q () {s with heap:=h'}):wpAny M A (noteFrame (.ref e) env) Q E s:=by
 obtain⟨t,g1,g2,g3⟩:=hx.there;have ne:B.get? e=none:=by
  cases q:B.get? e with
  |none=>rfl
  |some o=>have:=hkb e o q;rw[hx.new] at this;cases this
 have kb:B.StaysIn s.heap:=λ b o q=>hx.keeps b o (hkb b o q);unfold noteFrame;simp only[hf];refine wpAny_bind (wpAny_field g1 rfl (x:= .none) rfl ?_);have hn:¬((Value.none != Value.none)=true):=by decide
 rw[if_neg hn];refine wpAny_entryW (a0:= .ref t) hfr (hl.of_keeps λ b o q _=>⟨o,hx.keeps b o q,rfl⟩) hf g1 kb ne rfl (by simp) rfl λ h' hN=>?_;obtain⟨n1,n2,n3,n4⟩:=hN;exact hQ h' t ⟨n1,ne,n2,n3⟩ n4
end
section
variable {X:Cx}{p:Pm}
theorem q9b (ok:X.Ok):∀b∈X.fs,b∈frs X.stack:=λ b hb=>by
 rcases ok.stk with e|⟨e,hf⟩
 ·rw[e];exact hb
 ·rw[e];unfold frs;rw[Q3,hf];exact Qa _ hb
theorem q1m {s:Shared}{B h':Heap}(I:Inv X pins σ H s) (b:BOk X pins H B) (st:B.StaysIn h') (up:s.heap.UpToSlots h'):Inv X pins σ H {s with heap:=h'}:=by
 have nst:∀c o,X.s₀.heap.get? c=some o->c∉X.fs->c∉frs X.stack:=λ c o e hc hm=>by
  rcases Qf.mp (I.q3R c hm) with z|z
  ·exact absurd (Qp (Heap.lt_size e) I.ok.above) (by rw[z];exact Jd _)
  ·exact hc z
 have hok:HOk X.prog X.w H h':=b.hok.kept st;have slot:∀c o,X.s₀.heap.get? c=some o->X.H₀ c=none->c∈X.fs->c∉X.ex->∃sl,h'.get? c=some {o with slots:=sl}:=λ c o e n hc hx=>by obtain⟨sl,e1⟩:=I.base.slot c o e n hc hx;obtain⟨_,o',ho',hd'⟩:=I.ok.funs.mem hc;rw[e] at ho';cases ho';obtain⟨sl',e2⟩:=up c _ e1 hd';exact⟨sl',e2⟩
 have cellK:∀c v,s.heap.IsCell c v->h'.IsCell c v:=λ c v ⟨o,e,d⟩=>by
  obtain⟨sl,e2⟩:=up c o e λ vs z=>by rw[d] at z;cases z
  exact⟨_,e2,d⟩
 refine⟨I.ok,I.os,I.bare,⟨λ c o e n hc hx=>?_,slot,I.base.free,λ c o e hx=>?_,I.base.tups,I.base.frzs,I.base.tbls⟩,?_,λ x c e=>?_,I.free,I.freeC,λ q hq=>?_,hok,I.len⟩
 ·exact st _ _ (b.keep c o e n (nst c o e hc) hx)
 ·by_cases hc:c∈X.fs
  ·obtain⟨sl,e2⟩:=slot c o e (I.ok.frf c hc) hc hx;exact⟨_,e2⟩
  ·obtain⟨o',e2⟩:=b.there c o e (nst c o e hc) hx;exact⟨_,st _ _ e2⟩
 ·obtain⟨m,hn,hl⟩:=I.loc;refine⟨m,up.ns hn,λ i x v e1 e2 e3=>?_⟩;obtain⟨u,r,l⟩:=hl i x v e1 e2 e3;refine⟨u,r,?_⟩;rcases l with l|⟨k,c,e,z⟩
  ·exact .inl l
  ·exact .inr ⟨k,c,e,cellK c _ z⟩
 ·obtain⟨v,z⟩:=I.cell x c e;exact⟨v,cellK c v z⟩
 ·obtain⟨_,n,ne,nf,d⟩:=I.pin q hq;exact⟨st _ _ (b.pin q hq),n,ne,nf,d⟩
def hidF (X:Cx) (h:Heap):Heap:=PySem.W.hideAll h (frs X.stack)
theorem q4m {o:Obj}(e:h.get? b=some o) (n:b∉frs X.stack):(hidF X h).get? b=some o:=PySem.W.hideAll_get _ e n
theorem qGb {o:Obj}(e:(hidF X h).get? b=some o):h.get? b=some o:=PySem.W.of_hideAll _ e
theorem qBq (hb:b∈frs X.stack):(hidF X h).get? b=none:=PySem.W.hideAll_none _ hb
theorem q9c {s:Shared}(I:Inv X pins σ H s):BOk X pins H (hidF X s.heap):=by
 have nfr:∀b o,H b=some o->b∉frs X.stack:=λ b o e hm=>by rw[I.q8L b hm] at e;cases e
 refine⟨λ a o e=>?_,λ b o e n hb hx=>?_,λ b o e hb hx=>?_,λ q hq=>?_⟩
 ·refine (I.hok a o e).stay (λ c v hc q=>q4m q ?_) (λ _ q=>q) λ _ _ q=>q;rcases hc with rfl|hc
  ·exact nfr _ _ e
  ·exact nfr _ _ hc
 ·exact q4m (I.base.keep b o e n (λ z=>hb (q9b I.ok b z)) hx) hb
 ·obtain⟨o',e'⟩:=I.base.there b o e hx;exact⟨o',q4m e' hb⟩
 ·obtain⟨e,n,ne,nf,d⟩:=I.pin q hq;refine q4m e λ z=>?_;rcases Qf.mp (I.q3R _ z) with z|z
  ·exact ne z
  ·exact nf z
theorem q8i {s:Shared}(I:Inv X pins σ H s):s.heap.FunFrames (hidF X s.heap) X.stack:=by
 have all:∀l:List PySem.Env,(∀b∈frs l,b∈frs X.stack)->s.heap.FunFrames X.base l->s.heap.FunFrames (hidF X s.heap) l:=by
  intro l
  induction l with
  |nil=>intro _ _;trivial
  |cons env r ih =>
   intro hs hl;obtain⟨hk,⟨L,o,hf,hn,ho,hd⟩,hr⟩:=hl;have hL:L∈frs X.stack:=hs L (by unfold frs;rw[Q3,hf];exact Qb);exact⟨hk,⟨L,o,hf,qBq hL,ho,hd⟩,ih (λ b hb=>hs b (by unfold frs;rw[Q3,hf];exact Qa _ hb)) hr⟩
 exact all X.stack (λ _ hb=>hb) I.stack
structure Top (X:Cx):Prop where
 stk:X.stack=X.env::X.outer
 frame:X.env.frame=some X.env.locals
theorem Top.frames (T:Top X) (ok:X.Ok):X.A.frames=some (X.env::X.outer):=by rw[ok.frames,T.stk]
theorem q6X {E:Value->Shared->Prop}{Q:Unit->Shared->Prop}{e:Value}{s:Shared}(T:Top X) (m:Mid X p pins σ H c e s)
  (hQ:∀H' a C B t h',e = .ref a->p.cls[c]? = some C->Ext H H'->Inv X pins σ H' {s with heap:=h'}->BOk X pins H' B->TrW B X.stack a (.ref C) (.ref t) (rawInt X.env.locals) h'->Q () {s with heap:=h'}):wpAny (model X.prog X.w) X.A (noteFrame e X.env) Q E s:=by
 obtain⟨H',a,C,rfl,h2,h3,h4⟩:=m;rcases h4 with ⟨s1,vs,I,mk,es⟩|⟨B,t,I,b,f⟩|⟨B,t,L,hL,I,b,f⟩
 ·have kb:(hidF X s1.heap).StaysIn s1.heap:=λ b o e=>qGb e;refine qDr (B:=hidF X s1.heap) (T.frames I.ok) T.frame kb (T.stk▸q8i I) mk λ h' t tr up=>?_;have hs:({s with heap:=h'}:Shared)={s1 with heap:=h'}:=by rw[es]
  refine hQ H' a C _ t h' rfl h2 h3 ?_ (q9c I) (T.stk▸tr);rw[hs];exact q1m I (q9c I) tr.1 ((Heap.UpToSlots.of_keeps mk.keeps).trans up)
 ·refine qFD (fl:= .none) (T.frames I.ok) T.frame (T.stk▸f) (.inl rfl) λ h' tr up=>?_;exact hQ H' a C B t h' rfl h2 h3 (q1m I b tr.1 up) b (T.stk▸tr)
 ·rw[T.frame] at hL;cases hL;refine qFD (fl:=rawInt X.env.locals) (T.frames I.ok) T.frame (T.stk▸f) (.inr rfl) λ h' tr up=>?_;exact hQ H' a C B t h' rfl h2 h3 (q1m I b tr.1 up) b (T.stk▸tr)
theorem qAZ {e:Value}{s:Shared}{P:Value->Shared->Prop}(T:Top X) (m:Mid X p pins σ H c e s) (hP:∀s',Mid X p pins σ H c e s'->P e s'):notedBy (model X.prog X.w) X.A X.env (cameBackBy (model X.prog X.w) X.A X.env P) e s:=by
 refine q6X T m λ H' a C B t h' e1 e2 e3 I b tr=>?_;subst e1;obtain⟨_,_,_,oe,vs,T',oT,ts,g1,g2,g3,g4,_⟩:=id tr;unfold cameBackBy;refine wpAny_bind (wpAny_field g1 g3 g4 ?_);have hn:¬((Value.ref T'==Value.none)=true):=by simp
 rw[if_neg hn,T.frame];refine qDq tr λ h2 tr2 up2=>?_;exact hP _ ⟨H',a,C,rfl,e2,e3,.inr (.inr ⟨B,t,_,T.frame,q1m (s:={s with heap:=h'}) I b tr2.1 up2,b,tr2⟩)⟩
theorem q5D {H0:Hp}{O0:List Addr}{r:RS}(T:Top X):PassesOwn (model X.prog X.w) X.A X.env (Es X p H0 O0 pins r):=λ e s h=>by obtain⟨c,ρ',σ',os',H',h1,h2,m⟩:=h;exact qAZ T m λ s' m'=>⟨c,ρ',σ',os',H',h1,h2,m'⟩
noncomputable def CXs (P:Program) (w:World):CXT:=λ outer H s E e s'=>∃H' a C B t,e = .ref a/\E e (some C) H'/\Ext H H'/\s'.os=s.os/\AllBare s'.gens/\HOk P w H' B/\(∀b o,s.heap.get? b=some o->H b=none->b∉frs outer->B.get? b=some o)/\
 (∀b o,s.heap.get? b=some o->H b=none->H' b=none)/\(∀b o,s.heap.get? b=some o->H b=none->b∈frs outer->∃sl,s'.heap.get? b=some {o with slots:=sl})/\Heap.FlyingW B outer a (.ref C) (.ref t) s'.heap
theorem q5o {e:Value}{s:Shared}{Ex:XK}{Q:Unit->Shared->Prop}{E:Value->Shared->Prop}(T:Top X) (hex:X.ex=[]) (m:Mid X p pins σ H c e s) (x0:Ext X.H₀ H)
  (hE:∀C H',p.cls[c]? = some C->Ext X.H₀ H'->Ex e (some C) H') (hQ:∀s',CXs X.prog X.w X.outer X.H₀ X.s₀ Ex e s'->Q () s'):wpAny (model X.prog X.w) X.A (leaving X.env e) Q E s:=by
 unfold leaving;refine wpAny_bind (q6X T m λ H' a C B t h' e1 e2 e3 I b tr=>?_);subst e1;refine qDq tr λ h2 tr2 up2=>hQ _ ?_;have I2:=q1m (s:={s with heap:=h'}) I b tr2.1 up2;have nx:∀b,b∉X.ex:=λ b=>by rw[hex];simp
 have tr3:TrW B (X.env::X.outer) a (.ref C) (.ref t) .none h2:=T.stk▸tr2;obtain⟨k1,k2,⟨_,_,k3⟩,k4⟩:=tr3;refine⟨H',a,C,B,t,rfl,hE C H' e2 (x0.trans e3),x0.trans e3,I2.os,I2.bare,b.hok,λ c o q n hc=>?_,λ c o q n=>I2.base.free c o q n (nx c),λ c o q n hc=>I2.base.slot c o q n hc (nx c),k1,k2,k3,k4⟩;refine b.keep c o q n (λ hm=>?_) (nx c);rcases Qf.mp (I2.q3R c hm) with z|z
 ·exact absurd (Qp (Heap.lt_size q) I2.ok.above) (by rw[z];exact Jd _)
 ·exact hc z
theorem q7d {e:Value}{s s':Shared}{Ex:XK}(I:Inv X pins σ H s) (h:CXs X.prog X.w X.stack H s Ex e s') (hE:∀C H',Ex e (some C) H'->p.cls[c]? = some C):Mid X p pins σ H c e s':=by
 obtain⟨H',a,C,B,t,rfl,h1,h2,h3,h4,h5,h6,h7,h8,h9⟩:=h;have hok:HOk X.prog X.w H' s'.heap:=h5.kept h9.1;have un:Un (frs X.stack) [] H H' s.heap s'.heap:=by
  refine⟨λ b o q n hb _=>h9.1 _ _ (h6 b o q n hb),λ b o q n hb _=>h8 b o q n hb,λ b o q n _=>h7 b o q n,λ b o q _=>?_,λ b xs q=>h2 _ _ q,λ b o u q=>h2 _ _ q,λ b ps q=>⟨#[],by rw[h2 _ _ q];simp⟩⟩;cases n:H b with
  |some u=>exact q2I (hok b u (h2 _ _ n))
  |none =>
   by_cases hb:b∈frs X.stack
   ·obtain⟨sl,e⟩:=h8 b o q n hb;exact⟨_,e⟩
   ·exact⟨_,h9.1 _ _ (h6 b o q n hb)⟩
 have I':Inv X pins σ H' s':=I.qFa (ch:=[]) h3 un hok h4 (λ b z=>absurd z (by simp));refine⟨H',a,C,rfl,hE C H' h1,h2,.inr (.inl ⟨B,t,I',⟨h5,λ b o q n hb hx=>?_,λ b o q hb hx=>?_,λ q hq=>?_⟩,h9⟩)⟩
 ·exact h6 b o (I.base.keep b o q n (λ z=>hb (q9b I.ok b z)) hx) (I.base.free b o q n hx) hb
 ·obtain⟨o',q'⟩:=I.base.there b o q hx;cases n:H b with
  |some u=>exact q2I (h5 b u (h2 _ _ n))
  |none=>exact⟨_,h6 b o' q' n hb⟩
 ·obtain⟨q1,n,ne,nf,d⟩:=I.pin q hq;refine h6 _ _ q1 n λ z=>?_;rcases Qf.mp (I.q3R _ z) with z|z
  ·exact ne z
  ·exact nf z
end
end Snd
namespace Snd
open PySem PySem.Spec PyProof.Rows L2 Ev
variable {k j:Nat}{f:Addr}{H:Hp}{O:List Addr}{ds:List D}{vs:List V}
noncomputable def spG (p:Pm) (G:Nat->List D->R D) (f n:Nat):Sp:=λ vs H Q E=>∃ds O,vs.length=n/\O.Nodup/\Th O H/\RepL p (fz O H) ds vs/\G f ds ≠ .stuck/\
 (∀r v H',G f ds = .ok r->Ext H H'->Rep p (fz O H') r v->Q v H')/\(∀c C H' e,G f ds = .err c->p.cls[c]? = some C->Ext H H'->E e (some C) H')
noncomputable def spF (p:Pm) (G:Nat->List D->R D) (f n:Nat):Sp:=λ vs H Q E=>∃ds O,vs.length=n/\O.Nodup/\Th O H/\RepL p (fz O H) ds vs/\G f ds ≠ .stuck/\
 (∀xs a ys H',G f ds = .ok (.lst xs)->Ext H H'->H a=none->H' a=some (.lst ys)->RepL p (fz (a::O) H') xs ys->Q (.ref a) H')/\(∀c C H' e,G f ds = .err c->p.cls[c]? = some C->Ext H H'->E e (some C) H')
section
variable {X:Cx}{p:Pm}{G:Nat->List D->R D}{sub:Nat->Nat->Bool}
theorem qDs {fd:FuncData}{ps:List Str}{pins:List (Addr×Obj)}{σ:L2.St}{s:Shared}{us:List Value}(F:FnOk X.prog X.w X.K X.mg X.base (CXs X.prog X.w) k f fd ps (spG p G j ps.length))
  (hr:Room k X.A) (hb:Binds X.K fd ps []) (I:Inv X pins σ H s) (r:Vals vs us) (nd:O.Nodup) (t:Th O H) (q:RepL p (fz O H) ds vs) (hl:ds.length=ps.length) (hs:G j ds ≠ .stuck) :
  wpAny (model X.prog X.w) X.A (call (.ref f) us) (λ u s'=>∃d v H',G j ds = .ok d/\Inv X pins σ H' s'/\RelV v u/\Ext H H'/\Rep p (fz O H') d v) (Er X p pins σ H (G j ds)) s:=by
 have hlv:vs.length=ps.length:=by rw[<-q.length];exact hl
 have hlu:(us++[]).length=ps.length:=by rw[QR,<-r.length];exact hlv
 have sp0:spG p G j ps.length vs H (λ v H'=>∃d,G j ds = .ok d/\Ext H H'/\Rep p (fz O H') d v) (λ e C H'=>∃c C',G j ds = .err c/\C=some C'/\p.cls[c]? = some C') :=
  ⟨ds,O,hlv,nd,t,q,hs,λ r v H' e x w=>⟨r,e,x,w⟩,λ c C H' e h1 h2 _=>⟨c,C,h1,rfl,h2⟩⟩
 have hb':=hb s us I.kIn hlu;rw[QR] at hb';refine wpAny_call (codeAny_mono (F.run X.A X.stack s H ⟨us,[]⟩ us vs _ _ hr I.env0 hb' r sp0) λ rr s' hq=>?_);cases rr with
 |error e =>
  have hq:CXs X.prog X.w X.stack H s (λ e C H'=>∃c C',G j ds = .err c/\C=some C'/\p.cls[c]? = some C') e s':=hq;obtain⟨H',a,C,B,tt,h0,⟨c,C',h1,h2,h3⟩,hrest⟩:=id hq;exact⟨c,h1,q7d I hq λ C2 H2 ⟨c2,C3,g1,g2,g3⟩=>by rw[h1] at g1;cases g1;cases g2;exact g3⟩
 |ok fl =>
  cases fl with
  |ret u =>
   obtain⟨v,H',I',rv,d,e,x,w⟩:=I.after hq;exact⟨d,v,H',e,I',rv,x,w⟩
  |next=>exact False.elim hq
  |brk=>exact False.elim hq
  |cont=>exact False.elim hq
theorem q7e {fd:FuncData}{ps:List Str}{pins:List (Addr×Obj)}{σ:L2.St}{s:Shared}{us:List Value}(F:FnOk X.prog X.w X.K X.mg X.base (CXs X.prog X.w) k f fd ps (spF p G j ps.length))
  (hr:Room k X.A) (hb:Binds X.K fd ps []) (I:Inv X pins σ H s) (r:Vals vs us) (nd:O.Nodup) (t:Th O H) (q:RepL p (fz O H) ds vs) (hl:ds.length=ps.length) (hs:G j ds ≠ .stuck) :
  wpAny (model X.prog X.w) X.A (call (.ref f) us) (λ u s'=>∃xs a ys H',G j ds = .ok (.lst xs)/\Inv X pins σ H' s'/\u = .ref a/\Ext H H'/\H a=none/\H' a=some (.lst ys)/\RepL p (fz (a::O) H') xs ys) (Er X p pins σ H (G j ds)) s:=by
 have hlv:vs.length=ps.length:=by rw[<-q.length];exact hl
 have hlu:(us++[]).length=ps.length:=by rw[QR,<-r.length];exact hlv
 have sp0:spF p G j ps.length vs H (λ v H'=>∃xs a ys,v = .ref a/\G j ds = .ok (.lst xs)/\Ext H H'/\H a=none/\H' a=some (.lst ys)/\RepL p (fz (a::O) H') xs ys) (λ e C H'=>∃c C',G j ds = .err c/\C=some C'/\p.cls[c]? = some C') :=
  ⟨ds,O,hlv,nd,t,q,hs,λ xs a ys H' e x n h w=>⟨xs,a,ys,rfl,e,x,n,h,w⟩,λ c C H' e h1 h2 _=>⟨c,C,h1,rfl,h2⟩⟩
 have hb':=hb s us I.kIn hlu;rw[QR] at hb';refine wpAny_call (codeAny_mono (F.run X.A X.stack s H ⟨us,[]⟩ us vs _ _ hr I.env0 hb' r sp0) λ rr s' hq=>?_);cases rr with
 |error e =>
  have hq:CXs X.prog X.w X.stack H s (λ e C H'=>∃c C',G j ds = .err c/\C=some C'/\p.cls[c]? = some C') e s':=hq;obtain⟨H',a,C,B,tt,h0,⟨c,C',h1,h2,h3⟩,hrest⟩:=id hq;exact⟨c,h1,q7d I hq λ C2 H2 ⟨c2,C3,g1,g2,g3⟩=>by rw[h1] at g1;cases g1;cases g2;exact g3⟩
 |ok fl =>
  cases fl with
  |ret u =>
   obtain⟨v,H',I',rv,xs,a,ys,ev,e,x,n,h,w⟩:=I.after hq;subst ev;exact⟨xs,a,ys,H',e,I',rv,x,n,h,w⟩
  |next=>exact False.elim hq
  |brk=>exact False.elim hq
  |cont=>exact False.elim hq
theorem q5p {H Hf:Hp}:∀(n:Nat),q1I p H Hf (Qe n none) (Qe n none) (Qe n [])
 |0=>trivial
 |n+1=>⟨none,Qe n none,[],Qe n [],rfl,rfl,rfl,q5p n⟩
theorem qDt (n:Nat) (O:List Addr):(Qe n []++[O]).flatten=O:=by simp
theorem q9d {N:List Str}(nd:O.Nodup) (t:Th O H) (q:RepL p (fz O H) ds vs) (hl:vs.length<=N.length) :
  Bd p H O (vals ds++Qe (N.length-ds.length) none) (L2.start N vs) (Qe N.length []) H:=by
 have e:=q.length;have f:(Qe N.length []++[O]).flatten=O:=qDt _ _;refine⟨⟨by rw[f];exact nd,by rw[f];exact t,?_⟩,?_,?_,Ext.refl _,λ a ha=>absurd ha (by simp)⟩
 ·rw[f];have h:=q48 (more:=[O]) (q59 (p:=p) (H:=H) (Hf:=fz O H) (q5p (N.length-ds.length)) q);have e2:Qe ds.length ([]:List Addr)++Qe (N.length-ds.length) []=Qe N.length []:=by rw[List.replicate_append_replicate];congr 1;lia
  rw[e2] at h;unfold L2.start;rw[<-e];exact h
 ·simp[vals];lia
 ·simp[vals,L2.start];lia
theorem qJT {P:Program}{w:World}{K:PySem.W.Frag}{mg:Str->Option Value}{base:Heap}{name qual:Str}{params:Arguments}{body:List Stmt}{scope:Scope}{dV kV doc pm cdv ct oc:Value}{an od:Option Addr}
  {osl:Array (Option Value)}{N ps:List Str}{G':Nat->List D->R D}{l:List S}(lk:K.lookup f=some ⟨oc,od,.func (PySem.W.fnOf name qual params body scope dV kV doc pm an cdv ct),osl⟩) (hcd:PySem.W.codeIn K cdv qual=true) (S:FnScope N ps scope)
  (hG:∀ds,G j ds ≠ .stuck->ds.length=ps.length->G j ds=Ev.run G' sub N.length l ds)
  (hbody:∀(A:Around) (outer:List PySem.Env) (s:Shared) (H:Hp) (E:XK),Room k (A.deeper (envOfC qual scope s.heap.objs.size f cdv))->Env0 P w K mg base A outer s H->SSs (cxOf (CXs P w) P w K mg base N qual scope f cdv A outer s H E) p G' sub body l) :
  FnOk P w K mg base (CXs P w) (k+1) f (PySem.W.fnOf name qual params body scope dV kV doc pm an cdv ct) ps (spG p G j ps.length):=by
 refine⟨λ vs H Q E h=>h.choose_spec.choose_spec.1,λ A outer s H args us vs Q E hr e0 hb r hsp=>?_⟩;obtain⟨ds,O,hl,nd,t,q,ns,q1,q2⟩:=hsp;have KX:K.In s.heap:=e0.mod.kin.keeps λ b o e=>(e0.bs b o e).1;have lim:s.heap.NoLimit:=e0.mod.nolimit.keeps λ b o e=>(e0.bs b o e).1;have hkind:∀y∈ps.zip us,scope.names.lookup y.1=some .local\/(scope.names.lookup y.1=some .cell/\((cellsFrom (s.heap.objs.size+1) scope.names []).lookup y.1).isSome=true):=λ⟨n,v⟩ hy=>by
  rcases S.par n (List.of_mem_zip hy).1 with q|q
  ·exact .inl q
  ·exact .inr ⟨q,PySem.W.cellsFrom_some _ _ _ (.inl q)⟩
 refine codeAny_call_function hr.depth (KX _ _ lk) rfl S.co S.gen rfl (PySem.W.codeRec_of KX hcd) (hb _ _ _ _ ?_);refine wpAny_newFunctionEnv_cells S.kind hkind λ env he s1 x=>?_;subst he;refine⟨lim.keeps x.toInCall.keep,codeAny_func ?_⟩;have I:Inv (cxOf (CXs P w) P w K mg base N qual scope f cdv A outer s H E) [] (L2.start N vs) H s1:=q77 S hr.hd e0 hl r x;have hpl:ps.length<=N.length:=by have:=congrArg List.length S.pre;rw[Jz] at this;lia
 have B:=q9d (N:=N) nd t q (by lia);have hrun:=hG ds ns (by rw[q.length];exact hl);rw[hrun] at ns q1 q2;unfold Ev.run at ns q1 q2;have T:Top (cxOf (CXs P w) P w K mg base N qual scope f cdv A outer s H E):=⟨rfl,rfl⟩
 generalize hr0:exs G' sub l (vals ds++Qe (N.length-ds.length) none)=r0 at ns q1 q2;have ns':r0 ≠ .stuck:=λ e=>ns (by rw[e]);refine wpAny_mono (hbody A outer s H E (hr.deeper _) e0 H O _ (q5D (p:=p) (H0:=H) (O0:=O) (pins:=[]) (r:=r0) T) [] s1 _ H _ _ I B (by rw[hr0];exact ns') (λ e s' z=>by rw[hr0] at z;exact z)) (λ fl s' hs=>?_) λ e s' hs=>?_
 ·rw[hr0] at hs;obtain⟨ρ',fl',σ',os',H',e1,B',I',r'⟩:=hs;subst e1;cases fl'<;>cases fl<;>first|exact r'.elim|skip
  ·exact⟨.non,H',I'.os,I'.bare,I'.base,I'.hok,rfl,q1 .non .non H' rfl B'.ext rfl⟩
  ·exact absurd rfl ns
  ·exact absurd rfl ns
  ·obtain⟨v,rv,w'⟩:=r';exact⟨v,H',I'.os,I'.bare,I'.base,I'.hok,rv,q1 _ v H' rfl B'.ext w'⟩
  ·exact absurd rfl ns
 ·obtain⟨c,ρ',σ',os',H',e1,B',m⟩:=hs;subst e1;exact q5o T rfl m B'.ext (λ C H2 h1 h2=>q2 c C H2 e rfl h1 h2) λ s2 h2=>h2
theorem qGc {P:Program}{w:World}{K:PySem.W.Frag}{mg:Str->Option Value}{base:Heap}{name qual:Str}{params:Arguments}{body:List Stmt}{scope:Scope}{dV kV doc pm cdv ct oc:Value}{an od:Option Addr}
  {osl:Array (Option Value)}{N ps:List Str}{G':Nat->List D->R D}{l:List S}(lk:K.lookup f=some ⟨oc,od,.func (PySem.W.fnOf name qual params body scope dV kV doc pm an cdv ct),osl⟩) (hcd:PySem.W.codeIn K cdv qual=true) (S:FnScope N ps scope)
  (hG:∀ds,G j ds ≠ .stuck->ds.length=ps.length->G j ds=Ev.runF G' sub N.length l ds)
  (hbody:∀(A:Around) (outer:List PySem.Env) (s:Shared) (H:Hp) (E:XK),Room k (A.deeper (envOfC qual scope s.heap.objs.size f cdv))->Env0 P w K mg base A outer s H->SSs (cxOf (CXs P w) P w K mg base N qual scope f cdv A outer s H E) p G' sub body l) :
  FnOk P w K mg base (CXs P w) (k+1) f (PySem.W.fnOf name qual params body scope dV kV doc pm an cdv ct) ps (spF p G j ps.length):=by
 refine⟨λ vs H Q E h=>h.choose_spec.choose_spec.1,λ A outer s H args us vs Q E hr e0 hb r hsp=>?_⟩;obtain⟨ds,O,hl,nd,t,q,ns,q1,q2⟩:=hsp;have KX:K.In s.heap:=e0.mod.kin.keeps λ b o e=>(e0.bs b o e).1;have lim:s.heap.NoLimit:=e0.mod.nolimit.keeps λ b o e=>(e0.bs b o e).1;have hkind:∀y∈ps.zip us,scope.names.lookup y.1=some .local\/(scope.names.lookup y.1=some .cell/\((cellsFrom (s.heap.objs.size+1) scope.names []).lookup y.1).isSome=true):=λ⟨n,v⟩ hy=>by
  rcases S.par n (List.of_mem_zip hy).1 with q|q
  ·exact .inl q
  ·exact .inr ⟨q,PySem.W.cellsFrom_some _ _ _ (.inl q)⟩
 refine codeAny_call_function hr.depth (KX _ _ lk) rfl S.co S.gen rfl (PySem.W.codeRec_of KX hcd) (hb _ _ _ _ ?_);refine wpAny_newFunctionEnv_cells S.kind hkind λ env he s1 x=>?_;subst he;refine⟨lim.keeps x.toInCall.keep,codeAny_func ?_⟩;have I:Inv (cxOf (CXs P w) P w K mg base N qual scope f cdv A outer s H E) [] (L2.start N vs) H s1:=q77 S hr.hd e0 hl r x;have hpl:ps.length<=N.length:=by have:=congrArg List.length S.pre;rw[Jz] at this;lia
 have B:=q9d (N:=N) nd t q (by lia);have hrun:=hG ds ns (by rw[q.length];exact hl);rw[hrun] at ns q1 q2;unfold Ev.runF at ns q1 q2;have T:Top (cxOf (CXs P w) P w K mg base N qual scope f cdv A outer s H E):=⟨rfl,rfl⟩
 generalize hr0:exs G' sub l (vals ds++Qe (N.length-ds.length) none)=r0 at ns q1 q2;have ns':r0 ≠ .stuck:=λ e=>ns (by rw[e]);refine wpAny_mono (hbody A outer s H E (hr.deeper _) e0 H O _ (q5D (p:=p) (H0:=H) (O0:=O) (pins:=[]) (r:=r0) T) [] s1 _ H _ _ I B (by rw[hr0];exact ns') (λ e s' z=>by rw[hr0] at z;exact z)) (λ fl s' hs=>?_) λ e s' hs=>?_
 ·rw[hr0] at hs;obtain⟨ρ',fl',σ',os',H',e1,B',I',r'⟩:=hs;subst e1;cases fl'<;>cases fl<;>first|exact r'.elim|skip
  ·exact absurd rfl ns
  ·exact absurd rfl ns
  ·exact absurd rfl ns
  ·exact absurd rfl ns
  ·obtain⟨a,xs,ys,rfl,rfl,z3,z4,z5⟩:=r';exact⟨.ref a,H',I'.os,I'.bare,I'.base,I'.hok,rfl,q1 xs a ys H' rfl B'.ext z3 z4 z5⟩
 ·obtain⟨c,ρ',σ',os',H',e1,B',m⟩:=hs;subst e1;exact q5o T rfl m B'.ext (λ C H2 h1 h2=>q2 c C H2 e rfl h1 h2) λ s2 h2=>h2
theorem qLa {p:Pm}{G:Nat->List D->R D}{f n:Nat}{Q:VK}{E:XK}(h:spG p G f n vs H Q E):spF p G f n vs H Q E:=by obtain⟨ds,O,h1,h2,h3,h4,h5,h6,h7⟩:=h;refine⟨ds,O,h1,h2,h3,h4,h5,λ xs a ys H' e x na ha r=>h6 _ _ H' e x ⟨a,ys,rfl,SqL.of (q1x ha λ m=>?_),r.mono (q2d λ b hb=>Qa _ hb)⟩,h7⟩;obtain⟨o,e⟩:=h3 a m;rw[na] at e;cases e
end
end Snd
namespace Snd
open PySem PySem.Spec PyProof.Rows L2 Ev
variable {x y:Str}{pos:Pos}{a:PySem.Expr}
section
variable {X:Cx}{p:Pm}{G:Nat->List D->R D}{sub:Nat->Nat->Bool}
def JP (X:Cx) (e:PySem.Expr) (y:Str):Prop:=∀(E:Value->Shared->Prop) (pins:List (Addr×Obj)) (σ:L2.St) (H:Hp) (s:Shared),Inv X pins σ H s->
 wpAny (model X.prog X.w) X.A (eval e X.env) (λ u s'=>(∃t,u = .str y t)/\Inv X pins σ H s') E s
def SM (X:Cx) (e:PySem.Expr):Prop:=∀(E:Value->Shared->Prop) (pins:List (Addr×Obj)) (σ:L2.St) (H:Hp) (s:Shared),Inv X pins σ H s->
 wpAny (model X.prog X.w) X.A (eval e X.env) (λ u s'=>Inv X pins σ H s') E s
theorem qJU {j:Nat}:JP X (.Constant (.str x) j pos) x:=λ E pins σ H s I =>
 Calls.Constant_str ⟨⟨_,rfl⟩,I.tok _⟩
theorem qJV {a:Int}{t:Tok}{q:Pos}(hg:Gl X x) (hm:X.mg x=some (.int a t)) (hd:(x==("__debug__":Str))=false) (hl:a.natAbs.log2<1920):JP X (.FormattedValue (.Name x q) (-1) none pos) (toString a):=λ E pins σ H s I =>
 PyProof.Rows.FormattedValue_plain (q2X I hg hm (PyProof.Rows.formatField_int_small hl ⟨⟨_,rfl⟩,I.tok _⟩) hd)
theorem q5E {rest:List (Sem Value)}{out:Str}{e:PySem.Expr}{E:Value->Shared->Prop}{pins:List (Addr×Obj)}{σ:L2.St}{H:Hp}{s:Shared}{Q:Value->Shared->Prop}(he:JP X e y) (I:Inv X pins σ H s) (hz:(out++y).length<=sizeLine)
  (h:∀s',Inv X pins σ H s'->wpAny (model X.prog X.w) X.A (joinParts (out++y) rest) Q E s'):wpAny (model X.prog X.w) X.A (joinParts out (eval e X.env::rest)) Q E s :=
 PyProof.Rows.joinParts_cons (wpAny_mono (he E pins σ H s I) (λ u s' ⟨⟨t,e⟩,I'⟩=>by subst e;exact⟨hz,h s' I'⟩) λ _ _ z=>z)
theorem qJW {b:PySem.Expr}(ha:JP X a x) (hb:JP X b y) (h1:(Str.empty++x).length<=sizeLine) (h2:(Str.empty++x++y).length<=sizeLine):SM X (.JoinedStr [a,b] pos):=λ E pins σ H s I =>
 PyProof.Rows.JoinedStr_many (q5E ha I h1 λ s1 I1=>q5E hb I1 h2 λ s2 I2=>PyProof.Rows.joinParts_nil (I2.tok _) h2)
theorem qDu {b c:PySem.Expr}{z:Str}(ha:JP X a x) (hb:JP X b y) (hc:JP X c z) (h1:(Str.empty++x).length<=sizeLine) (h2:(Str.empty++x++y).length<=sizeLine) (h3:(Str.empty++x++y++z).length<=sizeLine):SM X (.JoinedStr [a,b,c] pos):=λ E pins σ H s I =>
 PyProof.Rows.JoinedStr_many (q5E ha I h1 λ s1 I1=>q5E hb I1 h2 λ s2 I2=>q5E hc I2 h3 λ s3 I3=>PyProof.Rows.joinParts_nil (I3.tok _) h3)
theorem qDv {c:Nat}{C:Addr}{bm:List Value}{newId initId B:String}{np cpos:Pos}(hc:X.calm=true) (hg:Gl X x) (O:OwnCls x C bm newId X.mg X.base) (FB:ExcBaseFacts B newId initId bm) (hcl:p.cls[c]? = some C) (ha:SM X a)
  (hd:(x==("__debug__":Str))=false) (hst:starEach [a] X.env=[(false,eval a X.env)]):SS X p G sub (.Raise (some (.Call (.Name x np) [a] [] cpos)) none pos) (.raise c):=by
 intro H0 O0 E hp pins s σ H ρ os I B hs hE;have e0:ex G sub (.raise c) ρ = .err c ρ:=rfl;rw[e0] at hE |-;obtain⟨tl,N,nm,q,bs,hdct,sn,sb,ab,col,dd,k0,k1,k2,k3,k5,mN,hC,hN,hni,T⟩:=O.obj;refine wpAny_Raise_call_subT (C:=C) (nm:=nm) (q:=q) (N:=N) (bs:=bs) (bm:=tl) (hdct:=hdct) (sn:=sn) (sub:=sb) (ab:=ab) (col:=col) (dd:=dd) (k0:=k0) (k1:=k1) (k2:=k2) (k3:=k3) (k5:=k5)
  FB (mN:=mN) (T.hasType FB.hasBase) (I.ok.hd hc) (by rw[hst];rfl) hni (q2X I hg O.bound ⟨rfl,?_⟩ hd)
 rw[hst];refine Calls.evalArgs_plain ?_;show wpAny _ _ (spliced ((false,eval a X.env)::backTo cpos [])) _ _ s;refine Calls.spliced_cons (wpAny_mono (ha E pins σ H s I) (λ u s1 I1=>?_) λ _ _ z=>z);refine Calls.spliced_nil ⟨rfl,show 1<=sizeLine by rw[sizeLine_eq];decide,I1.bk _ _ hC,hN.keeps I1.bk,T.keeps I1.bk,λ h' e mk=>?_⟩;exact hE _ _ ⟨c,ρ,σ,os,H,rfl,B,H,e,C,rfl,hcl,Ext.refl _,.inl ⟨s1,_,I1,mk,rfl⟩⟩
end
end Snd
namespace Snd
open PySem PySem.Spec PyProof.Rows L2 Ev
variable {pins:List (Addr×Obj)}{σ:L2.St}{H:Hp}{s:Shared}
section
variable {X:Cx}{p:Pm}{G:Nat->List D->R D}{sub:Nat->Nat->Bool}
def mk (X:Cx) (e:Addr):Cx:={X with A:=X.A.mark (some (.ref e)),calm:=false}
theorem qFE {e:Addr}(I:Inv X pins σ H s):Inv (mk X e) pins σ H s :=
 ⟨⟨I.ok.mod,I.ok.kind,I.ok.glob,I.ok.blt,I.ok.above,I.ok.inj,I.ok.has,I.ok.cab,λ z=>(nomatch z),I.ok.frames,I.ok.stk,I.ok.exf,I.ok.bs,I.ok.bsz,I.ok.noex,I.ok.exfs,I.ok.funs,I.ok.frf⟩,I.os,I.bare,I.base,I.loc,I.cell,I.free,I.freeC,I.pin,I.hok,I.len⟩
theorem qBr {B:Heap}{a C:Addr}{a0 fl:Value}(I:Inv X pins σ H s) (b:BOk X pins H B) (tr:TrW B X.stack a (.ref C) a0 fl s.heap) :
  H a=none/\Inv X pins σ (upd H a (.ext (q3b a C))) s:=by
 obtain⟨k1,k2,k3,oe,vs,T,oT,ts,g1,g2,g3,_⟩:=tr;have hn:H a=none:=q6U b.hok k2;have nst:a∉frs X.stack:=λ hm=>by obtain⟨_,o,ho,hd⟩:=k3.mem hm;rw[g1] at ho;cases ho;exact hd _ g3
 have n0:∀o,X.s₀.heap.get? a=some o->a∉X.ex->False:=λ o e hx=>by obtain⟨o',e'⟩:=b.there a o e nst hx;rw[k2] at e';cases e'
 have hok:HOk X.prog X.w (upd H a (.ext (q3b a C))) s.heap:=λ c u e=>by
  by_cases hc:c=a
  ·subst hc;rw[q0B] at e;cases e;exact⟨⟨oe,g1,g2.1⟩,⟨oe,g1⟩,λ h1 h2 ⟨o,e1,e2⟩ k=>⟨o,k o e1,e2⟩⟩
  ·rw[q07 hc] at e;exact (I.hok c u e).stay (λ _ _ _ q=>q) (λ d q=>by rw[q07 (q08 q hn)];exact q) λ d xs q=>by rw[q07 (q08 q hn)];exact q
 refine⟨hn,I.ok,I.os,I.bare,⟨I.base.keep,I.base.slot,λ c o e n hx=>?_,I.base.there,λ c xs e=>?_,λ c o u e=>?_,λ c ps e=>?_⟩,I.loc,I.cell,?_,λ x c e=>?_,λ q hq=>?_,hok,I.len⟩
 ·rw[q07 λ z=>by rw[z] at e hx;exact n0 o e hx];exact I.base.free c o e n hx
 ·have:=I.base.tups c xs e;rw[q07 (q08 this hn)];exact this
 ·have:=I.base.frzs c o u e;rw[q07 (q08 this hn)];exact this
 ·obtain⟨more,this⟩:=I.base.tbls c ps e;exact⟨more,by rw[q07 (q08 this hn)];exact this⟩
 ·rw[q07 λ z=>?_]
  ·exact I.free
  ·obtain⟨m,⟨o,es,ep,ho,hd,_⟩,_⟩:=I.loc;rw[z,g1] at ho;cases ho;rw[g3] at hd;cases hd
 ·rw[q07 λ z=>?_]
  ·exact I.freeC x c e
  ·obtain⟨v,o,ho,hd⟩:=I.cell x c e;rw[z,g1] at ho;cases ho;rw[g3] at hd;cases hd
 ·obtain⟨e,n,ne,nf,d⟩:=I.pin q hq;refine⟨e,?_,ne,nf,d⟩;rw[q07 λ z=>?_]
  ·exact n
  ·have:=b.pin q hq;rw[z,k2] at this;cases this
theorem name_goes {E:Value->Shared->Prop}{Q:Unit->Shared->Prop}{i:Nat}{x:Str}{pos:Pos}(I:Inv X pins σ H s) (hN:X.N.Nodup) (hi:X.N[i]? = some x) (hl:X.env.scope.names.lookup x=some .local)
  (h:∀s',Inv X pins (σ.set i none) H s'->Q () s'):wpAny (model X.prog X.w) X.A (do bindName X.env x .none;unbindBehindTheSuite X.env x pos) Q E s:=by
 obtain⟨m,hn,hlo⟩:=id I.loc;have hcls:(X.env.scope.kind == .class || (X.env.scope.kind == .module&&X.env.locals != X.env.globals))=false:=by rw[I.ok.kind];rfl
 have hiσ:i < σ.length:=by rw[I.len];exact (Qc.mp hi).1
 have cne:=I.cne;refine wpAny_nameGoes_keeps hl hn hcls λ h' v hn' hs=>?_;obtain⟨oL,_,_,hoL,_⟩:=id hn;have hok:HOk X.prog X.w H h':=λ b ob e=>by
  refine (I.hok b ob e).stay (λ c w' hc q=>(hs.2 c ?_).trans q) (λ _ q=>q) λ _ _ q=>q;rintro rfl;rcases hc with rfl|hc
  ·rw[I.free] at e;cases e
  ·rw[I.free] at hc;cases hc
 have low:∀b o,X.s₀.heap.get? b=some o->b≠X.env.locals:=λ b o e=>QH (Qp (Heap.lt_size e) I.ok.above);refine h _ ⟨I.ok,I.os,I.bare,⟨λ b o e n hb hx=>?_,λ b o e n hb hx=>?_,I.base.free,λ b o e hx=>?_,I.base.tups,I.base.frzs,I.base.tbls⟩,⟨_,hn',λ j y v' e1 e2 e3=>?_⟩,λ y c e=>?_,I.free,I.freeC,λ q hq=>?_,hok,by simpa using I.len⟩
 ·exact (hs.2 b (low b o e)).trans (I.base.keep b o e n hb hx)
 ·obtain⟨sl,e1⟩:=I.base.slot b o e n hb hx;exact⟨sl,(hs.2 b (low b o e)).trans e1⟩
 ·obtain⟨o',e1⟩:=I.base.there b o e hx;exact⟨o',(hs.2 b (low b o e)).trans e1⟩
 ·by_cases hj:j=i
  ·subst hj;rw[Q8 hiσ] at e2;cases e2
  ·rw[Je (Ne.symm hj)] at e2;obtain⟨u',r',q⟩:=hlo j y v' e1 e2 e3;refine⟨u',r',?_⟩;rcases q with ⟨k,e⟩|⟨k,c,e,z⟩
   ·refine .inl ⟨k,?_⟩;have:y≠x:=λ e=>hj (q68 hN e1 (e▸hi));simp[this,e]
   ·exact .inr ⟨k,c,e,z.sameBut hs (cne y c e)⟩
 ·obtain⟨w',z⟩:=I.cell y c e;exact⟨w',z.sameBut hs (cne y c e)⟩
 ·obtain⟨e,n,ne,nf,d⟩:=I.pin q hq;exact⟨(hs.2 q.1 ne).trans e,n,ne,nf,d⟩
theorem qDw {α:Type}(l:List α) (i j:Nat) (a b c:α) (h:i≠j):((l.set i a).set j b).set i c=(l.set j b).set i c:=by rw[List.set_comm _ _ h,List.set_set]
theorem qJX {c i j:Nat}{body:List Stmt}{lb:List S}{x y cn:Str}{Cc:Addr}{q q2 q3 q4 pos' pos:Pos}(T:Top X) (hN:X.N.Nodup) (hi:X.N[i]? = some x) (hl:X.env.scope.names.lookup x=some .local) (hj:X.N[j]? = some y) (hy:Loc X.env.scope y) (hfy:X.fn y=true\/X.env.scope.names.lookup y=some .local)
  (hxy:x≠y) (hg:Gl X cn) (hm:X.mg cn=some (.ref Cc)) (hsub:∀e Ce,p.cls[e]? = some Ce->PySem.W.exmOne X.K (.ref Ce) (.ref Cc)=some (sub e c)) (hdc:(cn==("__debug__":Str))=false) (hd:(x==("__debug__":Str))=false) (hcd:(x==("__classdict__":Str))=false)
  (hb:SSs X p G sub body lb):SS X p G sub (.Try body [.ExceptHandler (some (.Name cn q)) (some x) [.Assign [.Name y q2] (.Name x q3) q4] pos'] [] [] pos) (.tryE lb c i j):=by
 intro H0 O0 E hp pins s σ H ρ os I B hs hE;have e0:ex G sub (.tryE lb c i j) ρ=match exs G sub lb ρ with
   | .err e ρ'=>if sub e c then .ok ((ρ'.set j (some (.val (.exc e)))).set i none) .nx else .stuck
   |r=>r:=rfl
 rw[e0] at hs hE |-;generalize hr:exs G sub lb ρ=r0 at hs hE |-;have ns:r0 ≠ .stuck:=λ e=>hs (by rw[e]);have hij:i≠j:=λ e=>hxy (by rw[e,hj] at hi;exact (QQ.inj hi).symm);refine wpAny_Try_except (wpAny_mono (hb H0 O0 _ (q5D (p:=p) (H0:=H0) (O0:=O0) (pins:=pins) (r:=r0) T) pins s σ H ρ os I B (by rw[hr];exact ns) (λ e s' z=>by rw[hr] at z;exact z)) (λ f s1 qq=>?_) (λ e s1 qq=>?_))
 ·rw[hr] at qq;obtain⟨ρ1,fl,σ1,os1,H1,e1,B1,I1,r1⟩:=qq;subst e1;cases fl<;>cases f<;>first|exact r1.elim|skip
  ·exact wpAny_execs_nil ⟨ρ1,.nx,σ1,os1,H1,rfl,B1,I1,trivial⟩
  ·exact⟨ρ1,.brk,σ1,os1,H1,rfl,B1,I1,trivial⟩
  ·exact⟨ρ1,.cont,σ1,os1,H1,rfl,B1,I1,trivial⟩
  ·exact⟨ρ1,_,σ1,os1,H1,rfl,B1,I1,r1⟩
  ·exact⟨ρ1,_,σ1,os1,H1,rfl,B1,I1,r1⟩
 ·obtain⟨c',ρ',σ',os',H',e1,B',m⟩:=qq;subst e1;have hsb:sub c' c=true:=by
   cases h:sub c' c with
   |true=>rfl
   |false=>exact absurd (by simp[h]) hs
  refine q6X T m λ H2 a C Bh t h2 ea ecl x2 I2 bo tr=>?_;subst ea;refine qDq (s:={s1 with heap:=h2}) (o:=none) tr λ h3 tr3 up3=>?_;have I3:=q1m (s:={s1 with heap:=h2}) I2 bo tr3.1 up3;refine wpAny_handleBy_cons (codeAny_handlers_test ?_) (by intro q;cases q);refine q2X (X:=mk X a) (qFE I3) hg hm ?_ hdc;have LT:PySem.W.Looks (model X.prog X.w) h3 (typeOf (.ref a)) (.ref C):=by obtain⟨ob,g1,g2⟩:=tr3.2.2.2.there;exact g2▸(PySem.W.Looks.ld g1).andThen .now
  refine PySem.W.Looks.here (s:={s1 with heap:=h3}) (PySem.W.exm_one I3.kIn LT (hsub c' C ecl)) ?_;rw[hsb,if_pos rfl];refine codeAny_handlers_suite_as ?_;refine qDq (s:={s1 with heap:=h3}) (o:=none) tr3 λ h4 tr4 up4=>?_;have I4:=q1m (s:={s1 with heap:=h3}) I3 bo tr4.1 up4;obtain⟨hn,I5⟩:=qBr I4 bo tr4;have B5:Bd p H0 O0 ρ' σ' os' (upd H2 a (.ext (q3b a C))):=B'.mono (x2.trans (Ext.upd hn));have lt:i < ρ'.length:=by rw[<-B'.slen,I2.len];exact (Qc.mp hi).1
  have lt2:j < ρ'.length:=by rw[<-B'.slen,I2.len];exact (Qc.mp hj).1
  have notin:a∉(os'++[O0]).flatten:=λ z=>by obtain⟨o,e⟩:=B'.rel.there a z;rw[x2 _ _ e] at hn;cases hn
  have rep:Rep p (fz (os'++[O0]).flatten (upd H2 a (.ext (q3b a C)))) (.exc c') (.ref a):=⟨a,C,rfl,ecl,q1x q0B notin⟩
  have B6:=B5.setV lt rep;have sub6:∀b∈(os'.set i []++[O0]).flatten,b∈(os'++[O0]).flatten:=λ b hb=>by rw[<-q0t (by rw[B'.len];exact lt)] at hb;exact (q0H hb).elim id λ z=>absurd z (by simp)
  have B7:=B6.setV (i:=j) (by simpa using lt2) (rep.mono (q2d sub6));have B8:=B7.setN (i:=i) (y:=none) (by simpa using lt);refine q0q (v:= .ref a) I5 hN hi (.inl hl) rfl (λ s6 I6=>?_) (.inr hl);refine wpAny_execs_cons (wpAny_Assign_Name (q2c (X:=mk X a) (v:= .ref a) (qFE I6) hi (.inl hl) ?_ hd hcd λ u r=>?_) rfl)
  ·rw[Q8 (by rw[B'.slen];exact lt)]
  refine q0q (v:= .ref a) I6 hN hj hy r (λ s7 I7=>?_) hfy;refine wpAny_execs_nil ?_;refine name_goes I7 hN hi hl λ s8 I8=>?_;refine⟨_,.nx,_,_,_,?_,B8,I8,trivial⟩;show (if sub c' c=true then _ else _)=_;rw[if_pos hsb,qDw _ _ _ _ _ _ hij]
end
end Snd
namespace Snd
open PySem PySem.Spec PyProof.Rows L2 Ev PySem.W PySem.Builtin PySem.Builtin.ObjectAttr
variable {x C:Addr}
structure ExOk (K:PySem.W.Frag) (C:Addr):Prop where
 ga:findIn K (.ref C) "__getattribute__" = some (some (.builtin "BaseException.__getattribute__"))
 gh:findIn K (.ref C) "__getattr__" = some none
 bex:mroIn K C (.type "BaseException")=some true
 own:findIn K (.ref C) "__class__" = some (some (.builtin "object.__class__"))
 spc:specialIn K (.builtin "object.__class__") "__get__" = some (some (.builtin "getset_descriptor.__get__"))
 tk:takesIn K (.builtin "object.__class__")=some true
 mro:mroIn K C (.type "object")=some true
 cls:isClsIn K C=true
section
variable {M:Model}{K:PySem.W.Frag}{h:Heap}
theorem q4n (q:q3b x C h):PySem.W.Looks M h (typeOf (.ref x)) (.ref C):=by obtain⟨o,e1,e2⟩:=q;exact e2▸(PySem.W.Looks.ld e1).andThen .now
theorem qDx (Z:K.In h) (o:ExOk K C):PySem.W.Looks M h (find (.ref x) (.ref C) "__class__") (.bind (.builtin "getset_descriptor.__get__") (.builtin "object.__class__")):=by have z1:=looks_findIn (M:=M) Z o.own;have z2:PySem.W.Looks M h (getOf (some (Value.builtin "object.__class__"))) (some (.builtin "getset_descriptor.__get__")):=looks_specialIn Z o.spc;have z3:=looks_takesIn (M:=M) Z o.tk;refine z1.andThen (z2.andThen ((show PySem.W.Looks M h (dataDescriptor? (some (.builtin "object.__class__")) (some (.builtin "getset_descriptor.__get__"))) (some (.builtin "getset_descriptor.__get__",.builtin "object.__class__")) from z3.andThen .now).andThen ?_));exact PySem.W.Looks.tag .now
end
section
variable {prog:Program}{w:World}{A:Around}{E:Value->Shared->Prop}{s:Shared}{K:PySem.W.Frag}
theorem qGd {tp:Value}{R:Result->Shared->Prop}(Z:K.In s.heap) (o:ExOk K C) (q:q3b x C s.heap) (hR:R (.ok (.ret (.ref C))) s):codeAny (model prog w) A (.call (.builtin "getset_descriptor.__get__") ⟨[.builtin "object.__class__",.ref x,tp],[]⟩) R s:=by
 obtain⟨hp,ge,dr,tk,os⟩:=s;have z0:=q4n (M:=model prog w) (show q3b x C hp from q);have z4:=looks_mroIn (M:=model prog w) (show K.In hp from Z) o.mro;refine codeAny_call_builtin KF.slot_gs.plain KF.entry_gs (KF.slot_gs.check _ _ _ _ _ _ _ _ KF.type_class (KF.args_gs _ _ _) (show wpAny _ _ (Builtin.Getset_descriptor.descrGet _) _ _ _ from ?_));unfold Builtin.Getset_descriptor.descrGet;rw[dga_obj];refine wpAny_bind (wpAny_pure ?_);unfold Builtin.Getset_descriptor.descrGetter Builtin.Getset_descriptor.descrCheckInstance Builtin.Getset_descriptor.descrNameAndClass isInstance;simp only[KF.owner_class]
 repeat lk
 refine⟨Code.quiet_builtin _ (by decide +kernel),codeAny_builtin KF.entry_class ?_⟩;unfold Builtin.«object.__class__»;unfold shownTypeOf
 repeat lk
 exact hR
theorem qBs {nv:Value}{Q:Unit->Shared->Prop}(Z:K.In s.heap) (o:ExOk K C) (q:q3b x C s.heap) (hq:Q () s):wpAny (model prog w) A (checkBuiltinCall "BaseException.__getattribute__" ⟨[.ref x,nv],[]⟩) Q E s:=by
 obtain⟨hp,ge,dr,tk,os⟩:=s;have z0:=q4n (M:=model prog w) (show q3b x C hp from q);have z4:=looks_mroIn (M:=model prog w) (show K.In hp from Z) o.bex;have k1:builtinKind "BaseException.__getattribute__" = some .slot:=by decide +kernel
 have k2:splitId "BaseException.__getattribute__" = some ("BaseException", "__getattribute__"):=by decide +kernel
 have k3:=PySem.F.args_bexc_ga (.ref x) nv;unfold argsOk at k3;unfold checkBuiltinCall;simp only[k1,k2];refine wpAny_bind ?_;unfold isInstance
 repeat lk
 exact hq
theorem qBt {Q:Option Value->Shared->Prop}(Z:K.In s.heap) (o:ExOk K C) (q:q3b x C s.heap) (hq:Q (some (.ref C)) {s with toks:=s.toks+1}):wpAny (model prog w) A (getAttr? (.ref x) "__class__") Q E s:=by
 obtain⟨hp,ge,dr,tk,os⟩:=s;have z0:=q4n (M:=model prog w) (show q3b x C hp from q);have z1:=looks_findIn (M:=model prog w) (show K.In hp from Z) o.ga;have z2:=qDx (M:=model prog w) (x:=x) (show K.In hp from Z) o;have z3:=looks_findIn (M:=model prog w) (show K.In hp from Z) o.gh;have nb:(onTheHeap (Value.ref C)&&Value.builtin "BaseException.__getattribute__"==Value.builtin "object.__getattribute__")=false:=by
  have:(Value.builtin "BaseException.__getattribute__"==Value.builtin "object.__getattribute__")=false:=by decide +kernel
  rw[this,Bool.and_false]
 unfold getAttr? getAttrBy? getAttrBy;refine wpAny_bind (wpAny_mkText (wpAny_bind (wpAny_attempt (wpAny_holding (wpAny_bind (z0.at (wpAny_bind (z1.at ?_))))))));dsimp only;rw[nb,if_neg (by decide)];unfold getAttrByItsOwn hookBefore;rw[if_pos (show onTheHeap (Value.ref C)=true from rfl)];refine wpAny_bind (z3.at (wpAny_bind (wpAny_attempt (wpAny_holding ?_))));show wpAny _ _ (boundAndCalled _ _ _) _ _ _;unfold boundAndCalled;refine wpAny_bind (wpAny_of_eq (PySem.F.attr_ValueError.ga.bind (.ref x)) ?_);refine wpAny_call (codeAny_call_builtin PySem.F.attr_ValueError.ga.plain PySem.F.entry_bexc_ga (qBs (s:={heap:=hp,gens:=ge,drawn:=dr,toks:=tk+1,os:=os}) Z o q ?_));unfold Builtin.«object.__getattribute__»;refine wpAny_bind (wpAny_pure (wpAny_bind (wpAny_pure (wpAny_bind (z0.at (wpAny_bind (z2.at ?_)))))));dsimp only;show wpAny _ _ (Builtin.ObjectAttr.bindTo _ _ _ _) _ _ _;show wpAny _ _ (holding [_] (call _ [_,Value.ref x,Value.ref C]) >>= ret) _ _ _;exact wpAny_bind (wpAny_holding (wpAny_call (qGd (s:={heap:=hp,gens:=ge,drawn:=dr,toks:=tk+1,os:=os}) Z o q (wpAny_pure (handed_on rfl (wpAny_pure hq))))))
end
theorem q9e {K:PySem.W.Frag}(o:ExOk K C):KitX K (.ref x) (.ref C) (q3b x C) where
 ty:=λ _ _ _ q=>q4n q
 it:=λ _ _ Z _=>by
  obtain⟨cd,hc⟩:=Option.isSome_iff_exists.mp o.cls;unfold clsIn at hc;split at hc
  ·rename_i ho;intro A' Q' E' s' k q;unfold isType;unfold loadHead;exact wpAny_bind (wpAny_loadPart (k _ _ (Z _ _ ho)) (wpAny_pure q))
  ·cases hc
 ne:=λ h tp dd its n sl Z htp=>by
  obtain⟨cd,hc⟩:=Option.isSome_iff_exists.mp o.cls;refine Bool.eq_false_iff.mpr λ q=>?_;cases Value.ref.inj (beq_iff_eq.mp q);unfold clsIn at hc;split at hc
  ·rename_i ho;cases (Z _ _ ho).symm.trans htp
  ·cases hc
 ca:=λ Z q k=>qBt Z o q k
section
variable {X:Cx}{p:Pm}{G:Nat->List D->R D}{sub:Nat->Nat->Bool}
def BI (X:Cx) (p:Pm) (sub:Nat->Nat->Bool) (b:Bi) (cv:Value):Prop :=
 ∀(E:Value->Shared->Prop) (pins:List (Addr×Obj)) (s:Shared) (σ:L2.St) (H:Hp) (os:List (List Addr)) (d r:D) (v:V) (u:Value),Inv X pins σ H s->RelV v u->RepB p H (fz os.flatten H) d v->biD sub b [d] = .ok r->
  wpAny (model X.prog X.w) X.A (call (.builtin "isinstance") [u,cv]) (EP (X.wish E) pins σ (Fin p os.flatten H r)) E s
theorem q4o {K:PySem.W.Frag}{t:Value}:kitOne K t t=some true:=by unfold kitOne;rw[if_pos (beq_self_eq_true t)]
theorem q31 {E:Value->Shared->Prop}{pins:List (Addr×Obj)}{s:Shared}{σ:L2.St}{H:Hp}{O:List Addr}(I:Inv X pins σ H s) (b:Bool) (tk:Nat):EP (X.wish E) pins σ (Fin p O H (.bl b)) (.bool b) {s with toks:=tk} :=
 ⟨.bl b,H,(I.wish E).tok tk,rfl,q0M rfl⟩
theorem qJY (hK:p.K=X.K):BI X p sub .isTup (.type "tuple"):=by
 intro E pins s σ H os d r v u I rv q h;cases d<;>first
  |(cases h;done)
  |skip
 cases h;obtain⟨a,vs,rfl,s1,z,r1⟩:=q;cases rv;obtain⟨its,rv,⟨o,e,c,_⟩,_⟩:=I.tuple (hK▸q0Z.sqT s1);exact kia_one kitx_tuple I.kIn ⟨o,e,c⟩ q4o (λ z=>nomatch z) λ tk=>q31 I _ tk
theorem qJZ (hK:p.K=X.K):BI X p sub .isLst (.type "list"):=by
 intro E pins s σ H os d r v u I rv q h;cases d<;>first
  |(cases h;done)
  |skip
 cases h;obtain⟨a,vs,rfl,s1,r1⟩:=q;cases rv;obtain⟨its,rv,⟨o,n,e,c,_⟩,_⟩:=I.list (hK▸s1);exact kia_one kitx_list I.kIn ⟨o,e,c⟩ q4o (λ z=>nomatch z) λ tk=>q31 I _ tk
theorem qJa:BI X p sub .isInt (.type "int"):=by
 intro E pins s σ H os d r v u I rv q h;cases d<;>first
  |(cases h;done)
  |skip
 cases h;cases (show v=_ from q);obtain⟨t,rfl⟩:=rv;exact kia_one kitx_int I.kIn trivial q4o (λ z=>nomatch z) λ tk=>q31 I _ tk
theorem q7f {K:PySem.W.Frag}:kitOne K (.type "int") (.type "bool")=some false:=by
 have h1:(Value.type "int"==Value.type "bool")=false:=by decide +kernel
 have h2:kitMeta "bool" = true:=by decide +kernel
 have h3:(fastBuiltinMro "int").map (·.contains (Value.type "bool"))=some false:=by decide +kernel
 unfold kitOne kitCls subIn;rw[if_neg (by rw[h1];decide)];dsimp only;rw[if_pos h2,h3]
theorem qGe:BI X p sub .isBool (.type "bool"):=by
 intro E pins s σ H os d r v u I rv q h;cases d<;>first
  |(cases h;done)
  |skip
 ·cases h;cases (show v=_ from q);cases rv;exact kia_one kitx_bool I.kIn trivial q4o (λ z=>nomatch z) λ tk=>q31 I _ tk
 ·cases h;cases (show v=_ from q);obtain⟨t,rfl⟩:=rv;exact kia_one kitx_int I.kIn trivial q7f (λ z=>nomatch z) λ tk=>q31 I _ tk
theorem qFF {pins:List (Addr×Obj)}{s:Shared}{σ:L2.St}{H:Hp}{O:List Addr}{c:Nat}{v:V}(I:Inv X pins σ H s) (q:Rep p (fz O H) (.exc c) v):∃a C,v = .ref a/\p.cls[c]? = some C/\q3b a C s.heap:=by obtain⟨a,C,e,h1,h2⟩:=q;exact⟨a,C,e,h1,(I.hok a _ (q0Z _ _ h2)).1⟩
theorem qJb (hX:∀(c:Nat) (C:Addr),p.cls[c]? = some C->ExOk X.K C/\kitOne X.K (.ref C) (.type "ValueError")=some true):BI X p sub .isVal (.type "ValueError"):=by
 intro E pins s σ H os d r v u I rv q h;cases d<;>first
  |(cases h;done)
  |skip
 cases h;obtain⟨a,C,rfl,h1,h2⟩:=qFF I q;cases rv;obtain⟨k1,k2⟩:=hX _ C h1;exact kia_one (q9e k1) I.kIn h2 k2 (λ z=>nomatch z) λ tk=>q31 I _ tk
theorem qJc {k:Nat}{Cc:Addr}(hX:∀(c:Nat) (C:Addr),p.cls[c]? = some C->ExOk X.K C/\kitOne X.K (.ref C) (.ref Cc)=some (sub c k)):BI X p sub (.isExc k) (.ref Cc):=by
 intro E pins s σ H os d r v u I rv q h;cases d<;>first
  |(cases h;done)
  |skip
 cases h;obtain⟨a,C,rfl,h1,h2⟩:=qFF I q;cases rv;obtain⟨k1,k2⟩:=hX _ C h1;exact kia_one (q9e k1) I.kIn h2 k2 (λ z=>nomatch z) λ tk=>q31 I _ tk
theorem q4A {a:PySem.Expr}{cn:Str}{l:L}{b:Bi}{cv:Value}{q q2 pos:Pos}(hB:BI X p sub b cv) (hg:Gl X "isinstance") (hm:X.mg "isinstance" = none) (ha:SB X p G sub a l)
  (hc:∀(E:Value->Shared->Prop) (Q:Value->Shared->Prop) (pins:List (Addr×Obj)) (s:Shared) (σ:L2.St) (H:Hp),Inv X pins σ H s->Q cv s->wpAny (model X.prog X.w) X.A (eval (.Name cn q2) X.env) Q E s)
  (hst:starEach [a,.Name cn q2] X.env=[(false,eval a X.env),(false,eval (.Name cn q2) X.env)]):SE X p G sub (.Call (.Name "isinstance" q) [a,.Name cn q2] [] pos) (.bi b [l]):=by
 intro pins s σ H ρ os I R hs;refine wpAny_Call_Name_kw (q1u I hg hm boot_isinstance ?_ (by decide) (by decide));refine PyProof.Rows.callWith_builtin1 ?_ (by rw[hst];rfl) rfl;rw[hst];show wpAny _ _ (spliced ((false,eval a X.env)::backTo pos [(false,eval (.Name cn q2) X.env)])) _ _ s;refine Calls.spliced_cons (wpAny_mono (ha pins s σ H ρ os I R (q7V hs)) (λ u s1 h=>?_) (λ _ _=>q7U));obtain⟨d,v,H1,e1,I1,r1,x1,q1⟩:=h;have e0:ev G sub (.bi b [l]) ρ=biD sub b [d]:=by rw[q1P,q2G (f:=λ d=>biD sub b [d]) l ρ _ (λ _=>rfl),e1];rfl
 rw[e0] at hs |-;show wpAny _ _ (spliced ((false,eval (.Name cn q2) X.env)::[])) _ _ s1;refine Calls.spliced_cons (hc _ _ pins s1 σ H1 I1 (Calls.spliced_nil ?_));rcases q6S sub b [d] with z|⟨r,z⟩
 ·exact absurd z hs
 ·rw[z];exact wpAny_mono (hB (Er X p pins σ H (.ok r)) pins s1 σ H1 os d r v u I1 r1 q1 z) (λ w s2 h2=>qAY x1 rfl h2) λ _ _ z=>z
end
end Snd
namespace Snd
open PySem PySem.Spec PyProof.Rows L2 Ev
variable {H:Hp}{o:HO}{i:Nat}{x:Str}{pos pos' q:Pos}
theorem qGf {O:List Addr}{a:Addr}(n:H a=none):Ext (fz O H) (fz (O++[a]) (upd H a o)):=λ c u e=>by
 unfold fz at e |-;split at e
 ·cases e
 ·rename_i h;have ne:c≠a:=λ z=>by rw[z,n] at e;cases e
  rw[if_neg (by simp[h,ne]),q07 ne];exact e
theorem qAa {p:Pm}{H':Hp}(x:∀a o,H a=some o->(∀kvs,o ≠ .dK kvs)->H' a=some o):(∀d v,Rep p H d v->Rep p H' d v)/\(∀ds vs,RepL p H ds vs->RepL p H' ds vs):=by
 have rdL:∀{a:Addr}{vs:List V},SqL p.K H a vs->SqL p.K H' a vs:=λ h=>h.elim (λ r=> .inl (r.elim (λ e=> .inl (x _ _ e (λ _ z=>nomatch z))) λ⟨o,e⟩=> .inr ⟨o,x _ _ e (λ _ z=>nomatch z)⟩)) .inr;have rdT:∀{a:Addr}{vs:List V},SqT p.K H a vs->SqT p.K H' a vs:=λ h=>h.elim (λ r=> .inl (r.elim (λ e=> .inl (x _ _ e (λ _ z=>nomatch z))) λ⟨o,e⟩=> .inr ⟨o,x _ _ e (λ _ z=>nomatch z)⟩)) .inr;refine D.ind (P:=λ d=>∀v,Rep p H d v->Rep p H' d v) (Q:=λ ds=>∀vs,RepL p H ds vs->RepL p H' ds vs)
  (λ v h=>h) (λ _ v h=>h) (λ _ v h=>h) (λ _ v h=>h) (λ l ih v h=>?_) (λ l ih v h=>?_) (λ k l ihk ih v h=>?_) (λ c v h=>?_) (λ vs h=>h) (λ d ds ih1 ih2 vs h=>?_)
 ·obtain⟨a,vs,e,s,z,r⟩:=h;exact⟨a,vs,e,rdT s,z,ih _ r⟩
 ·obtain⟨a,vs,e,s,r⟩:=h;exact⟨a,vs,e,rdL s,ih _ r⟩
 ·obtain⟨a,kvs,o,e,s,q,r⟩:=h;exact⟨a,kvs,o,e,x _ _ s (λ _ z=>nomatch z),q,ih _ r⟩
 ·obtain⟨a,C,e,s,q⟩:=h;exact⟨a,C,e,s,x _ _ q (λ _ z=>nomatch z)⟩
 ·obtain⟨v,r,e,h1,h2⟩:=h;exact⟨v,r,e,ih1 _ h1,ih2 _ h2⟩
theorem qJd {p:Pm}{H':Hp}(x:∀a o,H a=some o->(∀kvs,o ≠ .dK kvs)->H' a=some o) {d:D}{v:V}(h:Rep p H d v):Rep p H' d v:=(qAa x).1 d v h
theorem q5F {p:Pm}{H Hf:Hp}{c:Addr}{o:HO}:∀{bs:List Addr}{xss:List (List D)},c∉bs->q36 p H Hf bs xss->q36 p (upd H c o) Hf bs xss
 |[],_,_,h=>h
 |b::bs,xss,n,h=>by obtain⟨xs,r,e,⟨vs,h1,h2⟩,h3⟩:=h;exact⟨xs,r,e,⟨vs,by rw[q07 λ z=>n (by simp[z])];exact h1,h2⟩,q5F (λ z=>n (Qa _ z)) h3⟩
theorem q5G {p:Pm}{Hf:Hp}{c:Addr}{x:Option Sl}{y:Option V}{as:List Addr}(n:c∉as) (h:q3c p H Hf x y as):q3c p (upd H c o) Hf x y as:=by
 cases x with
 |none=>exact h
 |some sl =>
  cases sl with
  |val d=>exact h
  |own d =>
   obtain⟨a,h1,h2,h3⟩:=h;have ne:a≠c:=λ z=>n (by rw[h2,z];simp);refine⟨a,h1,h2,?_⟩;cases d with
   |lst ds=>obtain⟨vs,q1,q2⟩:=h3;exact⟨vs,by rw[q07 ne];exact q1,q2⟩
   |dct ks ds=>obtain⟨kvs,q1,q2,q3⟩:=h3;exact⟨kvs,by rw[q07 ne];exact q1,q2,q3⟩
   |_=>exact h3
  |own2 xss =>
   obtain⟨a,bs,h1,h2,h3,h4⟩:=h;subst h2;exact⟨a,bs,h1,rfl,by rw[q07 λ z=>n (by simp[z])];exact h3,q5F (λ z=>n (Qa _ z)) h4⟩
theorem q4B {p:Pm}{H Hf:Hp}{c:Addr}{o:HO}:∀{ρ:Ev.Env}{σ:L2.St}{os:List (List Addr)},c∉os.flatten->q1I p H Hf ρ σ os->q1I p (upd H c o) Hf ρ σ os
 |[],_,_,_,_=>trivial
 |_::ρ,_,_,n,h=>by obtain⟨y1,σ',as,os',rfl,rfl,h1,h2⟩:=h;simp only[Qy,Qm,not_or] at n;exact⟨y1,σ',as,os',rfl,rfl,q5G n.1 h1,q4B n.2 h2⟩
theorem q7g {p:Pm}{H Hf:Hp}{c:Addr}{o:HO}{x:Option Sl}:∀{ρ:Ev.Env}{σ:L2.St}{os:List (List Addr)}(i:Nat) {y:Option V}{as:List Addr},q1I p H Hf ρ σ os->σ[i]? = some y->os[i]? = some as->c∈as->os.flatten.Nodup->q3c p (upd H c o) Hf x y as->
  q1I p (upd H c o) Hf (ρ.set i x) σ os
 |[],_,_,_,_,_,_,_,_,_,_,_=>trivial
 |_::ρ,_,_,0,y,as,h,e1,e2,hc,nd,q=>by obtain⟨y1,σ',as',os',rfl,rfl,h1,h2⟩:=h;simp at e1 e2;subst e1 e2;simp only[Qy] at nd;exact⟨_,σ',_,os',rfl,rfl,q,q4B (λ z=>(Qz.mp nd).2.2 c hc c z rfl) h2⟩
 |_::ρ,_,_,i+1,y,as,h,e1,e2,hc,nd,q=>by obtain⟨y1,σ',as',os',rfl,rfl,h1,h2⟩:=h;simp only[Qy] at nd;have m:c∈os'.flatten:=QU.mpr ⟨as,Qk (by simpa using e2),hc⟩;exact⟨y1,σ',as',os',rfl,rfl,q5G (λ z=>(Qz.mp nd).2.2 c z c m rfl) h1,q7g i h2 (by simpa using e1) (by simpa using e2) hc (Qz.mp nd).2.1 q⟩
theorem Bd.write {p:Pm}{H0:Hp}{O0:List Addr}{ρ:Ev.Env}{σ:L2.St}{os:List (List Addr)}{sl:Sl}{y:Option V}{as:List Addr}{c:Addr}(b:Bd p H0 O0 ρ σ os H) (e1:σ[i]? = some y) (e2:os[i]? = some as) (hc:c∈as)
  (q:q3c p (upd H c o) (fz (os++[O0]).flatten H) (some sl) y as):Bd p H0 O0 (ρ.set i (some sl)) σ os (upd H c o):=by
 have mo:c∈os.flatten:=QU.mpr ⟨as,Qk e2,hc⟩;have m:c∈(os++[O0]).flatten:=by rw[q0d];exact Qv _ mo
 have e3:(os++[O0])[i]? = some as:=by rw[QI (Qc.mp e2).1];exact e2
 refine⟨⟨b.rel.nd,λ a ha=>?_,?_⟩,by simp[b.len],by simp[b.slen],λ a u e=>?_,b.new⟩
 ·by_cases h:a=c
  ·subst h;exact⟨_,q0B⟩
  ·obtain⟨u,e⟩:=b.rel.there a ha;exact⟨u,by rw[q07 h];exact e⟩
 ·rw[q45 m];exact q7g i b.rel.slots e1 e3 hc b.rel.nd q
 ·rw[q07 λ z=>by rw[z,b.new c mo] at e;cases e];exact b.ext a u e
theorem Bd.at {p:Pm}{H0:Hp}{O0:List Addr}{ρ:Ev.Env}{σ:L2.St}{os:List (List Addr)}{H:Hp}{i:Nat}{x:Option Sl}(b:Bd p H0 O0 ρ σ os H) (h:ρ[i]? = some x):∃y as,σ[i]? = some y/\os[i]? = some as/\q3c p H (fz (os++[O0]).flatten H) x y as:=by
 obtain⟨y,as,e1,e2,h1⟩:=q3e b.rel.slots h;have lt:i<os.length:=by rw[b.len];exact (Qc.mp h).1
 rw[QI lt] at e2;exact⟨y,as,e1,e2,h1⟩
section
variable {X:Cx}{p:Pm}{G:Nat->List D->R D}{sub:Nat->Nat->Bool}
theorem q9f {α:Type}{H0:Hp}{O0:List Addr}{pins:List (Addr×Obj)}{ρ:Ev.Env}{σ:L2.St}{os:List (List Addr)}{H1:Hp}{r:R α}{f:α->RS}{e:Value}{s':Shared}(B:Bd p H0 O0 ρ σ os H) (x:Ext H H1) (h:Er X p pins σ H1 r e s'):Es X p H0 O0 pins (r.go ρ f) e s':=by obtain⟨c,e1,m⟩:=h;exact⟨c,ρ,σ,os,H,by rw[e1];rfl,B,m.ext x⟩
theorem qGg {es:List PySem.Expr}{ls:List L}{pos2:Pos}(hN:X.N.Nodup) (hi:X.N[i]? = some x) (hx:Loc X.env.scope x) (hf:X.fn x=true\/X.env.scope.names.lookup x=some .local) (h:SA X p G sub es ls) :
  SS X p G sub (.Assign [.Name x pos'] (.List es pos2) pos) (.setO i (.lst ls)):=by
 intro H0 O0 E hp pins s σ H ρ os I B hs hE;have e0:ex G sub (.setO i (.lst ls)) ρ=(ev G sub (.lst ls) ρ).go ρ λ d=> .ok (ρ.set i (some (.own d))) .nx:=rfl;rw[e0,q7H] at hs hE |-;have ns:=q0A (q1t hs);refine wpAny_Assign_Name (wpAny_List_spliced (wpAny_mono (h pos2 pins s σ H ρ _ I B.rel ns) (λ us s1 ⟨ds,vs,H1,e1,I1,r1,x1,q1⟩=>?_) (λ e s' z=>hE e s' (q2W B z.bind)))) rfl;rw[e1,q00] at hs hE |-;have z:ds.length<=big:=by
  by_cases z:ds.length<=big
  ·exact z
  ·rw[if_neg z] at hs;exact absurd rfl hs
 rw[if_pos z];have z1:vs.length<=sizeLine:=Qn (q1.length▸z) q0a;refine⟨by rw[<-r1.length];exact z1,?_⟩;have hfr:H1 s1.heap.objs.size=none:=I1.hok.fresh (Qi _);have lt:i < ρ.length:=by rw[<-B.slen,I.len];exact (Qc.mp hi).1
 have B1:=B.mono x1;have I2:Inv X pins σ (upd H1 s1.heap.objs.size (.lst vs)) {s1 with heap:=s1.heap.push {cls:= .type "list",data:= .seq us.toArray}}:=I1.lnew (t':=s1.toks) r1 z1;refine q0q (v:= .ref s1.heap.objs.size) I2 hN hi hx rfl (λ s3 I3=>⟨_,.nx,_,_,_,rfl,B1.setO lt (Ext.upd hfr) (as:=[s1.heap.objs.size]) (by simp) (λ a ha=>?_) (λ a ha=>?_) ⟨_,rfl,rfl,vs,q0B,q1.mono (qGf hfr)⟩,I3,trivial⟩) hf
 ·rw[Qt.mp ha];exact hfr
 ·rw[Qt.mp ha];exact⟨_,q0B⟩
theorem qJe {a:PySem.Expr}{l:L}{ap cp:Pos}(hi:X.N[i]? = some x) (hv:Vis X.env.scope x) (hd:(x==("__debug__":Str))=false) (hcd:(x==("__classdict__":Str))=false) (ha:SE X p G sub a l)
  (hst:starEach [a] X.env=[(false,eval a X.env)]) (hline:(ap.endLine==cp.line)=true):SS X p G sub (.Expr (.Call (.Attribute (.Name x q) "append" ap) [a] [] cp) pos) (.app i l):=by
 intro H0 O0 E hp pins s σ H ρ os I B hs hE;have e0:ex G sub (.app i l) ρ=match ρ[i]? with
   |some (some (.own (.lst xs)))=>(ev G sub l ρ).go ρ λ d=>if xs.length<big then .ok (ρ.set i (some (.own (.lst (xs++[d]))))) .nx else .stuck
   |_=> .stuck:=rfl
 rw[e0] at hs hE |-;split at hs
 ·rename_i xs hρ;simp only[hρ] at hE |-;obtain⟨y,as,s1,s2,a',rfl,rfl,vs,s5,s6⟩:=B.at hρ;refine wpAny_Expr_any (wpAny_Call_method_late rfl (by rw[hst];rfl) hline rfl (q2c I hi hv s1 hd hcd λ u r=>?_)) I.quiet rfl;cases r;obtain⟨h1,h2⟩:=q7C (T := "list") (x:= .ref a') I rfl (.inl ⟨rfl,_,SqL.of s5⟩);refine⟨"list", "list.append",PySem.F.plainAttrs_list,PySem.F.slot_list_append,PySem.F.type_list_append,h1,h2,?_⟩;rw[hst];refine Calls.callWith_builtin rfl (Calls.evalArgs_plain ?_);show wpAny _ _ (spliced ((false,eval a X.env)::[])) _ _ s;refine Calls.spliced_cons (wpAny_mono (ha pins s σ H ρ _ I B.rel (q1t hs)) (λ v s3 ⟨d,x',H1,e1,I1,r1,x1,q1⟩=>Calls.spliced_nil ?_) (λ e s' z=>hE e s' (q2W B z)));rw[e1,q04] at hs hE |-;have z:xs.length<big:=by
   by_cases z:xs.length<big
   ·exact z
   ·rw[if_neg z] at hs;exact absurd rfl hs
  rw[if_pos z];have hl:=s6.length;refine wpAny_mono (q3U (X:=X.wish E) pins s3 σ H1 (.ref a') [x'] _ _ (λ z H'=>H'=upd H1 a' (.lst (vs++[x']))) (I1.wish E) rfl (.cons r1 .nil) ⟨a',vs,x',rfl,rfl,x1 _ _ s5,Qp (by lia) q0a,rfl⟩) (λ w s4 ⟨zv,H2,I2,_,eH⟩=>?_) (λ _ _ z=>z);subst eH;exact⟨_,.nx,σ,os,_,rfl,(B.mono x1).write s1 s2 (by simp) ⟨a',rfl,rfl,_,q0B,(s6.mono (q1E x1)).snoc q1⟩,I2.q2Y,trivial⟩
 ·exact absurd rfl hs
theorem qJf {j:Nat}{y:Str}{ap cp:Pos}(hN:X.N.Nodup) (hi:X.N[i]? = some x) (hx:Loc X.env.scope x) (hf:X.fn x=true\/X.env.scope.names.lookup x=some .local) (hj:X.N[j]? = some y) (hv:Vis X.env.scope y) (hd:(y==("__debug__":Str))=false) (hcd:(y==("__classdict__":Str))=false)
  (hline:(ap.endLine==cp.line)=true):SS X p G sub (.Assign [.Name x pos'] (.Call (.Attribute (.Name y q) "pop" ap) [] [] cp) pos) (.pop i j):=by
 intro H0 O0 E hp pins s σ H ρ os I B hs hE;have e0:ex G sub (.pop i j) ρ=match ρ[j]? with
   |some (some (.own (.lst xs)))=>match xs.getLast? with
     |some d=> .ok ((ρ.set j (some (.own (.lst xs.dropLast)))).set i (some (.val d))) .nx
     |none=> .stuck
   |_=> .stuck:=rfl
 rw[e0] at hs hE |-;split at hs
 ·rename_i xs hρ;simp only[hρ] at hE |-;split at hs
  ·rename_i d hlast;simp only[hlast] at hE |-;obtain⟨y',as,s1,s2,a',rfl,rfl,vs,s5,s6⟩:=B.at hρ;have hl:=s6.length;have hlast':xs[xs.length-1]? = some d:=(by rw[List.getLast?_eq_getElem?] at hlast;exact hlast);obtain⟨v,hv1,hv2⟩:=s6.get hlast';rw[hl] at hv1;have lt:i < ρ.length:=(by rw[<-B.slen,I.len];exact (Qc.mp hi).1);refine wpAny_Assign_Name (wpAny_Call_method0_late rfl hline (q2c I hj hv s1 hd hcd λ u r=>?_)) rfl;cases r;obtain⟨h1,h2⟩:=q7C (T := "list") (x:= .ref a') I rfl (.inl ⟨rfl,_,SqL.of s5⟩);refine⟨"list", "list.pop",PySem.F.plainAttrs_list,PySem.F.slot_list_pop,PySem.F.type_list_pop,h1,h2,?_⟩;refine Calls.callWith_builtin rfl (PySem.evalArgs_none ?_);refine wpAny_mono (qIQ (X:=X.wish E) pins s σ H (.ref a') [] _ _ (λ z H'=>z=v/\H'=upd H a' (.lst vs.dropLast)) (I.wish E) rfl .nil ⟨a',vs,v,rfl,rfl,s5,hv1,rfl,rfl⟩) (λ w s4 ⟨zv,H2,I2,rz,ez,eH⟩=>?_) (λ _ _ z=>z);subst ez eH;have dl:RepL p (fz (os++[O0]).flatten H) xs.dropLast vs.dropLast:=by rw[List.dropLast_eq_take,List.dropLast_eq_take,hl];exact s6.take _
   have B2:Bd p H0 O0 (ρ.set j (some (.own (.lst xs.dropLast)))) σ os (upd H a' (.lst vs.dropLast)):=B.write s1 s2 (by simp) ⟨a',rfl,rfl,_,q0B,dl⟩;have m:a'∈(os++[O0]).flatten:=(by rw[q0d];exact Qv _ (QU.mpr ⟨_,Qk s2,by simp⟩));exact q0q I2.q2Y hN hi hx rz (λ s5 I5=>⟨_,.nx,_,_,_,rfl,B2.setV (by simpa using lt) (by rw[q45 m];exact hv2),I5,trivial⟩) hf
  ·exact absurd rfl hs
 ·exact absurd rfl hs
theorem qBu {O:List Addr}(o:Op2) (d e r:D) (x y:V) (h:augD o d e = .ok r) (hx:Rep p (fz O H) d x) (hy:Rep p (fz O H) e y):∃r2:R2,OpR X (inplaceOp (opr o)) r2/\r2 x y H (Fin p O H r):=by
 unfold augD at h;split at h
 ·rename_i m n;cases (show x=_ from hx);cases (show y=_ from hy);exact⟨_,qGD o,q7R o h⟩
 ·cases h
theorem qDy (o:Op2) (d e:D):augD o d e = .stuck\/∃r,augD o d e = .ok r:=by
 unfold augD;split
 ·exact qBZ _ _ _
 ·exact .inl rfl
theorem qJg {e:PySem.Expr}{l:L}{op:Operator}{o:Op2}(hN:X.N.Nodup) (hi:X.N[i]? = some x) (hx:Loc X.env.scope x) (hf:X.fn x=true\/X.env.scope.names.lookup x=some .local) (ho:opOf op=some o) (he:SE X p G sub e l) :
  SS X p G sub (.AugAssign (.Name x pos') op e pos) (.aug i o l):=by
 intro H0 O0 E hp pins s σ H ρ os I B hs hE;have e0:ex G sub (.aug i o l) ρ=(getV ρ i).go ρ λ x=>(ev G sub l ρ).go ρ λ y=>(augD o x y).go ρ λ z=> .ok (ρ.set i (some (.val z))) .nx:=rfl;rw[e0] at hs hE |-;rw[q9I ho];cases hg:getV ρ i with
 |stuck=>simp only[hg] at hs;exact absurd rfl hs
 |err c=>unfold getV at hg;split at hg<;>cases hg
 |ok d =>
 simp only[hg,q04] at hs hE |-;obtain⟨v,e1,hrep⟩:=B.rel.val hg;obtain⟨m,hn,hl⟩:=I.loc;have vis:Vis X.env.scope x:=by rcases hx with k|k;exact .inl k;exact .inr (.inl k)
 obtain⟨u,r,lk⟩:=hl i x v hi e1 vis;have lt:i < ρ.length:=by rw[<-B.slen,I.len];exact (Qc.mp hi).1
 refine wpAny_AugAssign_Name ?_;have go:wpAny (model X.prog X.w) X.A (eval e X.env) (λ w s₂=>wpAny (model X.prog X.w) X.A (inplaceOp (opr o) u w) (λ r s₃=>wpAny (model X.prog X.w) X.A (storeName X.env x r) (λ _=>Gs X p H0 O0 pins ((ev G sub l ρ).go ρ λ y=>(augD o d y).go ρ λ z=> .ok (ρ.set i (some (.val z))) .nx) .next) E s₃) E s₂) E s:=by
  refine wpAny_mono (he pins s σ H ρ _ I B.rel (q1t hs)) (λ w s1 ⟨d2,y,H1,e2,I1,r1,x1,q1⟩=>?_) (λ e s' z=>hE e s' (q2W B z));rw[e2,q04] at hs hE |-;rcases qDy o d d2 with z|⟨dr,z⟩
  ·rw[z] at hs;exact absurd rfl hs
  rw[z,q04];obtain⟨r2,k,q⟩:=qBu (X:=X.wish E) (p:=p) (O:=(os++[O0]).flatten) (H:=H1) o d d2 dr v y z (hrep.mono (q1E x1)) q1;refine wpAny_mono (k pins s1 σ H1 v y u w _ (I1.wish E) r r1 q) (λ zz s2 ⟨zv,H2,I2,r2',x2,q2⟩=>?_) (λ _ _ z=>z);exact q0q I2.q2Y hN hi hx r2' (λ s3 I3=>⟨_,.nx,_,_,H2,rfl,((B.mono x1).mono x2).setV lt q2,I3,trivial⟩) hf
 rcases lk with ⟨hk,hm⟩|⟨hk,c,hc,hcell⟩
 ·exact wpAny_loadName_local I.ok.kind hk hn hm go
 ·rcases hk with hk|hk
  ·exact wpAny_loadName_cell I.ok.kind hk hc hcell go
  ·have hk:X.env.scope.names.lookup x=some .free:=hk;rcases hx with k|k<;>(rw[k] at hk;cases hk)
theorem qGh {k v:PySem.Expr}{lk lv:L}{pos2:Pos}(hN:X.N.Nodup) (hi:X.N[i]? = some x) (hx:Loc X.env.scope x) (hf:X.fn x=true\/X.env.scope.names.lookup x=some .local) (hk:SE X p G sub k lk) (hv:SE X p G sub v lv) :
  SS X p G sub (.Assign [.Name x pos'] (.Dict [some k] [v] pos2) pos) (.setO i (.dct lk lv)):=by
 intro H0 O0 E hp pins s σ H ρ os I B hs hE;have e0:ex G sub (.setO i (.dct lk lv)) ρ=(ev G sub (.dct lk lv) ρ).go ρ λ d=> .ok (ρ.set i (some (.own d))) .nx:=rfl;rw[e0,qIg] at hs hE |-;have ns:=q0A (q1t hs);have hn:H s.heap.objs.size=none:=I.hok.fresh (Qi _);have lt:i < ρ.length:=by rw[<-B.slen,I.len];exact (Qc.mp hi).1
 have I1:=I.laid (a:=s.heap.objs.size) (o:= .dK []) (h':=s.heap.push {cls:= .type "dict",data:= .dict #[]}) (t':=s.toks) (λ _ _ q=>Heap.get?_push_of_some _ q) (Qi _) (qDK s.heap I.big);have x0:Ext H (upd H s.heap.objs.size (.dK [])):=Ext.upd hn;have B1:=B.mono x0;refine wpAny_Assign_Name (wpAny_Dict_walk (knd:=q0g X.prog X.w) rfl rfl (by simp) (by simp) (pairTrees_cons_walk (wpAny_mono (hk pins _ σ _ ρ _ I1 B1.rel ns) (λ u s1 ⟨d1,y1,H1,e1,I1',r1,x1,q1⟩=>?_) (λ e s' z=>hE e s' (q9f B x0 z.bind))))) rfl;rw[e1,q00] at hs hE |-;refine wpAny_mono (hv pins s1 σ H1 ρ _ I1' (B1.rel.ext x1) (q0A (q1t hs))) (λ u2 s2 ⟨d2,y2,H2,e2,I2,r2,x2,q2⟩=>?_) (λ e s' z=>hE e s' (q9f B (x0.trans x1) z.bind));rw[e2,q00] at hs hE |-;refine pairTrees_nil_walk ?_;cases d1<;>first
  |exact absurd rfl hs
  |skip
 rename_i n;cases (show y1=_ from q1);have hp2:H2 s.heap.objs.size=some (.dK []):=x2 _ _ (x1 _ _ q0B);obtain⟨z,hd,vs0,r0,dd⟩:=qFm I2.hok hp2;cases r0;obtain⟨rs,c,rk⟩:=q5g (P:=X.prog) (w:=X.w) (kvs:=[(Sum.inl n,y2)]) (ws:=[(u,u2)]) (.cons ⟨r1,r2⟩ .nil);refine⟨rs,c,dd,λ h' dd' hsb=>?_⟩;have he:∃q,h'.get? s.heap.objs.size=some q:=let ⟨q,_,_,hq,_⟩:=dd';⟨q,hq⟩;have hz:(qEs [] [((Sum.inl n:Key),y2)]).length<=sizeLine:=by rw[sizeLine_eq];show 1<=_;decide
 have I3:Inv X pins σ (upd H2 s.heap.objs.size (.dK [(Sum.inl n,y2)])) {s2 with heap:=h',toks:=s2.toks+[(u,u2)].length}:=q8N I2 (by rw[hp2];exact True.intro) hsb he (qEr hz hd (rk.merge .nil) dd');have xt:Ext H (upd H2 s.heap.objs.size (.dK [(Sum.inl n,y2)])):=λ a o e=>by rw[q07 (q08 e hn)];exact x2 _ _ (x1 _ _ (x0 _ _ e))
 refine q0q (v:= .ref s.heap.objs.size) I3 hN hi hx rfl (λ s3 I4=>⟨_,.nx,_,_,_,rfl,B.setO lt xt (as:=[s.heap.objs.size]) (by simp) (λ a ha=>?_) (λ a ha=>?_) ⟨_,rfl,rfl,_,q0B,rfl,y2,[],rfl,qJd ?_ q2,rfl⟩,I4,trivial⟩) hf
 ·rw[Qt.mp ha];exact hn
 ·rw[Qt.mp ha];exact⟨_,q0B⟩
 ·intro a o e nd;unfold fz at e |-;split at e
  ·cases e
  ·rename_i h;have ne:a≠s.heap.objs.size:=λ z=>by rw[z,hp2] at e;exact nd _ (QQ.inj e).symm
   rw[if_neg λ m=>(Qm.mp m).elim h λ z=>ne (Qt.mp z),q07 ne];exact e
theorem qBv {Hf:Hp}{n:Int}{y:D}{v:V}(hy:Rep p Hf y v):∀{kvs:List (Key×V)}{ds:List D}{r:List D×List D},(kvs.map (·.1)).Nodup->RepL p Hf ds (kvs.map (·.2))->put n y (kvs.map λ q=>keyD q.1) ds = .ok r->
  r.1=(putK kvs (.inl n) v).map (λ q=>keyD q.1)/\RepL p Hf r.2 ((putK kvs (.inl n) v).map (·.2))
 |[],ds,r,_,h,e=>by cases (show ds=[] from by cases ds with|nil=>rfl|cons _ _=>obtain⟨_,_,z,_⟩:=h;cases z);cases e;exact⟨rfl,v,[],rfl,hy,rfl⟩
 |(k,w)::t,ds,r,nd,h,e=>by
  cases ds with
  |nil=>cases (show (w::t.map (·.2))=[] from h)
  |cons d1 ds =>
   obtain⟨v0,r',q,h1,h2⟩:=h;injection q with q1 q2
   subst q1 q2;have nd':k∉t.map (·.1)/\(t.map (·.1)).Nodup:=QD.mp nd;cases k with
   |inr x=>simp[put,keyD] at e
   |inl j =>
    have e':(if j=n then R.ok (D.int j::t.map (λ q=>keyD q.1),y::ds) else (put n y (t.map λ q=>keyD q.1) ds).bind λ r=> .ok (.int j::r.1,d1::r.2)) = .ok r:=e;clear e
    by_cases c:j=n
    ·rw[if_pos c] at e';subst c;cases e';have eq:putK ((Sum.inl j,w)::t) (.inl j) v=(Sum.inl j,v)::t:=by
      unfold putK;rw[if_pos (by simp),Qx,if_pos rfl];congr 1;have:∀q∈t,(if q.1=(Sum.inl j:Key) then (q.1,v) else q)=q:=λ q hq=>if_neg λ z=>nd'.1 (Qq.mpr ⟨q,hq,z⟩)
      conv=>rhs;rw[<-List.map_id t]
      exact List.map_congr_left λ q hq=>this q hq
     rw[eq];exact⟨rfl,v,_,rfl,hy,h2⟩
    ·rw[if_neg c] at e';cases e2:put n y (t.map λ q=>keyD q.1) ds with
     |ok r2 =>
      rw[e2,q00] at e';cases e';obtain⟨g1,g2⟩:=qBv hy nd'.2 h2 e2;have eq:putK ((Sum.inl j,w)::t) (.inl n) v=(Sum.inl j,w)::putK t (.inl n) v:=by
       unfold putK;have c':¬((Sum.inl j:Key)=Sum.inl n):=λ z=>c (Sum.inl.inj z);rw[Q0];simp only[c',decide_false,Bool.false_or];split
       ·rw[Qx,if_neg c']
       ·rfl
      rw[eq];exact⟨by rw[Qx,<-g1];rfl,w,_,rfl,h1,g2⟩
     |err c=>rw[e2] at e';cases e'
     |stuck=>rw[e2] at e';cases e'
theorem qBw (n:Int) (y:D):∀(ks vs:List D),put n y ks vs = .stuck\/∃r,put n y ks vs = .ok r
 |[],[]=> .inr ⟨_,rfl⟩
 |[],_::_=> .inl rfl
 |k::ks,[]=>by cases k<;>exact .inl rfl
 |k::ks,v::vs=>by
  cases k<;>first
   |exact .inl rfl
   |(unfold put
     split
     ·exact .inr ⟨_,rfl⟩
     ·rcases qBw n y ks vs with z|⟨r,z⟩
      ·rw[z];exact .inl rfl
      ·rw[z];exact .inr ⟨_,rfl⟩)
theorem qDz {P:Program}{w:World}{h:Heap}{a:Addr}{kvs:List (Key×V)}(ok:HOk P w H h) (e:H a=some (.dK kvs)):(kvs.map (·.1)).Nodup:=by
 obtain⟨z,hd,vs,rel,_,_,_,_,_,_,_,_,nd⟩:=qFm ok e;have:∀{l:List (Key×V)}{m:List (Key×Value)},KV l m->l.map (·.1)=m.map (·.1):=by
  intro l m r;unfold KV at r
  induction r with
  |nil=>rfl
  |cons h t ih=>rw[Qx,Qx,ih,h.1]
 rw[this rel];exact nd
theorem qJh {k v:PySem.Expr}{lk lv:L}(hu:X.A.units+64<cLine) (hi:X.N[i]? = some x) (hvs:Vis X.env.scope x) (hd:(x==("__debug__":Str))=false) (hcd:(x==("__classdict__":Str))=false) (hk:SE X p G sub k lk) (hv:SE X p G sub v lv)
  (hsw:swapsWith v (some (.Subscript (.Name x q) k pos')) pos.line X.env=pure false):SS X p G sub (.Assign [.Subscript (.Name x q) k pos'] v pos) (.put i lk lv):=by
 intro H0 O0 E hp pins s σ H ρ os I B hs hE;have e0:ex G sub (.put i lk lv) ρ=match ρ[i]? with
   |some (some (.own (.dct ks vs)))=>(ev G sub lv ρ).go ρ λ y=>(ev G sub lk ρ).go ρ λ x=>match x with
     | .int n=>if ks.length<big then (put n y ks vs).go ρ λ r=> .ok (ρ.set i (some (.own (.dct r.1 r.2)))) .nx else .stuck
     |_=> .stuck
   |_=> .stuck:=rfl
 rw[e0] at hs hE |-;split at hs
 ·rename_i ks ds hρ;simp only[hρ] at hE |-;obtain⟨y,as,s1,s2,a',rfl,rfl,kvs,s5,s6,s7⟩:=B.at hρ;refine wpAny_Assign_Subscript (wpAny_mono (hv pins s σ H ρ _ I B.rel (q1t hs)) (λ u1 t1 ⟨d1,y1,H1,e1,I1,r1,x1,q1⟩=>?_) (λ e s' z=>hE e s' (q2W B z))) hsw;rw[e1,q04] at hs hE |-;refine q2c I1 hi hvs s1 hd hcd λ u r=>?_;cases r;have B1:=B.mono x1;refine wpAny_mono (hk pins t1 σ H1 ρ _ I1 B1.rel (q1t hs)) (λ u2 t2 ⟨d2,y2,H2,e2,I2,r2,x2,q2⟩=>?_) (λ e s' z=>hE e s' (q9f B x1 z));rw[e2,q04] at hs hE |-;cases d2<;>first
   |exact absurd rfl hs
   |skip
  rename_i n;have hs:(if ks.length<big then (put n d1 ks ds).go ρ λ r=>RS.ok (ρ.set i (some (.own (.dct r.1 r.2)))) .nx else .stuck) ≠ .stuck:=hs;show wpAny _ _ _ (λ _=>Gs X p H0 O0 pins (if ks.length<big then (put n d1 ks ds).go ρ λ r=>RS.ok (ρ.set i (some (.own (.dct r.1 r.2)))) .nx else .stuck) Flow.next) _ _
  by_cases z:ks.length<big
  ·rw[if_pos z] at hs |-;rcases qBw n d1 ks ds with w|⟨r,w⟩
   ·rw[w] at hs;exact absurd rfl hs
   rw[w,q04];cases (show y2=_ from q2);have x12:=x1.trans x2;have h5:H2 a'=some (.dK kvs):=x12 _ _ s5;subst s6;obtain⟨g1,g2⟩:=qBv (v:=y1) (q1.mono (q1E x2)) (qDz I2.hok h5) (s7.mono (q1E x12)) w;have hl:kvs.length<sizeLine:=Qp (by simpa using z) q0a;refine qB1 (A:=X.A) (by lia) I2 (DPut.k (k:= .inl n) h5 hl) r2 r1 λ t3 I3=>?_;exact⟨_,.nx,σ,os,_,rfl,(B.mono x12).write s1 s2 (by simp) ⟨a',rfl,rfl,_,q0B,g1,g2⟩,I3,trivial⟩
  ·rw[if_neg z] at hs;exact absurd rfl hs
 ·exact absurd rfl hs
end
end Snd
namespace Snd
open PySem PySem.Spec PyProof.Rows L2 Ev
section
variable {X:Cx}{p:Pm}{G:Nat->List D->R D}{sub:Nat->Nat->Bool}
theorem qBx {tg iter:PySem.Expr}{sc:Scope}{q pos:Pos}{ts:List Str}{it:Addr}{fp:List Addr}{tn:Nat->Heap->Prop}{J:It}{pins:List (Addr×Obj)}{s2:Shared}{σ:L2.St}{H2:Hp}{os:List (List Addr)}
  {ds:List D}{vs:List V}{cl:List (Str×Addr)}{E:Value->Shared->Prop}{RR:Value->Addr->Result->Shared->Prop}(hc:X.calm=true) (S:ScOk X sc ts) (hcl1:∀y c,cl.lookup y=some c->X.env.cells.lookup y=some c)
  (hcl2:∀x∈sc.names,x.2 = .free->∃c,cl.lookup x.1=some c)
  (hG:∀s2 H2 cl C fp,SGc (cxC X s2 H2 sc cl C (inN ts X.N) fp) p tg 0 ts.length)
  (I2:Inv X pins σ H2 s2) (T:Turn X.prog X.w X.K tg J fp it tn) (st2:tn 0 s2.heap) (f2:∀b∈fp,FpOk X pins H2 b) (rep:RepL p (fz os.flatten H2) ds vs) (wk:Wk J H2 vs) (hbig:ds.length<=1000)
  (hRR:∀D C s' H' bs,Inv X pins σ H' s'->Ext H2 H'->H' D=some (.lst (bs.map V.ref))->bs.length=ds.length->(D::bs).Nodup->(∀b∈D::bs,H2 b=none)->(∀b∈bs,H' b=some (.lst []))->(∃m,s'.heap.Ns C m)->FpOk X pins H' C->RR (.ref D) C (.ok .next) s') :
  wpAny (model X.prog X.w) X.A (newList []) (λ acc s3=>wpAny (model X.prog X.w) X.A (newFunctionEnv sc X.env.globals cl [] X.env.qual none .none (some X.env)) (λ cenv s4 =>
   codeAny (model X.prog X.w) X.A (.compStart (.ListComp (.List [] q) [⟨tg,iter,[],0⟩] sc pos) 0 (.ref it) acc {cenv with scope:=relabel sc X.env}) (RR acc cenv.locals) s4) E s3) E s2:=by
 refine wpAny_newObj_type (wpAny_newFunctionEnv S.cell (by intro y hy;simp at hy) (λ h1 hns1 hsb1=>?_) S.kind);dsimp only at hns1 hsb1 |-;generalize hH2:s2.heap.push {cls:= .type "list",dict:=none,data:= .seq ([]:List Value).toArray}=HH at hns1 hsb1 |-;have hC:HH.objs.size=s2.heap.objs.size+1:=by rw[<-hH2,Heap.size_push]
 rw[hC] at hns1 hsb1 |-;have kp:∀b o,s2.heap.get? b=some o->h1.get? b=some o:=λ b o e=>hsb1.extBut b o (QH (Jg (Heap.lt_size e))) (Heap.get?_push_of_some _ (hH2▸Heap.get?_push_of_some _ e));have hD:h1.get? s2.heap.objs.size=some {cls:= .type "list",data:= .seq ([]:List Value).toArray}:=hsb1.extBut _ _ (QH (Q7 _)) (Heap.get?_push_of_some _ (hH2▸Heap.get?_push_size _ rfl));generalize hs4:({s2 with heap:=h1,toks:=s2.toks+([]:List (Str×Value)).length}:Shared)=s4;have ho:∀b∈fp,∃o,s2.heap.get? b=some o:=λ b hb=>let ⟨o,e,_⟩:=T.obj 0 _ st2 b hb;⟨o,e⟩;have I4:Inv (cxC X s2 H2 sc cl (s2.heap.objs.size+1) (inN ts X.N) fp) [] (Qe ts.length none++σ) (upd H2 s2.heap.objs.size (.lst [])) s4:=by rw[<-hs4];exact q7T I2 S hcl1 hcl2 f2 ho ⟨_,hns1⟩ kp hD
 have st4:tn 0 s4.heap:=T.keep _ _ _ st2 λ b hb o e=>by rw[<-hs4];exact kp b o e
 have fr:H2 s2.heap.objs.size=none:=I2.hok.fresh (Qi _);have stat:∀{H':Hp},(∀b∈fp,H' b=none)->∀b∈fp,FpOk (cxC X s2 H2 sc cl (s2.heap.objs.size+1) (inN ts X.N) fp) [] H' b:=λ {H'} hn b hb=>by
  refine⟨hn b hb,?_,λ hm=>?_,.inl hb,λ x c h=>(f2 b hb).2.2.2.2.1 x c (hcl1 _ _ h),λ p hp=>absurd (show p∈([]:List (Addr×Obj)) from hp) (by simp)⟩
  ·obtain⟨o,e⟩:=ho b hb;exact QH (Jg (Heap.lt_size e))
  ·rcases Qf.mp (I2.q3R b hm) with z|z
   ·exact (f2 b hb).2.1 z
   ·exact (f2 b hb).2.2.1 z
 have hlen:ds.length=vs.length:=rep.length;have loop:codeAny (model X.prog X.w) X.A (.compLoop (.ListComp (.List [] q) [⟨tg,iter,[],0⟩] sc pos) 0 (.ref it) (.ref s2.heap.objs.size) (compEnvC sc cl (s2.heap.objs.size+1) X.env)) (RR (.ref s2.heap.objs.size) (s2.heap.objs.size+1)) s4:=by
  refine q4c (λ n s'=>∃i σt H' bs,Inv (cxC X s2 H2 sc cl (s2.heap.objs.size+1) (inN ts X.N) fp) [] (σt++σ) H' s'/\σt.length=ts.length/\tn i s'.heap/\(∀b∈fp,H' b=none)/\Ext H2 H'/\H' s2.heap.objs.size=some (.lst (bs.map V.ref))/\
   (s2.heap.objs.size::bs).Nodup/\(∀b∈bs,H2 b=none/\H' b=some (.lst []))/\bs.length=i/\n=ds.length-i/\i<=ds.length) ?_ ds.length
   ⟨0,Qe ts.length none,upd H2 s2.heap.objs.size (.lst []),[],I4,by simp,st4,λ b hb=>?_,Ext.upd fr,q0B,by simp,λ b hb=>absurd hb (by simp),rfl,by simp,QM _⟩
  ·rintro n s5 ⟨i,σt,H5,bs,I5,hσ,st5,fr5,x5,hDs,nd5,bs5,lb5,rfl,hi5⟩
   by_cases hlt:i<ds.length
   ·refine wpAny_mono (T.item (cxC X s2 H2 sc cl (s2.heap.objs.size+1) (inN ts X.N) fp) rfl rfl rfl hc i [] s5 _ H5 (λ _ _=>False) I5 (stat fr5) st5 (wk.go i H5 x5 (hlen▸hlt))) (λ r s6 ⟨u,hr,h6⟩=>?_) (λ _ _ z=>z);subst hr;refine wpAny_mono h6 (λ _ s7 ⟨x,H7,I7,r7,y7,st7,fr7⟩=>?_) (λ _ _ z=>z);obtain⟨rfl,hx⟩:=wk.yld i H5 x H7 x5 (hlen▸hlt) y7;obtain⟨v',hv',rv'⟩:=rep.get (i:=i) (d:=ds[i]) (by simp[hlt]);rw[hx] at hv';cases hv';have I7':=I7.pinned (stat fr7) (T.obj _ _ st7);refine wpAny_mono (hG s2 H2 cl (s2.heap.objs.size+1) fp (λ _ _=>False) _ s7 σt σ H7 (fz os.flatten H2) ds[i] [ds[i]] x u I7' hσ r7 (q0Z.trans x5) rv' rfl) (λ _ s8 ⟨vs8,rp8,hl8,I8⟩=>?_) (λ _ _ z=>z);refine wpAny_tests_nil ?_;rw[if_pos rfl];refine wpAny_List_spliced (Calls.spliced_nil ⟨QM _,?_⟩);have fr8:H7 s8.heap.objs.size=none:=I8.hok.fresh (Qi _);have I9:=I8.lnew (t':=s8.toks) (ys:=[]) (its:=[]) .nil (QM _);have neD:s2.heap.objs.size≠s8.heap.objs.size:=q08 hDs fr8;have hD9:upd H7 s8.heap.objs.size (.lst []) s2.heap.objs.size=some (.lst (bs.map V.ref)):=(by rw[q07 neD];exact hDs);refine wpAny_mono (q3U (X:=cxC X s2 H2 sc cl (s2.heap.objs.size+1) (inN ts X.N) fp) _ _ _ _ (.ref s2.heap.objs.size) [.ref s8.heap.objs.size] (.ref s2.heap.objs.size) [.ref s8.heap.objs.size] (λ z H'=>H'=upd (upd H7 s8.heap.objs.size (.lst [])) s2.heap.objs.size (.lst (bs.map V.ref++[.ref s8.heap.objs.size]))) I9 rfl (.cons rfl .nil)
     ⟨_,bs.map V.ref,.ref s8.heap.objs.size,rfl,rfl,hD9,?_,rfl⟩) (λ _ s11 h11=>?_) (λ _ _ z=>z)
    ·rw[Qh,lb5,sizeLine_eq];exact Qp hlt (Qn hbig (by decide))
    obtain⟨_,H11,I11,_,rfl⟩:=h11;have k1:tn (i+1) s11.heap:=T.keep _ _ _ st7 λ b hb o e=>(I11.pin (b,o) (Qj _ (Qj _ (q1d hb e)))).1;have k2:∀b∈fp,upd (upd H7 s8.heap.objs.size (.lst [])) s2.heap.objs.size (.lst (bs.map V.ref++[.ref s8.heap.objs.size])) b=none:=λ b hb=>by obtain⟨o,e,d⟩:=T.obj _ _ st7 b hb;exact (I11.pin (b,o) (Qj _ (Qj _ (q1d hb e)))).2.1
    have nb:s8.heap.objs.size∉bs:=λ z=>by rw[(bs5 _ z).2] at fr8;cases fr8
    have nd':=QD.mp nd5;refine⟨ds.length-(i+1),by lia,i+1,vs8.map some,_,bs++[s8.heap.objs.size],I11.q14,by simpa using hl8,k1,k2,λ a o e=>?_,by rw[q0B,Jt];rfl,?_,λ b hb=>?_,by simp[lb5],rfl,hlt⟩
    ·rw[q07 (q08 e fr),q07 (q08 (x5 _ _ e) fr8)];exact x5 _ _ e
    ·refine QD.mpr ⟨λ z=>?_,Qz.mpr ⟨nd'.2,by simp,λ a ha b hb e=>?_⟩⟩
     ·rcases Qm.mp z with z|z
      ·exact nd'.1 z
      ·exact neD (Qt.mp z)
     ·rw[Qt.mp hb] at e;exact nb (e▸ha)
    ·rcases Qm.mp hb with hb|hb
     ·obtain⟨g1,g2⟩:=bs5 b hb;refine⟨g1,?_⟩;have n1:b≠s2.heap.objs.size:=λ z=>nd'.1 (z▸hb);have n2:b≠s8.heap.objs.size:=λ z=>nb (z▸hb);rw[q07 n1,q07 n2];exact g2
     ·rw[Qt.mp hb];refine⟨?_,by rw[q07 (Ne.symm neD),q0B]⟩;cases e:H2 s8.heap.objs.size with
      |none=>rfl
      |some o=>rw[x5 _ _ e] at fr8;cases fr8
   ·have ei:i=ds.length:=(by lia);refine wpAny_mono (T.done (cxC X s2 H2 sc cl (s2.heap.objs.size+1) (inN ts X.N) fp) rfl rfl rfl hc i [] s5 _ H5 (λ _ _=>False) I5 (stat fr5) st5 (by rw[ei];exact hlen▸wk.stop H5 x5)) (λ r s6 ⟨hr,I6⟩=>?_) (λ _ _ z=>z);subst hr;obtain⟨m,hm,_⟩:=I6.loc;have fC:FpOk X pins H5 (s2.heap.objs.size+1):=I2.fpOk (Nat.le_succ _) I6.free;refine hRR _ _ s6 H5 bs ?_ x5 hDs (lb5.trans ei) nd5 (λ b hb=>?_) (λ b hb=>(bs5 b hb).2) ⟨m,hm⟩ fC
    ·exact I2.qFa (ch:=fp) I6.os I6.base I6.hok I6.bare λ b hb=>⟨(f2 b hb).2.2.2.1,(f2 b hb).2.1,(f2 b hb).2.2.2.2.1,(f2 b hb).2.2.2.2.2⟩
    ·rcases Qf.mp hb with rfl|hb
     ·exact fr
     ·exact (bs5 b hb).1
  ·obtain⟨o,e⟩:=ho b hb;rw[q07 (QH (Heap.lt_size e))];exact (f2 b hb).1
 exact codeAny_compStart_list loop (T.self _ 0 _ _ _ st4 loop)
theorem q9g {H Hf:Hp}:∀{bs:List Addr},(∀b∈bs,H b=some (.lst []))->q36 p H Hf bs (Qe bs.length [])
 |[],_=>rfl
 |b::bs,h=>⟨[],Qe bs.length [],rfl,⟨[],h b (by simp),rfl⟩,q9g λ c hc=>h c (Qa _ hc)⟩
theorem qGi {i:Nat}{x t:Str}{a:PySem.Expr}{l:L}{sc:Scope}{q q2 q3 q4 pos pos' spos:Pos}(hc:X.calm=true) (S:ScOk X sc [t]) (hg:Gl X "range") (hm:X.mg "range" = none) (ha:SE X p G sub a l) (hst:starEach [a] X.env=[(false,eval a X.env)])
  (hNi:(inN [t] X.N).Nodup) (htl:sc.names.lookup t=some .local)
  (hN:X.N.Nodup) (hiN:X.N[i]? = some x) (hx:Loc X.env.scope x) (hf:X.fn x=true\/X.env.scope.names.lookup x=some .local)
  (hsw:swapsWith (.ListComp (.List [] q) [⟨.Name t q2,.Call (.Name "range" q3) [a] [] q4,[],0⟩] sc pos) (some (.Name x pos')) spos.line X.env=pure true) :
  SS X p G sub (.Assign [.Name x pos'] (.ListComp (.List [] q) [⟨.Name t q2,.Call (.Name "range" q3) [a] [] q4,[],0⟩] sc pos) spos) (.setE i l):=by
 intro H0 O0 E hp pins s σ H ρ os I B hs hE';have e0:ex G sub (.setE i l) ρ=(ev G sub l ρ).go ρ λ d=>match d with
   | .int n=>if 0<=n/\n<=1000 then .ok (ρ.set i (some (.own2 (Qe n.toNat [])))) .nx else .stuck
   |_=> .stuck:=rfl
 rw[e0] at hs hE' |-;obtain⟨cl,hcl,hcl1,hcl2⟩:=q47 (q49 I.ok S);have lt:i < ρ.length:=by rw[<-B.slen,I.len];exact (Qc.mp hiN).1
 have hG:∀s2 H2 cl C fp,SGc (cxC X s2 H2 sc cl C (inN [t] X.N) fp) p (.Name t q2) 0 [t].length:=λ s2 H2 cl C fp=>q9W hNi rfl (by show (relabel sc X.env).names.lookup t=_;rw[q0N,htl];rfl)
 rw[exec_Assign_Name_used _ _ _ _ hsw];refine wpAny_bind (wpAny_standAt (wpAny_bind ?_));show wpAny _ X.A (do let _ <-comprehension (.ListComp (.List [] q) [⟨.Name t q2,.Call (.Name "range" q3) [a] [] q4,[],0⟩] sc pos) sc X.env _ (newList []) false (eval (.Call (.Name "range" q3) [a] [] q4) X.env) (some (assign (.Name x pos') X.env))) _ _ s;have si:=q58 (X:=X) (p:=p) (G:=G) (sub:=sub) (tg:= .Name t q2) (q:=q3) (pos:=q4) hg hm (qBb ha qF9 (by rw[hst];rfl)) hst;cases hev:ev G sub l ρ with
 |stuck=>simp only[hev] at hs;exact absurd rfl hs
 |err c =>
  have hri:evi G sub (.rng [l]) ρ = .err c:=by rw[q1Q,q0D,hev];rfl
  refine wpAny_bind (wpAny_mono (wpAny_comprehension_free (use:=some (assign (.Name x pos') X.env)) (Q:=λ _ s'=>False) rfl (λ _=>rfl) hcl S.kind S.names
   (wpAny_mono (si pins s σ H ρ _ I B.rel (by rw[hri];simp)) (λ v s1 h1=>wpAny_mono h1 (λ itv s2 h2=>?_) (λ e s' z=>hE' e s' ?_)) (λ e s' z=>hE' e s' ?_))) (λ _ s' hq=>hq.elim) λ _ _ e=>e)
  ·obtain⟨ds,e1,_⟩:=h2;rw[hri] at e1;cases e1
  ·rw[hri] at z;obtain⟨c',e1,m⟩:=z;cases e1;exact⟨c,ρ,σ,os,H,by rw[hev];rfl,B,m⟩
  ·rw[hri] at z;obtain⟨c',e1,m⟩:=z;cases e1;exact⟨c,ρ,σ,os,H,by rw[hev];rfl,B,m⟩
 |ok d =>
  simp only[hev,q04] at hs hE' |-;cases d<;>first
   |exact absurd rfl hs
   |skip
  rename_i n;have hs:(if 0<=n/\n<=1000 then RS.ok (ρ.set i (some (.own2 (Qe n.toNat [])))) .nx else .stuck) ≠ .stuck:=hs
  by_cases hn:0<=n/\n<=1000
  ·have hri:evi G sub (.rng [l]) ρ = .ok ((Qg n.toNat).map λ (k:Nat)=> .int k):=by rw[q1Q,q0D,hev,q0n];show rngD [.int n]=_;unfold rngD;dsimp only;rw[if_pos (by lia)]
   refine wpAny_bind (wpAny_mono (wpAny_comprehension_free (use:=some (assign (.Name x pos') X.env)) (Q:=λ _ s'=>Gs X p H0 O0 pins (if 0<=n/\n<=1000 then RS.ok (ρ.set i (some (.own2 (Qe n.toNat [])))) .nx else .stuck) .next s') rfl (λ _=>rfl) hcl S.kind S.names
    (wpAny_mono (si pins s σ H ρ _ I B.rel (by rw[hri];simp)) (λ v s1 h1=>wpAny_mono h1 (λ itv s2 h2=>?_) (λ e s' ⟨c,z,_⟩=>by rw[hri] at z;cases z)) (λ e s' ⟨c,z,_⟩=>by rw[hri] at z;cases z))) (λ _ s' hq=>wpAny_pure (wpAny_pure hq)) λ _ _ e=>e)
   rw[hri] at h2;obtain⟨ds,e1,it,fp,tn,J,H2,rfl,I2,T,st2,f2,x2,vs,rep,wk⟩:=h2;cases e1;have hld:((Qg n.toNat).map λ (k:Nat)=>D.int k).length=n.toNat:=(by simp);refine qBx (RR:=λ acc C=>compPost (model X.prog X.w) X.A _ (some (assign (.Name x pos') X.env)) _ acc C) hc S hcl1 hcl2 hG I2 T st2 f2 rep (qBe wk) (by rw[hld];lia) λ D C s' H' bs I' x' hDs lbs nd nw nl hns fC=>?_;obtain⟨m,hm'⟩:=hns;obtain⟨f0,f1,f2',f3,f4,f5⟩:=fC;obtain⟨oC,esC,epC,hoC,hdC,hrC⟩:=id hm';have IP:Inv X (pins++[(C,oC)]) σ H' s':=I'.q67 λ q hq=>(Qm.mp hq).elim (λ z=>I'.pin q (Qj _ z)) λ z=>by cases Qt.mp z;exact⟨hoC,f0,f1,f2',λ v z=>by rw[hdC] at z;cases z⟩
   refine wpAny_assign_Name (q0q IP hN hiN hx (v:= .ref D) rfl (λ s3 I3=>?_) hf);have hC3:=(I3.pin (C,oC) (Qj _ (Qj _ (Qt.mpr rfl)))).1;rw[if_pos hn];have lb:bs.length=n.toNat:=lbs.trans hld;refine⟨m,⟨oC,esC,epC,hC3,hdC,hrC⟩,λ h' hs'=>⟨_,.nx,_,_,H',rfl,(B.mono x2).setO lt x' (as:=D::bs) nd nw (λ b hb=>?_) ⟨D,bs,rfl,rfl,hDs,?_⟩,?_,trivial⟩⟩
   ·rcases Qf.mp hb with rfl|hb
    ·exact⟨_,hDs⟩
    ·exact⟨_,nl b hb⟩
   ·rw[<-lb];exact q9g nl
   ·exact I3.q14.turned (t':=s3.toks) (λ b o hb e=>hs'.extBut b o hb e) f0 f1 f3 f4 f5
  ·rw[if_neg hn] at hs;exact absurd rfl hs
end
end Snd
namespace Snd
open PySem PySem.Spec PyProof.Rows L2 Ev
variable {i:Nat}{H0 H:Hp}{O0:List Addr}{ρ:Ev.Env}{σ:L2.St}{os:List (List Addr)}{a:Addr}
section
variable {X:Cx}{p:Pm}{G:Nat->List D->R D}{sub:Nat->Nat->Bool}
theorem q6Y {H Hf:Hp}:∀{bs:List Addr}{xss:List (List D)}{n:Nat}{ys:List D},bs.Nodup->q36 p H Hf bs xss->xss[n]? = some ys->∃b vs,bs[n]? = some b/\H b=some (.lst vs)/\RepL p Hf ys vs/\∀d v,Rep p Hf d v->q36 p (upd H b (.lst (vs++[v]))) Hf bs (xss.set n (ys++[d]))
 |[],xss,n,ys,_,h,e=>by cases (show xss=[] from h);simp at e
 |b::bs,_,0,ys,nd,h,e=>by obtain⟨xs,r,rfl,⟨vs,h1,h2⟩,h3⟩:=h;simp at e;subst e;exact⟨b,vs,rfl,h1,h2,λ d v q=>⟨_,r,rfl,⟨_,q0B,h2.snoc q⟩,q5F (QD.mp nd).1 h3⟩⟩
 |b::bs,_,n+1,ys,nd,h,e=>by obtain⟨xs,r,rfl,⟨vs,h1,h2⟩,h3⟩:=h;obtain⟨b',vs',g1,g2,g3,g4⟩:=q6Y (n:=n) (QD.mp nd).2 h3 (by simpa using e);refine⟨b',vs',by simpa using g1,g2,g3,λ d v q=>⟨xs,_,rfl,⟨vs,?_,h2⟩,g4 d v q⟩⟩;have ne:b≠b':=λ z=>(QD.mp nd).1 (z▸Qk g1);rw[q07 ne];exact h1
theorem qGj {x:Str}{k a:PySem.Expr}{lk l:L}{q q2 ap cp pos:Pos}(hi:X.N[i]? = some x) (hv:Vis X.env.scope x) (hd:(x==("__debug__":Str))=false) (hcd:(x==("__classdict__":Str))=false) (hk:SE X p G sub k lk) (hix:q8O k) (ha:SE X p G sub a l)
  (hst:starEach [a] X.env=[(false,eval a X.env)]) (hline:(ap.endLine==cp.line)=true):SS X p G sub (.Expr (.Call (.Attribute (.Subscript (.Name x q) k q2) "append" ap) [a] [] cp) pos) (.app2 i lk l):=by
 intro H0 O0 E hp pins s σ H ρ os I B hs hE;have e0:ex G sub (.app2 i lk l) ρ=match ρ[i]? with
   |some (some (.own2 xss))=>(ev G sub lk ρ).go ρ λ x=>match x with
     | .int n=>if 0<=n then (match xss[n.toNat]? with
       |some ys=>(ev G sub l ρ).go ρ λ d=>if ys.length<big then .ok (ρ.set i (some (.own2 (xss.set n.toNat (ys++[d]))))) .nx else .stuck
       |none=> .stuck) else .stuck
     |_=> .stuck
   |_=> .stuck:=rfl
 rw[e0] at hs hE |-;split at hs
 ·rename_i xss hρ;simp only[hρ] at hE |-;obtain⟨y,as,s1,s2,a0,bs,rfl,rfl,s5,s6⟩:=B.at hρ;have ndb:(a0::bs).Nodup:=by
   have h1:(a0::bs).Sublist os.flatten:=by obtain⟨l1,l2,e⟩:=List.append_of_mem (Qk s2);rw[e,List.flatten_append,Qy];exact (List.sublist_append_left _ _).trans (List.sublist_append_right _ _)
   have h2:os.flatten.Nodup:=(by have:=B.rel.nd;rw[q0d] at this;exact (Qz.mp this).1);exact h2.sublist h1
  refine wpAny_Expr_any (wpAny_Call_method_late rfl (by rw[hst];rfl) hline rfl (Subscript_ (q2c I hi hv s1 hd hcd λ u r=>?_))) I.quiet rfl;cases r;refine wpAny_mono (hk pins s σ H ρ _ I B.rel (q1t hs)) (λ u1 t1 ⟨d1,y1,H1,e1,I1,r1,x1,q1⟩=>?_) (λ e s' z=>hE e s' (q2W B z));rw[e1,q04] at hs hE |-;cases d1<;>first
   |exact absurd rfl hs
   |skip
  rename_i n;have hs:(if 0<=n then (match xss[n.toNat]? with
       |some ys=>(ev G sub l ρ).go ρ λ d=>if ys.length<big then RS.ok (ρ.set i (some (.own2 (xss.set n.toNat (ys++[d]))))) .nx else .stuck
       |none=> .stuck) else .stuck) ≠ .stuck:=hs
  have hE:∀e s',Es X p H0 O0 pins (if 0<=n then (match xss[n.toNat]? with
       |some ys=>(ev G sub l ρ).go ρ λ d=>if ys.length<big then RS.ok (ρ.set i (some (.own2 (xss.set n.toNat (ys++[d]))))) .nx else .stuck
       |none=> .stuck) else .stuck) e s'->E e s':=hE
  by_cases hn:0<=n
  ·rw[if_pos hn] at hs hE;cases hys:xss[n.toNat]? with
   |none=>simp only[hys] at hs;exact absurd rfl hs
   |some ys =>
   simp only[hys] at hs hE;cases (show y1=_ from q1);have B1:=B.mono x1;obtain⟨b,vs,g1,g2,g3,g4⟩:=q6Y (QD.mp ndb).2 (q4k x1 (q1E x1) s6) hys;have hat:atI (bs.map V.ref) n=some (.ref b):=by have hlt:=(Qc.mp g1).1;unfold atI ixN;rw[if_pos hn,if_pos (by rw[Qh];lia)];show (bs.map V.ref)[n.toNat]? = _;rw[Qs,g1];rfl
   refine qB4 (X:=X.wish E) (.Name x q) k pins t1 σ H1 (.ref a0) (.int n) _ _ (λ z H'=>z = .ref b/\H'=H1) (I1.wish E) rfl r1 ⟨a0,bs.map V.ref,n,.ref b,rfl,rfl,SqL.of (x1 _ _ s5),hat,rfl,rfl⟩ (hix _ _) |> λ h=>wpAny_mono h (λ u2 t2 ⟨z,H2,I2,rz,ez,eH⟩=>?_) (λ _ _ z=>z)
   subst ez eH;cases rz;have I2:=I2.q2Y;obtain⟨h1,h2⟩:=q7C (T := "list") (x:= .ref b) I2 rfl (.inl ⟨rfl,_,SqL.of g2⟩);refine⟨"list", "list.append",PySem.F.plainAttrs_list,PySem.F.slot_list_append,PySem.F.type_list_append,h1,h2,?_⟩;rw[hst];refine Calls.callWith_builtin rfl (Calls.evalArgs_plain ?_);show wpAny _ _ (spliced ((false,eval a X.env)::[])) _ _ t2;refine Calls.spliced_cons (wpAny_mono (ha pins t2 σ H2 ρ _ I2 B1.rel (q1t hs)) (λ v t3 ⟨d,x',H3,e3,I3,r3,x3,q3⟩=>Calls.spliced_nil ?_) (λ e s' z=>hE e s' (q9f B x1 z)));rw[e3,q04] at hs;have z:ys.length<big:=by
    by_cases z:ys.length<big
    ·exact z
    ·rw[if_neg z] at hs;exact absurd rfl hs
   obtain⟨b',vs',k1,k2,k3,k4⟩:=q6Y (QD.mp ndb).2 (q4k (x1.trans x3) (q1E (x1.trans x3)) s6) hys;rw[g1] at k1;cases k1;have hl:=k3.length;refine wpAny_mono (q3U (X:=X.wish E) pins t3 σ H3 (.ref b) [x'] _ _ (λ z H'=>H'=upd H3 b (.lst (vs'++[x']))) (I3.wish E) rfl (.cons r3 .nil) ⟨b,vs',x',rfl,rfl,k2,Qp (by lia) q0a,rfl⟩) (λ w t4 ⟨zv,H4,I4,_,eH⟩=>?_) (λ _ _ z=>z);subst eH;have mb:b∈bs:=Qk g1;have nb:a0≠b:=λ z=>(QD.mp ndb).1 (z▸mb);refine⟨_,.nx,σ,os,_,?_,(B.mono (x1.trans x3)).write (c:=b) (sl:= .own2 (xss.set n.toNat (ys++[d]))) (o:= .lst (vs'++[x'])) s1 s2 (Qa _ mb) ⟨a0,bs,rfl,rfl,?_,k4 d x' q3⟩,I4.q2Y,trivial⟩
   ·show (if 0<=n then (match xss[n.toNat]? with
       |some ys=>(ev G sub l ρ).go ρ λ d=>if ys.length<big then RS.ok (ρ.set i (some (.own2 (xss.set n.toNat (ys++[d]))))) .nx else .stuck
       |none=> .stuck) else .stuck)=_
    rw[if_pos hn,hys];dsimp only;rw[e3,q04,if_pos z]
   ·rw[q07 nb];exact x3 _ _ (x1 _ _ s5)
  ·rw[if_neg hn] at hs;exact absurd rfl hs
 ·exact absurd rfl hs
theorem Bd.out (b:Bd p H0 O0 ρ σ os H) (m:a∈os.flatten):a∉O0:=λ h=>by have:=b.rel.nd;rw[q0d] at this;exact (Qz.mp this).2.2 a m a h rfl
theorem qGk {pins:List (Addr×Obj)}{s:Shared}{kvs:List (Key×V)}(I:Inv X pins σ H s) (e:H a=some (.dK kvs)):∃o,Inv X pins σ (upd H a (.frz o (.dK kvs))) s:=by
 obtain⟨o,ho⟩:=q2I (I.hok a _ e);have nea:∀{b:Addr}{u:HO},H b=some u->(∀k,u ≠ .dK k)->b≠a:=λ {b u} q n z=>by rw[z,e] at q;exact n _ (QQ.inj q).symm
 refine⟨o,I.un (t':=s.toks) (h':=s.heap) ⟨λ b u q _ _ _=>q,λ b u q _ _ _=>⟨u.slots,q⟩,λ b u q n _=>by rw[q07 λ z=>by rw[z,e] at n;cases n];exact n,λ b u q _=>⟨u,q⟩,λ b xs q=>by rw[q07 (nea q λ _ z=>nomatch z)];exact q,λ b u xs q=>by rw[q07 (nea q λ _ z=>nomatch z)];exact q,λ b ps q=>⟨#[],by rw[q07 (nea q λ _ z=>nomatch z),q];simp⟩⟩ λ b u q=>?_⟩;have st:∀{c:Addr}{v:HO},q1O X.prog X.w H s.heap c v->q1O X.prog X.w (upd H a (.frz o (.dK kvs))) s.heap c v:=λ h=>h.stay (λ _ _ _ q=>q) (λ c q=>by rw[q07 (nea q λ _ z=>nomatch z)];exact q) λ c xs q=>by rw[q07 (nea q λ _ z=>nomatch z)];exact q
 by_cases hb:b=a
 ·subst hb;rw[q0B] at q;cases q;exact⟨ho,st (I.hok b _ e)⟩
 ·rw[q07 hb] at q;exact st (I.hok b u q)
theorem qE0 {O O':List Addr}{o:HO}(m:a∈O) (h:∀b∈O',b∈O):Ext (fz O H) (fz O' (upd H a o)):=λ c u e=>by
 unfold fz at e |-;split at e
 ·cases e
 ·rename_i n;have ne:c≠a:=λ z=>n (z▸m);rw[if_neg λ z=>n (h c z),q07 ne];exact e
theorem qBy (lt:i<os.length):∀a∈(os.set i []++[O0]).flatten,a∈(os++[O0]).flatten:=λ a ha=>by rw[<-q0t lt] at ha;exact (q0H ha).elim id λ z=>absurd z (by simp)
theorem q7h {H H' Hf Hf':Hp}{x:Option Sl}{c:Addr}{o:HO}(hH:H'=upd H c o) (yf:Ext Hf Hf'):∀{ρ:Ev.Env}{σ:L2.St}{os:List (List Addr)}(i:Nat) {y:Option V}{as:List Addr},q1I p H Hf ρ σ os->σ[i]? = some y->os[i]? = some as->c∈as->os.flatten.Nodup->q3c p H' Hf' x y []->
  q1I p H' Hf' (ρ.set i x) σ (os.set i [])
 |[],_,_,_,_,_,_,_,_,_,_,_=>trivial
 |_::ρ,_,_,0,y,as,h,e1,e2,hc,nd,q=>by obtain⟨y1,σ',as',os',rfl,rfl,h1,h2⟩:=h;simp at e1 e2;subst e1 e2;simp only[Qy] at nd;subst hH;exact⟨_,σ',_,os',rfl,rfl,q,q1l (Ext.refl _) yf (q4B (λ z=>(Qz.mp nd).2.2 c hc c z rfl) h2)⟩
 |_::ρ,_,_,i+1,y,as,h,e1,e2,hc,nd,q=>by obtain⟨y1,σ',as',os',rfl,rfl,h1,h2⟩:=h;simp only[Qy] at nd;have m:c∈os'.flatten:=QU.mpr ⟨as,Qk (by simpa using e2),hc⟩;refine⟨y1,σ',as',os'.set i [],rfl,rfl,?_,q7h hH yf i h2 (by simpa using e1) (by simpa using e2) hc (Qz.mp nd).2.1 q⟩;subst hH;exact q6M (Ext.refl _) yf (q5G (λ z=>(Qz.mp nd).2.2 c z c m rfl) h1)
theorem Bd.alone (b:Bd p H0 O0 ρ σ os H) (e2:os[i]? = some [a]):a∉(os.set i []++[O0]).flatten:=by
 have lt:i<os.length:=(Qc.mp e2).1;have mo:a∈os.flatten:=QU.mpr ⟨[a],Qk e2,by simp⟩;have nd0:os.flatten.Nodup:=by have:=b.rel.nd;rw[q0d] at this;exact (Qz.mp this).1
 intro z;rw[q0d] at z;rcases Qm.mp z with z|z
 ·obtain⟨as,h1,h2⟩:=QU.mp z;obtain⟨j,hj,ej⟩:=QX h1;have hj':j<os.length:=by simpa using hj
  by_cases c:j=i
  ·subst c;rw[List.getElem_set_self] at ej;rw[<-ej] at h2;simp at h2
  ·rw[List.getElem_set_ne (Ne.symm c)] at ej;have k1:os[i]=[a]:=(Qc.mp e2).2;have:∀(l:List (List Addr)) (i j:Nat) (hi:i<l.length) (hj:j<l.length),i≠j->a∈l[i]->a∈l[j]->¬l.flatten.Nodup:=by
    intro l
    induction l with
    |nil=>intro i j hi;simp at hi
    |cons x l ih =>
     intro i j hi hj ne h1 h2 nd;simp only[Qy] at nd;have nd:=Qz.mp nd;cases i with
     |zero =>
      cases j with
      |zero=>exact ne rfl
      |succ j=>exact nd.2.2 a h1 a (QU.mpr ⟨_,QW (by simpa using hj),by simpa using h2⟩) rfl
     |succ i =>
      cases j with
      |zero=>exact nd.2.2 a h2 a (QU.mpr ⟨_,QW (by simpa using hi),by simpa using h1⟩) rfl
      |succ j=>exact ih i j (by simpa using hi) (by simpa using hj) (by lia) (by simpa using h1) (by simpa using h2) nd.2.1
   exact this os i j lt hj' (Ne.symm c) (by rw[k1];simp) (by rw[ej];exact h2) nd0
 ·exact b.out mo z
theorem Bd.frzD {kvs:List (Key×V)}{ks ds:List D}{o:Obj}(b:Bd p H0 O0 ρ σ os H) (e1:σ[i]? = some (some (.ref a))) (e2:os[i]? = some [a]) (hk:ks=kvs.map (λ q=>keyD q.1)) (hr:RepL p (fz (os++[O0]).flatten H) ds (kvs.map (·.2))) :
  Rep p (fz (os.set i []++[O0]).flatten (upd H a (.frz o (.dK kvs)))) (.dct ks ds) (.ref a)/\Bd p H0 O0 (ρ.set i (some (.val (.dct ks ds)))) σ (os.set i []) (upd H a (.frz o (.dK kvs))):=by
 have lt:i<os.length:=(Qc.mp e2).1;have mo:a∈os.flatten:=QU.mpr ⟨[a],Qk e2,by simp⟩;have m:a∈(os++[O0]).flatten:=by rw[q0d];exact Qv _ mo
 have e3:(os++[O0])[i]? = some [a]:=by rw[QI lt];exact e2
 have nin:=b.alone e2;have yf:Ext (fz (os++[O0]).flatten H) (fz (os.set i []++[O0]).flatten (upd H a (.frz o (.dK kvs)))):=qE0 m (qBy lt);have rep:Rep p (fz (os.set i []++[O0]).flatten (upd H a (.frz o (.dK kvs)))) (.dct ks ds) (.ref a):=⟨a,kvs,o,rfl,q1x q0B nin,hk,hr.mono yf⟩
 refine⟨rep,⟨⟨?_,λ c hc=>?_,?_⟩,by simp[b.len],by simp[b.slen],λ c u e=>?_,λ c hc=>?_⟩⟩
 ·rw[<-q0t lt];exact q11 Jp b.rel.nd λ a ha=>absurd ha (by simp)
 ·obtain⟨u,e⟩:=b.rel.there c (qBy lt c hc);have ne:c≠a:=λ z=>nin (z▸hc);exact⟨u,by rw[q07 ne];exact e⟩
 ·have:=q7h (x:=some (.val (.dct ks ds))) (c:=a) (o:= .frz o (.dK kvs)) rfl yf i b.rel.slots e1 e3 (Qt.mpr rfl) b.rel.nd ⟨rfl,.ref a,rfl,rep⟩
  rwa [q0t lt] at this
 ·rw[q07 λ z=>by rw[z,b.new a mo] at e;cases e];exact b.ext c u e
 ·exact (q0H hc).elim (b.new c) λ z=>absurd z (by simp)
theorem q9h {H:Hp}{O O':List Addr}:∀{bs:List Addr}{xss:List (List D)},(∀b∈bs,b∉O')->(∀b∈O',b∈O)->q36 p H (fz O H) bs xss->RepL p (fz O' H) (xss.map .lst) (bs.map V.ref)
 |[],xss,_,_,h=>by cases (show xss=[] from h);rfl
 |b::bs,_,n,hs,h=>by obtain⟨xs,r,rfl,⟨vs,h1,h2⟩,h3⟩:=h;exact⟨.ref b,bs.map V.ref,rfl,⟨b,vs,rfl,SqL.of (q1x h1 (n b (by simp))),h2.mono (q2d hs)⟩,q9h (λ c hc=>n c (Qa _ hc)) hs h3⟩
theorem qGl {x:Str}{q pos:Pos}(hi:X.N[i]? = some x) (hv:Vis X.env.scope x) (hd:(x==("__debug__":Str))=false) (hcd:(x==("__classdict__":Str))=false):SS X p G sub (.Return (some (.Name x q)) pos) (.retO i):=by
 intro H0 O0 E hp pins s σ H ρ os I B hs hE;have e0:ex G sub (.retO i) ρ=match ρ[i]? with
   |some (some (.own d))=> .ok (ρ.set i none) (.ret d)
   |some (some (.own2 xss))=> .ok (ρ.set i none) (.ret (.lst (xss.map .lst)))
   |_=> .stuck:=rfl
 rw[e0] at hs hE |-;have lt:i < ρ.length:=by rw[<-B.slen,I.len];exact (Qc.mp hi).1
 have wk:Inv X pins (σ.set i none) H s:=I.weak (by simp) λ j v e=>by
  by_cases c:i=j
  ·subst c;rw[Q8 (by rw[B.slen];exact lt)] at e;cases e
  ·rw[Je c] at e;exact e
 split at hs
 ·rename_i d hρ;obtain⟨y,as,s1,s2,a,rfl,rfl,s5⟩:=B.at hρ;have mo:a∈os.flatten:=QU.mpr ⟨[a],Qk s2,by simp⟩;refine wpAny_Return_some (q2c I hi hv s1 hd hcd λ u r=>?_);cases r;cases d<;>first
   |exact s5.elim
   |skip
  ·obtain⟨vs,h1,h2⟩:=s5;exact⟨_,_,_,_,H,rfl,B.setN (y:=none) lt,wk,.ref a,rfl,a,vs,rfl,SqL.of (q1x h1 (B.out mo)),h2.mono qGK⟩
  ·obtain⟨kvs,h1,h2,h3⟩:=s5;obtain⟨o,I2⟩:=qGk wk h1;obtain⟨rep,B2⟩:=B.frzD (o:=o) s1 s2 h2 h3;have B3:=B2.setN (i:=i) (y:=none) (by simpa using lt);rw[List.set_set] at B3;exact⟨_,_,_,_,_,rfl,B3,I2,.ref a,rfl,rep.mono qGK⟩
 ·rename_i xss hρ;obtain⟨y,as,s1,s2,a,bs,rfl,rfl,s5,s6⟩:=B.at hρ;have mo:∀b∈a::bs,b∈os.flatten:=λ b hb=>QU.mpr ⟨_,Qk s2,hb⟩;refine wpAny_Return_some (q2c I hi hv s1 hd hcd λ u r=>?_);cases r;exact⟨_,_,_,_,H,rfl,B.setN (y:=none) lt,wk,.ref a,rfl,a,bs.map V.ref,rfl,SqL.of (q1x s5 (B.out (mo a (by simp)))),q9h (λ b hb=>B.out (mo b (Qa _ hb))) (λ b hb=>by rw[q0d];exact Qj _ hb) s6⟩
 ·exact absurd rfl hs
end
end Snd
namespace Snd
open PySem PySem.Spec PyProof.Rows L2 Ev
variable {o:PySem.Expr}{l:L}{ap cp q:Pos}{c:Const}{dc:D}{j:Nat}
section
variable {X:Cx}{p:Pm}{G:Nat->List D->R D}{sub:Nat->Nat->Bool}
theorem qE1 {i:Int}(h:0<=i):((Builtin.Int.intBits i:Nat):Int)=if i=0 then 0 else ((i.toNat.log2+1:Nat):Int):=by
 unfold Builtin.Int.intBits
 by_cases c:i=0
 ·subst c;rfl
 ·have e:i.natAbs=i.toNat:=by lia
  rw[if_neg c,if_neg (by simpa using c),e]
theorem qGm (hbase:attributeBase o "bit_length" X.env (eval o X.env)=eval o X.env) (hline:(ap.endLine==cp.line)=true) (ho:SB X p G sub o l):SE X p G sub (.Call (.Attribute o "bit_length" ap) [] [] cp) (.bi .bits [l]):=by
 intro pins s σ H ρ os I R hs;refine wpAny_Call_method0_late hbase hline (wpAny_mono (ho pins s σ H ρ os I R (q7V hs)) (λ u s1 h=>?_) (λ _ _=>q7U));obtain⟨d,v,H1,e1,I1,r1,x1,q1⟩:=h;have e0:ev G sub (.bi .bits [l]) ρ=biD sub .bits [d]:=by rw[q1P,q2G (f:=λ d=>biD sub .bits [d]) l ρ _ (λ _=>rfl),e1];rfl
 rw[e0] at hs |-;cases d<;>first
  |exact absurd rfl hs
  |skip
 rename_i i;have hs:(if 0<=i then Ev.R.ok (D.int (if i=0 then 0 else ((i.toNat.log2+1:Nat):Int))) else .stuck) ≠ .stuck:=hs
 by_cases hi:0<=i
 ·have e2:biD sub .bits [.int i] = .ok (.int (if i=0 then 0 else ((i.toNat.log2+1:Nat):Int))):=by show (if 0<=i then _ else _)=_;rw[if_pos hi]
  cases (show v=_ from q1);obtain⟨t,rfl⟩:=r1;refine⟨"int", "int.bit_length",PySem.F.plainAttrs_int,PySem.F.slot_int_bit_length,PySem.F.type_int_bit_length,typeIs_int _ _ _,(λ _ z=>by cases z),?_⟩;refine Calls.callWith_builtin rfl (PySem.evalArgs_none ?_);refine PyProof.Rows.call_int_bit_length ?_;exact⟨_,.int _,H1,e2,I1.tok _,⟨_,by rw[qE1 hi]⟩,x1,rfl⟩
 ·rw[if_neg hi] at hs;exact absurd rfl hs
theorem q5q {h:Heap}{ds:List D}{x:D}(pd:plL ds=true) (px:pl x=true):∀{es:List D}{us:List Value},(∀e∈es,e∈ds)->DvL h es us->us.countP (eqTo h ds x)=(es.filter λ y=>eqb y x).length
 |[],us,_,y=>by cases (show us=[] from y);rfl
 |e::es,us,hs,y=>by obtain⟨u,r,rfl,y1,y2⟩:=y;rw[List.countP_cons,q5q pd px (λ z hz=>hs z (Qa _ hz)) y2,q6K pd px (hs e Qb) y1,QS];split<;>simp
theorem q9i {h:Heap}{ds:List D}{x:D}(pd:plL ds=true) (px:pl x=true):∀{es:List D}{us:List Value}{n:Nat}{r:D},(∀e∈es,e∈ds)->DvL h es us->idxOf x es n = .ok r->
  ∃(j:Nat) (hj:j<us.length),r = .int ((n+j:Nat):Int)/\eqTo h ds x us[j]=true/\∀m (hm:m<us.length),m<j->eqTo h ds x us[m]=false
 |[],us,n,r,_,y,e=>by cases e
 |d::es,us,n,r,hs,y,e=>by
  obtain⟨u,r',rfl,y1,y2⟩:=y;have eu:=q6K pd px (hs d Qb) y1;unfold idxOf at e;split at e
  ·rename_i c;cases e;exact⟨0,by simp,by simp,by simpa[eu] using c,λ m hm z=>absurd z (Nat.not_lt_zero _)⟩
  ·rename_i c;obtain⟨j,hj,e1,e2,e3⟩:=q9i pd px (λ z hz=>hs z (Qa _ hz)) y2 e;refine⟨j+1,by simpa using hj,by rw[e1];congr 1;lia,by simpa using e2,λ m hm z=>?_⟩;cases m with
   |zero=>simpa[eu] using c
   |succ m=>simpa using e3 m (by simpa using hm) (by lia)
theorem qJi {id:String}{b:Bi}{name:Str}(hK:p.K=X.K) (hcon:q8Q c=some dc) (slot:Slot "list" name id) (hty:typeOf (.builtin id)=pure (.type "method_descriptor"))
  (hbase:attributeBase o name X.env (eval o X.env)=eval o X.env) (hline:(ap.endLine==cp.line)=true) (ho:SB X p G sub o l)
  (hl:∀d r,biD sub b [d,dc] = .ok r->∃xs,d = .lst xs)
  (hm:∀(E:Value->Shared->Prop) (pins:List (Addr×Obj)) (s:Shared) (σ:L2.St) (H:Hp) (os:List (List Addr)) (xs:List D) (v w:V) (u u2:Value) (r:D),Inv X pins σ H s->RelV v u->RelV w u2->RepB p H (fz os.flatten H) (.lst xs) v->Rep p (fz os.flatten H) dc w->biD sub b [.lst xs,dc] = .ok r->
   wpAny (model X.prog X.w) X.A (call (.builtin id) [u,u2]) (EP (X.wish E) pins σ (Fin p os.flatten H r)) E s) :
  SE X p G sub (.Call (.Attribute o name ap) [.Constant c j q] [] cp) (.bi b [l,.con dc]):=by
 intro pins s σ H ρ os I R hs;have e0:ev G sub (.bi b [l,.con dc]) ρ=(ev G sub l ρ).bind λ x=>biD sub b [x,dc]:=by rw[q1P,q0D];cases ev G sub l ρ<;>rfl
 rw[e0] at hs |-;refine wpAny_Call_method_late hbase rfl hline rfl (wpAny_mono (ho pins s σ H ρ os I R (q0A hs)) (λ u s1 h=>?_) (λ _ _ z=>z.bind));obtain⟨d,v,H1,e1,I1,r1,x1,q1⟩:=h;rw[e1,q00] at hs |-;rcases q6S sub b [d,dc] with z|⟨r,z⟩
 ·exact absurd z hs
 obtain⟨xs,rfl⟩:=hl d r z;have q1':=q1;obtain⟨a,vs,rfl,s5,s6⟩:=q1';cases r1;obtain⟨h1,h2⟩:=q7C (T := "list") (x:= .ref a) I1 rfl (.inl ⟨rfl,_,hK▸s5⟩);refine⟨"list",id,PySem.F.plainAttrs_list,slot,hty,h1,h2,?_⟩;refine Calls.callWith_builtin rfl (Calls.evalArgs_plain ?_);show wpAny _ _ (spliced ((false,eval (.Constant c j q) X.env)::[])) _ _ s1;refine Calls.spliced_cons (wpAny_mono (qF7 (X:=X) (p:=p) (G:=G) (sub:=sub) hcon pins s1 σ H1 ρ os I1 (R.ext x1) (by rw[q0I];simp)) (λ u2 s2 ⟨d2,w,H2,e2,I2,r2,x2,q2⟩=>Calls.spliced_nil ?_) (λ e s' ⟨c,z,_⟩=>by rw[q0I] at z;cases z));rw[q0I] at e2;cases e2;rw[z];exact wpAny_mono (hm (Er X p pins σ H (.ok r)) pins s2 σ H2 os xs (.ref a) w (.ref a) u2 r I2 rfl r2 (q1.mono x2 (q1E x2)) q2 z) (λ w' s3 h3=>qAY (x1.trans x2) rfl h3) λ _ _ z=>z
theorem qE2 (hK:p.K=X.K) (hu:X.A.units+64<cLine) (hcon:q8Q c=some dc) (hbase:attributeBase o "count" X.env (eval o X.env)=eval o X.env) (hline:(ap.endLine==cp.line)=true) (ho:SB X p G sub o l) :
  SE X p G sub (.Call (.Attribute o "count" ap) [.Constant c j q] [] cp) (.bi .count [l,.con dc]):=by
 refine qJi hK hcon PySem.F.slot_list_count PySem.F.type_list_count hbase hline ho (λ d r h=>?_) λ E pins s σ H os xs v w u u2 r I rv rw' q1 q2 h=>?_
 ·cases d<;>first
   |(cases h;done)
   |exact⟨_,rfl⟩
 ·have h:(if pl dc&&plL xs then Ev.R.ok (D.int ((xs.filter λ y=>eqb y dc).length)) else .stuck) = .ok r:=h;split at h
  ·rename_i c;simp only[Qd] at c;cases h;have z1:=q3d hK I q0Z q1 rv;have z2:=(q2b hK I).1 dc w u2 (q2.mono q0Z) rw';obtain⟨a,us,rfl,⟨⟨cl,dd,da,sl⟩,e1,e2,n,e3⟩,y⟩:=z1;simp only at e2 e3;subst e2 e3;have hu':X.A.in1.units+8<cLine:=(by rw[Around.in1_units];lia);refine call_meets PySem.F.slot_list_count ⟨_,e1,rfl⟩ PySem.F.entry_list_count (PySem.F.args_list_count_2 _ _) (SeqAt.list_countAt a us.toArray n dd sl u2 (eqTo s.heap xs dc)) ⟨e1,q27 c.2 c.1 y z2 hu',?_⟩;refine⟨.int _,H,(I.wish E).tok _,⟨_,rfl⟩,?_⟩;rw[show us.toArray.toList=us from rfl,q5q c.2 c.1 (λ _ h=>h) y];exact q0M rfl
  ·cases h
theorem qE3 (hK:p.K=X.K) (hu:X.A.units+64<cLine) (hcon:q8Q c=some dc) (hbase:attributeBase o "index" X.env (eval o X.env)=eval o X.env) (hline:(ap.endLine==cp.line)=true) (ho:SB X p G sub o l) :
  SE X p G sub (.Call (.Attribute o "index" ap) [.Constant c j q] [] cp) (.bi .index [l,.con dc]):=by
 refine qJi hK hcon PySem.F.slot_list_index PySem.F.type_list_index hbase hline ho (λ d r h=>?_) λ E pins s σ H os xs v w u u2 r I rv rw' q1 q2 h=>?_
 ·cases d<;>first
   |(cases h;done)
   |exact⟨_,rfl⟩
 ·have h:(if pl dc&&plL xs then idxOf dc xs 0 else .stuck) = .ok r:=h;split at h
  ·rename_i c;simp only[Qd] at c;have z1:=q3d hK I q0Z q1 rv;have z2:=(q2b hK I).1 dc w u2 (q2.mono q0Z) rw';have zl:xs.length<=sizeLine:=by obtain⟨a,vs,rfl,s5,s6⟩:=q1;cases rv;obtain⟨its,r1,_,hz⟩:=I.list (hK▸s5);have:=s6.length;have:=r1.length;lia
   obtain⟨a,us,rfl,⟨⟨cl,dd,da,sl⟩,e1,e2,n,e3⟩,y⟩:=z1;simp only at e2 e3;subst e2 e3;have hu':X.A.in1.units+8<cLine:=(by rw[Around.in1_units];lia);obtain⟨k,hk,er,hit,hno⟩:=q9i c.2 c.1 (λ _ h=>h) y h;subst er;have hl:xs.length=us.length:=y.length;have hsz:sizeLine=2^24:=sizeLine_eq;refine call_meets PySem.F.slot_list_index ⟨_,e1,rfl⟩ PySem.F.entry_list_index (PySem.F.args_list_index_2 _ _) (SeqAt.list_indexAt a us.toArray n dd sl u2 (eqTo s.heap xs dc) k (by simpa using hk) (by lia) (by simpa using hit) (λ m hm z=>by simpa using hno m (by simpa using hm) z)) ⟨e1,q27 c.2 c.1 y z2 hu',?_⟩;refine⟨.int _,H,(I.wish E).tok _,⟨_,rfl⟩,?_⟩;rw[Nat.zero_add];exact q0M rfl
  ·cases h
end
end Snd
namespace Snd
open PySem PySem.Spec PyProof.Rows L2 Ev HT
section
variable {prog:Program}{w:World}{A:Around}{E:Value->Shared->Prop}{s:Shared}
theorem q8j {t sl:Addr}{items:Array Value}{vl vu:Value}{lo hi:Option Int}{Q:Value->Shared->Prop}(ht:IsTup s.heap t items) (hs:s.heap.IsSliceOf sl vl vu .none) (pl:IsPart vl lo) (pu:IsPart vu hi)
  (hw:sIx items.size 0 lo=0/\sIx items.size items.size hi=items.size) (h:Q (.ref t) s):wpAny (model prog w) A (getItem (.ref t) (.ref sl)) Q E s:=by
 obtain⟨os,hos,hcs,hds⟩:=hs;have hTs:s.TypeIs (.ref sl) "slice":=⟨os,hos,hcs⟩
 unfold getItem
 try with_reducible refine wpAny_holding ?_
 first|refine wpAny_bind (wpAny_pure ?_)|skip
 refine wpAny_bind (wpAny_sequenceKey ht.typeIs (by decide) ?_);refine wpAny_bind (wpAny_callSpecial?_slot (name:=Str.ofString "__getitem__") ht.typeIs PyProof.Rows.slot_tuple_getitem (wpAny_call_entry PyProof.Rows.slot_tuple_getitem ht.typeIs entry_tuple_getitem ?_ (args_tuple_getitem _ _)));show wpAny _ _ (Builtin.Tuple.tupleItemsOf (.ref t) >>= _) _ _ s;refine wpAny_bind (tupleItemsOf_ ht (wpAny_bind (wpAny_typeOf hTs ?_)));rw[if_pos (by decide)];refine wpAny_bind (q2V ⟨os,hos,hcs,hds⟩ pl pu ?_);have hyes:(((sIx items.size 0 lo:Nat):Int)==0&&(1:Int)==1&&(sIx items.size items.size hi-sIx items.size 0 lo)==items.size)=true:=by rw[hw.1,hw.2];simp
 show wpAny _ _ (if (((sIx items.size 0 lo:Nat):Int)==0&&(1:Int)==1&&(sIx items.size items.size hi-sIx items.size 0 lo)==items.size)=true then _ else _) _ _ s;rw[if_pos hyes];unfold Builtin.Tuple.tupleIsExact;refine wpAny_bind (wpAny_bind (wpAny_typeOf ht.typeIs (wpAny_pure ?_)));rw[if_pos (by decide)];exact wpAny_bind (wpAny_rule (wpAny_pure ⟨_,rfl,wpAny_pure h⟩))
end
section
variable {X:Cx}{p:Pm}{G:Nat->List D->R D}{sub:Nat->Nat->Bool}
def SO (X:Cx) (p:Pm) (G:Nat->List D->R D) (sub:Nat->Nat->Bool) (e:Option PySem.Expr) (l:List L):Prop:=(e=none/\l=[])\/∃e' l',e=some e'/\l=[l']/\SE X p G sub e' l'
theorem qBz {e:Option PySem.Expr}{l:List L}(h:SO X p G sub e l) {pins:List (Addr×Obj)}{s:Shared}{σ:L2.St}{H:Hp}{ρ:Ev.Env}{os:List (List Addr)}(I:Inv X pins σ H s) (R:Rel p ρ σ os H) (hs:evs G sub l ρ ≠ .stuck) :
  wpAny (model X.prog X.w) X.A (evalPart e X.env) (λ u s'=>∃ds H',evs G sub l ρ = .ok ds/\Inv X pins σ H' s'/\Ext H H'/\∀o,optI ds = .ok o->IsPart u o) (Er X p pins σ H (evs G sub l ρ)) s:=by
 rcases h with ⟨rfl,rfl⟩|⟨e',l',rfl,rfl,h⟩
 ·rw[evalPart_none];exact wpAny_pure ⟨[],H,rfl,I,Ext.refl _,λ o e=>by cases e;exact .none⟩
 ·rw[evalPart_some];have e0:evs G sub [l'] ρ=(ev G sub l' ρ).bind λ x=> .ok [x]:=by rw[q0D];cases ev G sub l' ρ<;>rfl
  rw[e0] at hs |-;refine wpAny_mono (h pins s σ H ρ os I R (q0A hs)) (λ u s1 ⟨d,v,H1,e1,I1,r1,x1,q1⟩=>?_) (λ _ _ z=>z.bind);refine⟨[d],H1,by rw[e1];rfl,I1,x1,λ o e=>?_⟩;cases d<;>first
   |(cases e;done)
   |skip
  rename_i i0;obtain rfl:some i0=o:=by have e:Ev.R.ok (some i0) = .ok o:=e;cases e;rfl
  cases (show v=_ from q1);obtain⟨t,rfl⟩:=r1;exact .int _ t
theorem q9j {Hf:Hp}{ds:List D}{vs:List V}(h:RepL p Hf ds vs) (lo hi:Option Int):RepL p Hf (cutL ds lo hi) (cutV vs lo hi):=by have e:=h.length;unfold cutL cutV;rw[e];exact (h.drop _).take _
theorem qC0 {α:Type}(xs:List α) (lo hi:Option Int) (h:HT.sIx xs.length 0 lo=0/\HT.sIx xs.length xs.length hi=xs.length):cutL xs lo hi=xs:=by unfold cutL;have h1:bnd xs.length 0 lo=0:=h.1;have h2:bnd xs.length xs.length hi=xs.length:=h.2;rw[h1,h2];simp
theorem qE4 {a:PySem.Expr}{lo hi:Option PySem.Expr}{la:L}{llo lhi:List L}{p2 pos:Pos}(hK:p.K=X.K) (ha:SB X p G sub a la) (hlo:SO X p G sub lo llo) (hhi:SO X p G sub hi lhi):SE X p G sub (.Subscript a (.Slice lo hi none p2) pos) (.sl 0 la llo lhi):=by
 intro pins s σ H ρ os I R hs;rw[qG3] at hs |-;refine Subscript_ (wpAny_mono (ha pins s σ H ρ os I R (q0A hs)) (λ v s1 ⟨d,x,H1,e1,I1,r1,x1,q1⟩=>?_) (λ _ _ z=>z.bind));rw[e1,q00] at hs |-;have R1:=R.ext x1;refine wpAny_Slice (wpAny_mono (qBz hlo I1 R1 (q0A hs)) (λ vl s2 ⟨l1,H2,e2,I2,x2,p2'⟩=>?_) (λ _ _ z=>(z.ext x1).bind));rw[e2,q00] at hs |-;have R2:=R1.ext x2;refine wpAny_mono (qBz hhi I2 R2 (q0A hs)) (λ vu s3 ⟨l2,H3,e3,I3,x3,p3⟩=>?_) (λ _ _ z=>(z.ext (x1.trans x2)).bind);rw[e3,q00] at hs |-;rw[evalPart_none];refine wpAny_pure ?_;have opt:∀l:List D,optI l = .stuck\/∃o,optI l = .ok o:=λ l=>by unfold optI;split<;>first|exact .inr ⟨_,rfl⟩|exact .inl rfl
 rcases opt l1 with z|⟨o1,z1⟩
 ·rw[z] at hs;exact absurd rfl hs
 rcases opt l2 with z|⟨o2,z2⟩
 ·rw[z1,q00,z] at hs;exact absurd rfl hs
 rw[z1,q00,z2,q00] at hs |-;have I4:Inv X pins σ H3 {s3 with heap:=s3.heap.push {cls:= .type "slice",data:= .fields #[vl,vu,.none]}}:=I3.kept (t':=s3.toks) λ b ob q=>Heap.get?_push_of_some _ q;have x13:=(x1.trans x2).trans x3;have q3:=q1.mono (x2.trans x3) (q1E (x2.trans x3));have t3:=(R2.ext x3).th;show wpAny (model X.prog X.w) X.A (subscriptTail a (.Slice lo hi none p2) v (.ref s3.heap.objs.size)) _ _ {s3 with heap:=s3.heap.push {cls:= .type "slice",data:= .fields #[vl,vu,.none]}};have fin:∀(E:Value->Shared->Prop) (rr:Ev.R D) (r:D),rr = .ok r->∀u s',EP (X.wish E) pins σ (Fin p os.flatten H3 r) u s'->Gd X p pins σ os H rr u s':=λ E rr r e u s' h=>qAY x13 e h;cases d<;>first
  |exact absurd rfl hs
  |skip
 ·rename_i xs;have e5:slD 0 o1 o2 (.tup xs) = .ok (.tup (cutL xs o1 o2)):=rfl;rw[e5];obtain⟨t,vs,rfl,s5,z5,s6⟩:=q3;cases r1;have s5':SqT X.K H3 t vs:=hK▸q0Z.sqT s5;have hl:=s6.length
  by_cases hw:HT.sIx vs.length 0 o1=0/\HT.sIx vs.length vs.length o2=vs.length
  ·obtain⟨its,rv,ht,hz⟩:=I4.tuple s5';have hlen:its.toArray.size=vs.length:=(by rw[Qr];exact rv.length.symm);refine tail_any (ops:=[.ref s3.heap.objs.size,.ref t]) ht.typeIs PyProof.Rows.slot_tuple_getitem.lookup (q8j ht (Heap.IsSliceOf.new ..) (p2' o1 z1) (p3 o2 z2) (by rw[hlen];exact hw) ?_) (by with_unfolding_all rfl);rw[qC0 xs o1 o2 (by rw[hl];exact hw)];exact⟨_,.ref t,H3,rfl,I4,rfl,x13,t,vs,rfl,s5,z5,s6⟩
  ·obtain⟨T,id',hT,ht,hg⟩:=qIO (X:=X.wish (Er X p pins σ H (Ev.R.ok (D.tup (cutL xs o1 o2))))) pins _ σ H3 (.ref t) _ vl vu o1 o2 s3.heap.objs.size (Fin p os.flatten H3 (.tup (cutL xs o1 o2))) (I4.wish _) rfl (Heap.IsSliceOf.new ..) (p2' o1 z1) (p3 o2 z2)
    ⟨t,vs,rfl,s5',hw,λ q n=>q8f t3 (q9j s6 o1 o2) (Qn (q3A vs o1 o2) z5) n⟩
   exact tail_any (ops:=[.ref s3.heap.objs.size,.ref t]) ht hT (wpAny_mono hg (λ u s' h=>fin _ _ _ rfl u s' h) λ _ _ z=>z) (by with_unfolding_all rfl)
 ·rename_i xs;have e5:slD 0 o1 o2 (.lst xs) = .ok (.lst (cutL xs o1 o2)):=rfl;rw[e5];obtain⟨t,vs,rfl,s5,s6⟩:=q3;cases r1;obtain⟨T,id',hT,ht,hg⟩:=qFr (X:=X.wish (Er X p pins σ H (Ev.R.ok (D.lst (cutL xs o1 o2))))) pins _ σ H3 (.ref t) _ vl vu o1 o2 s3.heap.objs.size (Fin p os.flatten H3 (.lst (cutL xs o1 o2))) (I4.wish _) rfl (Heap.IsSliceOf.new ..) (p2' o1 z1) (p3 o2 z2)
   ⟨t,vs,rfl,hK▸s5,λ q n=>q46 t3 (q9j s6 o1 o2) n⟩
  exact tail_any (ops:=[.ref s3.heap.objs.size,.ref t]) ht hT (wpAny_mono hg (λ u s' h=>fin _ _ _ rfl u s' h) λ _ _ z=>z) (by with_unfolding_all rfl)
end
end Snd
namespace Snd
open PySem PySem.Spec PySem.W PyProof.Rows L2 Ev
variable {e:PySem.Expr}{env:PySem.Env}{x:Str}{i:Nat}
theorem q1M {x:Str}:∀{N:List Str}{i:Nat},ixOf x N=some i->N[i]? = some x
 |[],i,h=>by cases h
 |y::N,i,h=>by
  unfold ixOf at h;split at h
  ·rename_i c;cases h;subst c;rfl
  ·cases e:ixOf x N with
   |none=>rw[e] at h;cases h
   |some j=>rw[e] at h;cases h;simpa using q1M e
def okE:PySem.Expr->Bool
 | .Starred _ _=>false
 | .Set _ _ _=>false
 | .Slice _ _ _ _=>false
 | .Call (.Name _ _) [] [] _=>false
 |_=>true
theorem q0y {es:List PySem.Expr}(h:okE e=true):starEach (e::es) env=(false,eval e env)::starEach es env:=by cases e<;>first|rfl|(cases h;done)
theorem qJj (h:okE e=true):q8O e:=by intro o i;cases e<;>first|rfl|(cases h;done)
theorem qC1 {op:CmpOp}(h:okE e=true):behindInMarks op e=false:=by cases e<;>first|rfl|(cases h;done)
theorem q8k (h:okE e=true):∀x,foldedSetIterable e env x=pure x:=by intro x;cases e<;>first|rfl|(cases h;done)
theorem q8l {name:Str}(h:okE e=true):attributeBase e name env (eval e env)=eval e env:=by
 unfold attributeBase;split
 ·cases h
 ·rfl
theorem q5c:∀{n:Nat}{C:Ct}{e:PySem.Expr}{l:L},cE n C e=some l->okE e=true:=by
 intro n;cases n with
 |zero=>intro C e l h;cases h
 |succ n =>
  intro C e l h;cases e with
  |Call g args kws pos =>
   cases g with
   |Name f q =>
    cases args with
    |cons a r=>rfl
    |nil =>
     cases kws with
     |cons a r=>rfl
     |nil =>
      exfalso;unfold cE at h;dsimp only at h;split at h
      ·split at h
       ·split at h
        ·rename_i z;exact z.2 rfl
        ·cases h
       ·cases n with
        |zero=>cases h
        |succ n=>cases h
      ·cases h
   |_=>rfl
  |Starred _ _=>cases h
  |Set _ _ _=>cases h
  |Slice _ _ _ _=>cases h
  |_=>rfl
theorem q7i {n:Nat}{C:Ct}{l:L}(h:cB n C e=some l):okE e=true:=by
 cases n with
 |zero=>simp[cB] at h
 |succ n =>
  unfold cB at h;split at h
  ·rfl
  ·exact q5c h
def q0C:List Str:=["len", "sorted", "tuple", "list", "sum", "all", "int", "abs", "range", "isinstance", "set", "bool", "ValueError", "min", "max"]
def KOk (a b:Option NameKind):Prop:=a=b\/(a=some .free/\b=some .cell)
def qC2:List Value:=[.type "ValueError",.type "Exception",.type "BaseException",.type "object"]
structure CtOk (k:Nat) (X:Cx) (C:Ct) (p:Pm) (G:Nat->List D->R D) (sub:Nat->Nat->Bool):Prop where
 N:X.N=C.N
 nd:C.N.Nodup
 kinds:∀x,KOk (C.kinds.lookup x) (X.env.scope.names.lookup x)
 calm:X.calm=true
 K:p.K=X.K
 room:Room (k+2) X.A
 blt:∀x∈q0C,X.mg x=none
 funs:∀(j:Nat) (f:Str),C.funs[j]? = some f->∃fa fd ps,FnOk X.prog X.w X.K X.mg X.base (CXs X.prog X.w) k fa fd ps (spG p G j ps.length)/\X.mg f=some (.ref fa)/\PySem.W.keepIn X.K (.ref fa)=true/\Binds X.K fd ps []/\∀ds,G j ds ≠ .stuck->ds.length=ps.length
 consts:∀(x:Str) (d:D),C.consts.lookup x=some d->∃a t,d = .int a/\X.mg x=some (.int a t)
 newf:∀(j:Nat) (f:Str),C.funs[j]? = some f->j∈C.news->∃fa fd ps,FnOk X.prog X.w X.K X.mg X.base (CXs X.prog X.w) k fa fd ps (spF p G j ps.length)/\X.mg f=some (.ref fa)/\PySem.W.keepIn X.K (.ref fa)=true/\Binds X.K fd ps []/\∀ds,G j ds ≠ .stuck->ds.length=ps.length
 excs:∀(c:Nat) (x:Str),C.excs[c]? = some x->∃Cc,p.cls[c]? = some Cc/\OwnCls x Cc qC2 "ValueError.__new__" X.mg X.base
 exok:∀(c:Nat) (Cc:Addr),p.cls[c]? = some Cc->ExOk X.K Cc/\kitOne X.K (.ref Cc) (.type "ValueError")=some true
 exm:∀(e c:Nat) (Ce Cc:Addr),p.cls[e]? = some Ce->p.cls[c]? = some Cc->exmOne X.K (.ref Ce) (.ref Cc)=some (sub e c)/\kitOne X.K (.ref Ce) (.ref Cc)=some (sub e c)
def SSet:Prop:=∀(X:Cx) (p:Pm) (G:Nat->List D->R D) (sub:Nat->Nat->Bool) (a:PySem.Expr) (la:L) (q q2 q3 pos:Pos),p.K=X.K->X.calm=true->X.A.units+64<cLine->X.mg "sorted" = none->X.mg "set" = none->SB X p G sub a la->okE a=true->Gl X "sorted"->Gl X "set"->
 SE X p G sub (.Call (.Name "sorted" q) [.Call (.Name "set" q2) [a] [] q3] [] pos) (.bi .sortedSet [la])
section
variable {k:Nat}{X:Cx}{C:Ct}{p:Pm}{G:Nat->List D->R D}{sub:Nat->Nat->Bool}
theorem q1F (h:q2a x=true):(x==("__debug__":Str))=false/\(x==("__classdict__":Str))=false:=by unfold q2a at h;simp only[Qd,Bool.not_eq_true'] at h;exact h
theorem CtOk.hu (T:CtOk k X C p G sub):X.A.units+64<cLine:=T.room.units
theorem CtOk.vis (T:CtOk k X C p G sub) (h:C.vis x=true):Vis X.env.scope x/\(x==("__debug__":Str))=false/\(x==("__classdict__":Str))=false:=by
 unfold Ct.vis at h;rw[Qd] at h;refine⟨?_,q1F h.1⟩;have h2:=h.2;have kk:=T.kinds x;unfold Vis;split at h2
 ·rename_i e;rw[e] at kk;rcases kk with z|⟨z,_⟩
  ·exact .inl z.symm
  ·cases z
 ·rename_i e;rw[e] at kk;rcases kk with z|⟨z,_⟩
  ·exact .inr (.inl z.symm)
  ·cases z
 ·rename_i e;rw[e] at kk;rcases kk with z|⟨_,z⟩
  ·exact .inr (.inr z.symm)
  ·exact .inr (.inl z)
 ·cases h2
theorem CtOk.glob (T:CtOk k X C p G sub) (h:C.glob x=true):Gl X x/\(x==("__debug__":Str))=false:=by
 unfold Ct.glob at h;rw[Qd] at h;refine⟨?_,(q1F h.1).1⟩;have e:=of_decide_eq_true h.2;have kk:=T.kinds x;rw[e] at kk;rcases kk with z|⟨z,_⟩
 ·exact z.symm
 ·cases z
theorem CtOk.loc (T:CtOk k X C p G sub) (h:C.loc x=some i):Loc X.env.scope x/\X.N[i]? = some x:=by
 unfold Ct.loc at h;have kk:=T.kinds x;split at h
 case isFalse=>cases h
 split at h
 ·rename_i e;rw[e] at kk;rcases kk with z|⟨z,_⟩
  ·exact⟨.inl z.symm,by rw[T.N];exact q1M h⟩
  ·cases z
 ·rename_i e;rw[e] at kk;rcases kk with z|⟨z,_⟩
  ·exact⟨.inr z.symm,by rw[T.N];exact q1M h⟩
  ·cases z
 ·cases h
theorem q9k (h:C.loc x=some i):(x==("__debug__":Str))=false/\(x==("__classdict__":Str))=false:=by
 unfold Ct.loc at h;split at h
 ·rename_i e;exact q1F e
 ·cases h
theorem CtOk.at (T:CtOk k X C p G sub) (h:ixOf x C.N=some i):X.N[i]? = some x:=by rw[T.N];exact q1M h
theorem q2g {α:Type}{f:α->Bool}{l:List α}(h:l.all f=true):∀x∈l,f x=true:=Qw.mp h
theorem CtOk.inner (T:CtOk k X C p G sub) {ts:List Str}{sc:Scope}(h:C.scOk ts sc=true):ScOk X sc ts/\(inN ts X.N).Nodup/\(∀x∈ts,sc.names.lookup x=some .local)/\
  ∀s2 H2 cl C' fp,CtOk k (cxC X s2 H2 sc cl C' (inN ts X.N) fp) (C.inner ts sc) p G sub:=by
 unfold Ct.scOk at h;simp only[Qd,decide_eq_true_eq] at h;obtain⟨⟨⟨⟨h1,h2⟩,h3⟩,h4⟩,h5⟩:=h;have eN:(C.inner ts sc).N=inN ts X.N:=by unfold Ct.inner inN;rw[T.N]
 have h4':=q2g h4;have h5':=q2g h5;have h3':∀x∈ts,sc.names.lookup x=some .local:=λ x hx=>of_decide_eq_true (q2g h3 x hx);refine⟨⟨h1,λ y hy=>?_,λ y hy hf=>?_,λ y hy hl=>?_,λ y hy hm=>?_,λ y hy hm=>?_⟩,by rw[<-eN];exact h2,h3',λ s2 H2 cl C' fp=>⟨eN.symm,h2,λ x=>?_,T.calm,T.K,T.room,T.blt,T.funs,T.consts,T.newf,T.excs,T.exok,T.exm⟩⟩
 ·have:=h4' y hy;simp only[Qd,decide_eq_true_eq] at this;exact this.1.1
 ·have:=h4' y hy;simp only[Qd,Q6,decide_eq_true_eq] at this;have kk:=T.kinds y.1;rcases this.1.2 with (z|z)|z
  ·exact absurd hf z
  ·rw[z] at kk;rcases kk with w|⟨w,_⟩
   ·exact .inl w.symm
   ·cases w
  ·rw[z] at kk;rcases kk with w|⟨_,w⟩
   ·exact .inr w.symm
   ·exact .inl w
 ·have:=h4' y hy;simp only[Qd,Q6,decide_eq_true_eq] at this;rcases this.2 with z|z
  ·exact absurd hl z
  ·exact z
 ·have:=h5' y (by rw[<-T.N];exact hy);rw[if_pos hm] at this;exact of_decide_eq_true this
 ·have:=h5' y (by rw[<-T.N];exact hy);rw[if_neg hm] at this;exact of_decide_eq_true this
 ·show KOk (sc.names.lookup x) ((relabel sc X.env).names.lookup x);rw[q0N];cases e:sc.names.lookup x with
  |none=>exact .inl rfl
  |some kd =>
   rw[Option.map_some];split
   ·rename_i c;simp only[Qd,beq_iff_eq] at c;exact .inr ⟨by rw[c.1.1],rfl⟩
   ·exact .inl rfl
end
end Snd
namespace Snd
open PySem PySem.Spec PySem.W PyProof.Rows L2 Ev
section
variable {X:Cx}{p:Pm}{G:Nat->List D->R D}{sub:Nat->Nat->Bool}
theorem q9l (f:Nat->V):∀(its:List Value) (k:Nat),(∀j v,its[j]? = some v->RelV (f (k+j)) v)->Vals ((Qg its.length).map λ j=>f (k+j)) its
 |[],k,_=> .nil
 |v::r,k,h=>by
  have ih:=q9l f r (k+1) λ j u e=>by
   have:=h (j+1) u (by simpa using e)
   rwa [show k+(j+1)=k+1+j by lia] at this
  have e:(Qg (v::r).length).map (λ j=>f (k+j))=f (k+0)::(Qg r.length).map (λ j=>f (k+1+j)):=by rw[Qo,List.range_succ_eq_map,Qx,Jv];congr 1;refine List.map_congr_left λ a _=>?_;simp only[Function.comp,Nat.succ_eq_add_one];congr 1;lia
  rw[e];exact .cons (h 0 v rfl) ih
theorem qGn {a:PySem.Expr}{l:L}{q q2 q3 pos:Pos}(hc:X.calm=true) (hgl:Gl X "list") (hml:X.mg "list" = none) (hgr:Gl X "range") (hmr:X.mg "range" = none) (hdl:(("list":Str)==("__debug__":Str))=false) (ha:SE X p G sub a l)
  (hst:starEach [a] X.env=[(false,eval a X.env)]):SE X p G sub (.Call (.Name "list" q) [.Call (.Name "range" q2) [a] [] q3] [] pos) (.lrng [l]):=by
 intro pins s σ H ρ os I R hs;have e0:ev G sub (.lrng [l]) ρ=(ev G sub l ρ).bind λ d=>(rngD [d]).bind λ is=>if is.length<=big then .ok (.lst is) else .stuck:=by rw[qBG];exact q2G (α:=D) (f:=λ d=>(rngD [d]).bind λ is=>if is.length<=big then Ev.R.ok (D.lst is) else .stuck) l ρ _ λ _=>rfl
 rw[e0] at hs |-;refine wpAny_Call_Name_kw (q1u I hgl hml PyProof.Rows.boot_list ?_ (by decide) hdl);refine PyProof.Rows.callWith_type1 ?_ rfl rfl;show wpAny _ _ (spliced ((false,eval (.Call (.Name "range" q2) [a] [] q3) X.env)::backTo pos [])) _ _ s;refine Calls.spliced_cons ?_;refine Call_ (q1u I hgr hmr boot_range (PyProof.Rows.callWith_type1 ?_ hst rfl));rw[hst];show wpAny _ _ (spliced ((false,eval a X.env)::backTo q3 [])) _ _ s;refine Calls.spliced_cons (wpAny_mono (ha pins s σ H ρ os I R (q0A hs)) (λ u s1 h=>Calls.spliced_nil ?_) (λ e s' z=>z.bind));obtain⟨d,v,H1,e1,I1,r1,x1,q1⟩:=h;rw[e1,q00] at hs |-;cases d<;>first
  |exact absurd rfl hs
  |skip
 rename_i j;have er:rngD [.int j]=if -(2^62)<=j/\j<2^62 then .ok ((Qg j.toNat).map λ (k:Nat)=>D.int k) else .stuck:=rfl
 by_cases hj:-(2^62)<=j/\j<2^62
 ·rw[er,if_pos hj,q00] at hs |-
  by_cases hb:((Qg j.toNat).map λ (k:Nat)=>D.int k).length<=big
  ·rw[if_pos hb];rw[Qh,QK] at hb;cases (show v=_ from q1);obtain⟨t,rfl⟩:=r1;refine call_range_1 (Calls.spliced_nil ?_);have I2:Inv X pins σ H1 {s1 with heap:=s1.heap.push {cls:= .type "range",data:= .fields #[.int 0 s1.toks,.int j t,.int 1 (s1.toks+1)]},toks:=s1.toks+1+1}:=I1.kept λ b o e=>Heap.get?_push_of_some _ e;have hsz:Builtin.Range.rangeSize 0 j 1=(j.toNat:Int):=(by rw[rangeSize_one];split<;>lia);refine call_list_range (I.ok.hd hc) (IsRange.new ..) (small_one (by lia) (by lia) hj.1 hj.2) hsz (by rw[q0K] at hb;lia) λ h' tk acc' c' hk e items=>?_;have hlen:acc'.toList.length=j.toNat:=(by rw[Array.length_toList];exact items.1);have rv:Vals ((Qg acc'.toList.length).map λ k=>V.int (0+((0+k:Nat):Int))) acc'.toList:=q9l (λ k=>V.int (0+(k:Int))) acc'.toList 0 λ i u eu=>by obtain⟨t',rfl⟩:=items.2 i u (by rw[<-Array.getElem?_toList];exact eu);refine⟨t',?_⟩;congr 1
   rw[hlen] at rv;have rv':Vals ((Qg j.toNat).map λ (k:Nat)=>V.int (0+(k:Int))) acc'.toList:=(by simpa using rv);have fr:=I2.hok.fresh (Qi _);refine⟨_,.ref _,upd H1 _ (.lst ((Qg j.toNat).map λ (k:Nat)=>V.int (0+(k:Int)))),rfl,I2.laid (t':=tk) hk (Qi _) (show q1O X.prog X.w _ h' _ (.lst _) from⟨by rw[Qh,QK];exact Qn hb q0a,acc'.toList,c',rv',e⟩),rfl,x1.trans (Ext.upd fr),?_⟩;rw[rng0];exact (q46 (R.ext x1).th (q6P 0 _) fr).2
  ·rw[if_neg hb] at hs;exact absurd rfl hs
 ·rw[er,if_neg hj] at hs;exact absurd rfl hs
end
end Snd
namespace Snd
open PySem PySem.Spec PySem.W PyProof.Rows L2 Ev
variable {i:Nat}{x:Str}{q pos:Pos}
section
variable {X:Cx}{p:Pm}{G:Nat->List D->R D}{sub:Nat->Nat->Bool}
theorem qGo (hi:X.N[i]? = some x) (hv:Vis X.env.scope x) (hd:(x==("__debug__":Str))=false) (hcd:(x==("__classdict__":Str))=false):SS X p G sub (.Return (some (.Name x q)) pos) (.retF i):=by
 intro H0 O0 E hp pins s σ H ρ os I B hs hE;rw[q8b] at hs hE |-;have lt:i < ρ.length:=by rw[<-B.slen,I.len];exact (Qc.mp hi).1
 have wk:Inv X pins (σ.set i none) H s:=I.weak (by simp) λ j v e=>by
  by_cases c:i=j
  ·subst c;rw[Q8 (by rw[B.slen];exact lt)] at e;cases e
  ·rw[Je c] at e;exact e
 split at hs
 ·rename_i xs hρ;simp only[hρ] at hE |-;obtain⟨y,as,s1,s2,a,rfl,rfl,vs,h1,h2⟩:=B.at hρ;have mo:a∈os.flatten:=QU.mpr ⟨[a],Qk s2,by simp⟩;refine wpAny_Return_some (q2c I hi hv s1 hd hcd λ u r=>?_);cases r;exact⟨_,.retN (.lst xs),_,_,H,rfl,B.setN (y:=none) lt,wk,a,xs,vs,rfl,rfl,B.new a mo,h1,h2.mono (q2d λ b hb=>by rw[q0d];exact (Qf.mp hb).elim (λ e=>Qv _ (e▸mo)) λ h=>Qj _ h)⟩
 ·exact absurd rfl hs
theorem qGp {j kk:Nat}{fn:Str}{f:Addr}{fd:FuncData}{ps:List Str}{e:PySem.Expr}{es:List PySem.Expr}{ls:List L}{cp pos':Pos}(hN:X.N.Nodup) (hi:X.N[i]? = some x) (hx:Loc X.env.scope x) (hf:X.fn x=true\/X.env.scope.names.lookup x=some .local)
  (F:FnOk X.prog X.w X.K X.mg X.base (CXs X.prog X.w) kk f fd ps (spF p G j ps.length)) (hr:Room kk X.A) (hg:Gl X fn) (hm:X.mg fn=some (.ref f)) (hk:PySem.W.keepIn X.K (.ref f)=true) (hb:Binds X.K fd ps []) (ha:SA X p G sub (e::es) ls) (hlen:∀ds,G j ds ≠ .stuck->ds.length=ps.length)
  (hdb:(fn==("__debug__":Str))=false) (he:starEach (e::es) X.env=(false,eval e X.env)::starEach es X.env) (hpl:(backTo cp (starEach es X.env)).any (·.1)=false) :
  SS X p G sub (.Assign [.Name x pos'] (.Call (.Name fn q) (e::es) [] cp) pos) (.setF i j ls):=by
 intro H0 O0 E hp pins s σ H ρ os I B hs hE;rw[qBH] at hs hE |-;have lt:i < ρ.length:=by rw[<-B.slen,I.len];exact (Qc.mp hi).1
 refine wpAny_Assign_Name (wpAny_Call_Name_kw (q2X I hg hm ?_ hdb)) rfl;refine PySem.W.callWith_K (h₀:=X.base) I.ok.mod.kin hk (wpAny_mono (ha cp pins s σ H ρ _ I B.rel (q1t hs)) (λ us s1 ⟨ds,vs,H1,e1,I1,r1,x1,q1⟩=>⟨I1.kIn,?_⟩) (λ e s' z=>hE e s' (q2W B z))) he hpl;rw[e1,q04] at hs hE |-;have B1:=B.mono x1;refine wpAny_mono (q7e F hr hb I1 r1 B1.rel.nd B1.rel.th q1 (hlen ds (q1t hs)) (q1t hs)) (λ u s2 ⟨xs,a,ys,H2,e2,I2,eu,x2,na,ha2,q2⟩=>?_) (λ e s' z=>hE e s' (q2W B1 z));subst eu;rw[e2,q04];refine q0q (v:= .ref a) I2 hN hi hx rfl (λ s3 I3=>⟨_,.nx,_,_,_,rfl,B1.setO lt x2 (as:=[a]) (by simp) (λ b hb=>?_) (λ b hb=>?_) ⟨a,rfl,rfl,ys,ha2,q2.mono (q2d λ b hb=>?_)⟩,I3,trivial⟩) hf
 ·rw[Qt.mp hb];exact na
 ·rw[Qt.mp hb];exact⟨_,ha2⟩
 ·rcases Qm.mp hb with h|h
  ·exact Qa _ h
  ·rw[Qt.mp h];exact Qb
theorem qGq {j kk:Nat}{fn:Str}{f:Addr}{fd:FuncData}{ps:List Str}{e:PySem.Expr}{es:List PySem.Expr}{ls:List L}{q2 ap cp cp2:Pos}(hi:X.N[i]? = some x) (hv:Vis X.env.scope x) (hd:(x==("__debug__":Str))=false) (hcd:(x==("__classdict__":Str))=false) (hline:(ap.endLine==cp.line)=true)
  (F:FnOk X.prog X.w X.K X.mg X.base (CXs X.prog X.w) kk f fd ps (spF p G j ps.length)) (hr:Room kk X.A) (hg:Gl X fn) (hm:X.mg fn=some (.ref f)) (hk:PySem.W.keepIn X.K (.ref f)=true) (hb:Binds X.K fd ps []) (ha:SA X p G sub (e::es) ls) (hlen:∀ds,G j ds ≠ .stuck->ds.length=ps.length)
  (hdb:(fn==("__debug__":Str))=false) (he:starEach (e::es) X.env=(false,eval e X.env)::starEach es X.env) (hpl:(backTo cp2 (starEach es X.env)).any (·.1)=false) :
  SS X p G sub (.Expr (.Call (.Attribute (.Name x q) "extend" ap) [.Call (.Name fn q2) (e::es) [] cp2] [] cp) pos) (.extF i j ls):=by
 intro H0 O0 E hp pins s σ H ρ os I B hs hE;rw[qBI] at hs hE |-;have hst:starEach [.Call (.Name fn q2) (e::es) [] cp2] X.env=[(false,eval (.Call (.Name fn q2) (e::es) [] cp2) X.env)]:=rfl;split at hs
 ·rename_i xs hρ;simp only[hρ] at hE |-;obtain⟨y,as,s1,s2,a',rfl,rfl,vs,s5,s6⟩:=B.at hρ;refine wpAny_Expr_any (wpAny_Call_method_late rfl (by rw[hst];rfl) hline rfl (q2c I hi hv s1 hd hcd λ u r=>?_)) I.quiet rfl;cases r;obtain⟨h1,h2⟩:=q7C (T := "list") (x:= .ref a') I rfl (.inl ⟨rfl,_,SqL.of s5⟩);refine⟨"list", "list.extend",PySem.F.plainAttrs_list,PySem.F.slot_list_extend,PySem.F.type_list_extend,h1,h2,?_⟩;rw[hst];refine Calls.callWith_builtin rfl (Calls.evalArgs_plain ?_);show wpAny _ _ (spliced ((false,eval (.Call (.Name fn q2) (e::es) [] cp2) X.env)::[])) _ _ s;refine Calls.spliced_cons (wpAny_Call_Name_kw (q2X I hg hm ?_ hdb));refine PySem.W.callWith_K (h₀:=X.base) I.ok.mod.kin hk (wpAny_mono (ha cp2 pins s σ H ρ _ I B.rel (q1t hs)) (λ us s3 ⟨ds,us',H1,e1,I1,r1,x1,q1⟩=>⟨I1.kIn,?_⟩) (λ e s' z=>hE e s' (q2W B z))) he hpl;rw[e1,q04] at hs hE |-;have B1:=B.mono x1;refine wpAny_mono (q7e F hr hb I1 r1 B1.rel.nd B1.rel.th q1 (hlen ds (q1t hs)) (q1t hs)) (λ u s4 ⟨zs,b,ys,H2,e2,I2,eu,x2,nb,hb2,q3⟩=>Calls.spliced_nil ?_) (λ e s' z=>hE e s' (q2W B1 z));subst eu;rw[e2,q04] at hs hE |-;dsimp only at hs hE |-;have z:xs.length+zs.length<=big:=by
   by_cases z:xs.length+zs.length<=big
   ·exact z
   ·rw[if_neg z] at hs;exact absurd rfl hs
  rw[if_pos z];have l1:=s6.length;have l2:=q3.length;have B2:=B1.mono x2;refine wpAny_mono (qB5 (X:=X.wish E) pins s4 σ H2 (.ref a') [.ref b] _ _ (λ z H'=>H'=upd H2 a' (.lst (vs++ys))) (I2.wish E) rfl (.cons rfl .nil) ⟨a',b,vs,ys,rfl,rfl,x2 _ _ (x1 _ _ s5),hb2,Qn (by lia) q0a,rfl⟩) (λ w s5' ⟨zv,H3,I3,_,eH⟩=>?_) (λ _ _ z=>z);subst eH;exact⟨_,.nx,σ,os,_,rfl,B2.write s1 s2 (by simp) ⟨a',rfl,rfl,_,q0B,(s6.mono (q1E (x1.trans x2))).append (q3.mono (q2d λ c hc=>Qa _ hc))⟩,I3.q2Y,trivial⟩
 ·exact absurd rfl hs
end
end Snd
set_option maxHeartbeats 400000
namespace Snd
open PySem PySem.Spec PySem.W PyProof.Rows L2 Ev
variable {C:Ct}{n:Nat}{e a:PySem.Expr}{es:List PySem.Expr}{ls:List L}{X:Cx}{q pos:Pos}{l:L}
section
variable {k:Nat}{p:Pm}{G:Nat->List D->R D}{sub:Nat->Nat->Bool}
structure SoE (k:Nat) (p:Pm) (G:Nat->List D->R D) (sub:Nat->Nat->Bool) (n:Nat):Prop where
 E:∀(X:Cx) (C:Ct),CtOk k X C p G sub->∀e l,cE n C e=some l->SE X p G sub e l
 B:∀(X:Cx) (C:Ct),CtOk k X C p G sub->∀e l,cB n C e=some l->SB X p G sub e l
 Es:∀(X:Cx) (C:Ct),CtOk k X C p G sub->∀es ls,cEs n C es=some ls->SA X p G sub es ls
 Bo:∀(X:Cx) (C:Ct),CtOk k X C p G sub->∀op xs l,cBo n C op xs=some l->∀pos,SE X p G sub (.BoolOp op xs pos) l
 T:∀(X:Cx) (C:Ct),CtOk k X C p G sub->∀e t,cT n C e=some t->ST X p G sub e t
 To:∀(X:Cx) (C:Ct),CtOk k X C p G sub->∀op xs t,cTo n C op xs=some t->∀pos,ST X p G sub (.BoolOp op xs pos) t
 I:∀(X:Cx) (C:Ct),CtOk k X C p G sub->∀e i,cI n C e=some i->∀tg,(∃fr,SI X p G sub fr tg e i)/\(C.q8S e=false->SI X p G sub true tg e i)
 Call:∀(X:Cx) (C:Ct),CtOk k X C p G sub->∀f args l,qDQ n C f args=some l->C.glob f=true->ixOf f C.funs=none->∀q pos,SE X p G sub (.Call (.Name f q) args [] pos) l
theorem qLb:("len":Str)∈q0C:=by unfold q0C;simp
theorem qJk:("sorted":Str)∈q0C:=by unfold q0C;simp
theorem qJl:("tuple":Str)∈q0C:=by unfold q0C;simp
theorem qGr:("list":Str)∈q0C:=by unfold q0C;simp
theorem qLc:("all":Str)∈q0C:=by unfold q0C;simp
theorem qLd:("int":Str)∈q0C:=by unfold q0C;simp
theorem qGs:("range":Str)∈q0C:=by unfold q0C;simp
theorem qLe:("isinstance":Str)∈q0C:=by unfold q0C;simp
theorem qJm:("set":Str)∈q0C:=by unfold q0C;simp
theorem qJn:("bool":Str)∈q0C:=by unfold q0C;simp
theorem qJo:("ValueError":Str)∈q0C:=by unfold q0C;simp
theorem q3h (h:cEs (n+1) C (e::es)=some ls):∃a l,cE n C e=some a/\cEs n C es=some l/\ls=a::l:=by obtain⟨a,g1,h⟩:=oB h;obtain⟨l,g2,h⟩:=oM h;exact⟨a,l,g1,g2,h.symm⟩
theorem q9m {ls:List Ev.T}(h:cTs (n+1) C (e::es)=some ls):∃a l,cT n C e=some a/\cTs n C es=some l/\ls=a::l:=by obtain⟨a,g1,h⟩:=oB h;obtain⟨l,g2,h⟩:=oM h;exact⟨a,l,g1,g2,h.symm⟩
theorem q9n {args:List PySem.Expr}(h:qIZ C e=some args):∃q pos,e = .Call (.Name (Str.ofString "range") q) args [] pos/\C.glob (Str.ofString "range")=true:=by
 obtain⟨⟨f,as⟩,g1,h⟩:=oB h;dsimp only at h;split at h
 ·rename_i hf;obtain⟨rfl,hg,_⟩:=hf;cases h;obtain⟨q,pos,rfl⟩:=q6C g1;exact⟨_,_,rfl,hg⟩
 ·cases h
theorem q7j {C:Ct}:∀{n:Nat}{es:List PySem.Expr}{ls:List L},cEs n C es=some ls->∀x∈es,okE x=true
 |0,es,ls,h=>by simp[cEs] at h
 |n+1,[],ls,h=>λ x hx=>absurd hx (by simp)
 |n+1,e::es,ls,h=>by
  obtain⟨a,l,g1,g2,rfl⟩:=q3h h;intro x hx;rcases Qf.mp hx with rfl|hx
  ·exact q5c g1
  ·exact q7j g2 x hx
theorem q3i {env:PySem.Env}{pos:Pos}:∀{es:List PySem.Expr},(∀x∈es,okE x=true)->(backTo pos (starEach es env)).any (·.1)=false
 |[],_=>rfl
 |e::es,h=>by rw[q0y (h e (by simp))];show (false || (backTo pos (starEach es env)).any (·.1))=false;rw[q3i λ x hx=>h x (Qa _ hx)];rfl
theorem qE5 {kk j:Nat}{f:Addr}{fd:FuncData}{ps:List Str}{x:Str}(F:FnOk X.prog X.w X.K X.mg X.base (CXs X.prog X.w) kk f fd ps (spG p G j ps.length)) (hr:Room kk X.A)
  (hg:Gl X x) (hm:X.mg x=some (.ref f)) (hk:PySem.W.keepIn X.K (.ref f)=true) (hb:Binds X.K fd ps []) (ha:SA X p G sub (e::es) ls) (hlen:∀ds,G j ds ≠ .stuck->ds.length=ps.length)
  (hdb:(x==("__debug__":Str))=false) (he:starEach (e::es) X.env=(false,eval e X.env)::starEach es X.env) (hpl:(backTo pos (starEach es X.env)).any (·.1)=false):SE X p G sub (.Call (.Name x q) (e::es) [] pos) (.call j ls):=by
 intro pins s σ H ρ os I R hs;rw[q0h] at hs |-;refine wpAny_Call_Name_kw (q2X I hg hm ?_ hdb);refine PySem.W.callWith_K (h₀:=X.base) I.ok.mod.kin hk (wpAny_mono (ha pos pins s σ H ρ os I R (q0A hs)) (λ us s1 ⟨ds,vs,H1,e1,I1,r1,x1,q1⟩=>⟨I1.kIn,?_⟩) (λ e s' z=>z.bind)) he hpl;rw[e1,q00] at hs |-;exact wpAny_mono (qDs F hr hb I1 r1 (R.ext x1).nd (R.ext x1).th q1 (hlen ds hs) hs) (λ u s2 ⟨d,v,H2,e2,I2,rv,x2,q2⟩=>⟨d,v,H2,e2,I2,rv,x1.trans x2,q2⟩) (λ e s' z=>z.ext x1)
theorem qGt {i:I}(h:cI n C e=some i):okE e=true:=by
 cases n with
 |zero=>cases h
 |succ n =>
  unfold cI at h;split at h
  ·rename_i args hr;obtain⟨q,pos,rfl,_⟩:=q9n hr;cases args with
   |cons a r=>rfl
   |nil=>rw[if_neg (by decide)] at h;cases h
  ·split at h
   ·rename_i x hx;obtain⟨q,rfl⟩:=q0E hx;rfl
   ·obtain⟨l,e1,_⟩:=oM h;exact q5c e1
theorem q7k (ih:∀m,m<n->∀(X:Cx) (C:Ct),CtOk k X C p G sub->∀e t,cT m C e=some t->ST X p G sub e t) (T:CtOk k X C p G sub) {ifs:List PySem.Expr}{ts:List Ev.T}(h:cTs n C ifs=some ts) (hl:ts.length<=1):STs X p G sub ifs ts:=by
 cases n with
 |zero=>simp[cTs] at h
 |succ n =>
  cases ifs with
  |nil=>simp[cTs] at h;exact .inl ⟨rfl,h⟩
  |cons c r =>
   obtain⟨a,l,g1,g2,rfl⟩:=q9m h;cases l with
   |cons _ _=>exact absurd hl (λ z=>Nat.not_succ_le_zero _ (Nat.le_of_succ_le_succ z))
   |nil =>
    cases r with
    |nil=>exact .inr ⟨c,a,rfl,rfl,ih n (Q7 n) X C T _ _ g1⟩
    |cons c2 r2 =>
     cases n with
     |zero=>cases g2
     |succ n=>obtain⟨_,_,_,_,z⟩:=q9m g2;cases z
theorem q7l {tg:PySem.Expr}{kk:Nat}{ts:List Str}{s2:Shared}{H2:Hp}{sc:Scope}{cl:List (Str×Addr)}{C':Addr}{fp:List Addr}(hK:p.K=X.K) (hc:X.calm=true) (nd:(inN ts X.N).Nodup) (rl:∀x∈ts,(cxC X s2 H2 sc cl C' (inN ts X.N) fp).env.scope.names.lookup x=some .local)
  (h:tgs tg=some (kk,ts)):SGc (cxC X s2 H2 sc cl C' (inN ts X.N) fp) p tg kk ts.length:=by
 unfold tgs at h;split at h
 ·cases h;exact q9W nd rfl (rl _ (Qb ..))
 ·obtain⟨ab,h1,h⟩:=oB h;obtain⟨x,h2,h⟩:=oB h;obtain⟨y,h3,h⟩:=oM h;obtain⟨q1,e1⟩:=q0E h2;obtain⟨q2,e2⟩:=q0E h3;rw[qFy h1,e1,e2];cases h;exact qGU hK hc nd rfl (rl _ (Qb ..)) rfl (rl _ (Qa _ (Qb ..)))
 ·cases h
theorem qFG {ops:List CmpOp}{cs:List PySem.Expr}(h:cE (n+1) C (.Compare a ops cs q)=some l):∃op b la lb,ops=[op]/\cs=[b]/\cB n C a=some la/\cB n C b=some lb/\l = .cm (cmOf op) la lb:=by obtain⟨op,h1,h⟩:=oB h;obtain⟨b,h2,h⟩:=oB h;obtain⟨la,g1,h⟩:=oB h;obtain⟨lb,g2,h⟩:=oM h;exact⟨op,b,la,lb,q17 h1,q17 h2,g1,g2,h.symm⟩
theorem qJp {ops:List CmpOp}{cs:List PySem.Expr}(h:cB n C (.Compare a ops cs q)=some l):∃m op b la lb,m<n/\ops=[op]/\cs=[b]/\cB m C a=some la/\cB m C b=some lb/\l = .cm (cmOf op) la lb:=by
 cases n with
 |zero=>cases h
 |succ n =>
  cases n with
  |zero=>cases h
  |succ n =>
   obtain⟨op,b,la,lb,z⟩:=qFG (q:=q) h;exact⟨n,op,b,la,lb,Qp (Q7 n) (Nat.le_succ _),z⟩
def plainT:PySem.Expr->Bool
 | .BoolOp _ _ _=>false
 | .UnaryOp .Not _ _=>false
 | .IfExp _ _ _ _=>false
 | .Compare _ _ _ _=>false
 |_=>true
theorem qE6 {env:PySem.Env}(h:plainT e=true):∀whole,isTrue e env whole=(do let v <-whole;standAt e.pos;holding [v] (truthy v)):=by
 intro whole;cases e<;>first|(cases h;done)|skip
 all_goals first|(with_unfolding_all rfl;done)|(rename_i op _ _;cases op<;>first|(cases h;done)|(with_unfolding_all rfl))
theorem qGu (h:plainT e=true):q8R e=false:=by
 cases e<;>first|rfl|(cases h;done)|skip
 rename_i op _ _;cases op<;>first|rfl|(cases h;done)
theorem q8m (h:cEs n C []=some ls):ls=[]:=by
 cases n with
 |zero=>cases h
 |succ n=>cases h;rfl
theorem qC3 (h:cEs n C [a]=some ls):∃l,ls=[l]:=by
 cases n with
 |zero=>cases h
 |succ n =>
  obtain⟨l,_,_,g2,rfl⟩:=q3h h;rw[q8m g2];exact⟨_,rfl⟩
theorem qGv {b:PySem.Expr}(h:cEs n C [a,b]=some ls):∃l m,ls=[l,m]:=by
 cases n with
 |zero=>cases h
 |succ n =>
  obtain⟨l,_,_,g2,rfl⟩:=q3h h;obtain⟨m,rfl⟩:=qC3 g2;exact⟨_,_,rfl⟩
theorem qC4 {f:Str}{b:Bi}{la:L}(T:CtOk k X C p G sub) (h:bi1 f=some b) (hg:Gl X f) (hd:(f==("__debug__":Str))=false) (ha:SB X p G sub a la) (hst:starEach [a] X.env=[(false,eval a X.env)]):SE X p G sub (.Call (.Name f q) [a] [] pos) (.bi b [la]):=by
 unfold bi1 at h;split at h
 ·rename_i e;cases h;subst e;exact qBj (qJO T.K) hg (T.blt _ qLb) PySem.boot_len ha (by decide) hd hst
 split at h
 ·rename_i e;cases h;subst e;exact qBj (qBp T.K T.calm T.hu) hg (T.blt _ qJk) PyProof.Rows.boot_sorted ha (by decide) hd hst
 split at h
 ·rename_i e;cases h;subst e;exact qBk (qDn T.K) hg (T.blt _ qJl) PyProof.Rows.boot_tuple ha (by decide) hd hst
 split at h
 ·rename_i e;cases h;subst e;exact qBk (qGX T.K) hg (T.blt _ qGr) PyProof.Rows.boot_list ha (by decide) hd hst
 split at h
 ·rename_i e;cases h;subst e;exact qBj (qJP T.K T.calm) hg (T.blt _ qLc) PyProof.Rows.boot_all ha (by decide) hd hst
 ·cases h
theorem qAb {c:Str}{b:Bi}{la:L}{q2:Pos}(T:CtOk k X C p G sub) (h:isOf C c=some b) (hg:Gl X "isinstance") (ha:SB X p G sub a la) (hst:starEach [a,.Name c q2] X.env=[(false,eval a X.env),(false,eval (.Name c q2) X.env)]):SE X p G sub (.Call (.Name "isinstance" q) [a,.Name c q2] [] pos) (.bi b [la]):=by
 have hm:=T.blt _ qLe;unfold isOf at h;split at h
 ·rename_i hgc;obtain⟨g1,g2⟩:=T.glob hgc;split at h
  ·rename_i e;cases h;subst e;exact q4A (qJY T.K) hg hm ha (λ E Q pins s σ H I hq=>q1u I g1 (T.blt _ qJl) PyProof.Rows.boot_tuple hq (by decide) g2) hst
  split at h
  ·rename_i e;cases h;subst e;exact q4A (qJZ T.K) hg hm ha (λ E Q pins s σ H I hq=>q1u I g1 (T.blt _ qGr) PyProof.Rows.boot_list hq (by decide) g2) hst
  split at h
  ·rename_i e;cases h;subst e;exact q4A qJa hg hm ha (λ E Q pins s σ H I hq=>q1u I g1 (T.blt _ qLd) PyProof.Rows.boot_int hq (by decide) g2) hst
  split at h
  ·rename_i e;cases h;subst e;exact q4A qGe hg hm ha (λ E Q pins s σ H I hq=>q1u I g1 (T.blt _ qJn) PyProof.Rows.boot_bool hq (by decide) g2) hst
  split at h
  ·rename_i e;cases h;subst e;exact q4A (qJb T.exok) hg hm ha (λ E Q pins s σ H I hq=>q1u I g1 (T.blt _ qJo) (by decide +kernel) hq (by decide) g2) hst
  ·obtain⟨kk,e1,rfl⟩:=oM h;obtain⟨Cc,hc1,hc2⟩:=T.excs kk c (q1M e1);exact q4A (qJc (Cc:=Cc) λ e Ce he=>⟨(T.exok e Ce he).1,(T.exm e kk Ce Cc he hc1).2⟩) hg hm ha (λ E Q pins s σ H I hq=>q2X I g1 hc2.bound hq g2) hst
 ·cases h
theorem q5r {elt:PySem.Expr}{gs:List Comprehension}{sc:Scope}(h:cE (n+1) C (.ListComp elt gs sc pos)=some l):∃tg it ifs kk ts li le lc,gs=[⟨tg,it,ifs,0⟩]/\tgs tg=some (kk,ts)/\cI n C it=some li/\cE n (C.inner ts sc) elt=some le/\cTs n (C.inner ts sc) ifs=some lc/\C.scOk ts sc=true/\lc.length<=1/\l = .comp kk le li lc:=by
 obtain⟨g,hg,h⟩:=oB h;split at h
 ·rename_i ha;obtain⟨⟨kk,ts⟩,htg,h⟩:=oB h;obtain⟨li,c1,h⟩:=oB h;obtain⟨le,c2,h⟩:=oB h;obtain⟨lc,c3,h⟩:=oB h;split at h
  ·rename_i hsc;cases h;rw[Qd,decide_eq_true_eq] at hsc;obtain⟨tg,it,ifs,a⟩:=g;cases ha;exact⟨tg,it,ifs,kk,ts,li,le,lc,q17 hg,htg,c1,c2,c3,hsc.1,hsc.2,rfl⟩
  ·cases h
 ·cases h
theorem sound (hset:SSet):∀n,SoE k p G sub n:=by
 intro n
 induction n using Nat.strongRecOn with
 |ind n ih =>
  cases n with
  |zero =>
   refine⟨λ X C T e l h=>?_,λ X C T e l h=>?_,λ X C T e l h=>?_,λ X C T op e l h=>?_,λ X C T e l h=>?_,λ X C T op e l h=>?_,λ X C T e l h=>?_,λ X C T f a l h=>?_⟩
   all_goals cases h
  |succ n =>
   have ihn:=ih n (Q7 n);have hE:∀(X:Cx) (C:Ct),CtOk k X C p G sub->∀e l,cE (n+1) C e=some l->SE X p G sub e l:=by
    intro X C T e l h;cases e with
    |Constant c j pos =>
     obtain⟨d,e1,rfl⟩:=oM h;exact qF7 e1
    |Name x pos =>
     unfold cE at h;dsimp only at h;split at h
     ·rename_i hv;split at h
      ·cases h
      ·obtain⟨i,e1,rfl⟩:=oM h;obtain⟨v1,v2,v3⟩:=T.vis hv;exact qJ4 (T.at e1) v1 v2 v3
     ·split at h
      ·rename_i hg;obtain⟨d,e1,rfl⟩:=oM h;obtain⟨a,t,rfl,hm⟩:=T.consts x d e1;obtain⟨g1,g2⟩:=T.glob hg;exact qGI (v:= .int a) g1 hm ⟨t,rfl⟩ (λ _=>rfl) g2
      ·cases h
    |BinOp a op b pos =>
     obtain⟨o,e1,h⟩:=oB h;obtain⟨la,e2,h⟩:=oB h;obtain⟨lb,e3,rfl⟩:=oM h;exact qLV T.K e1 (ihn.B X C T _ _ e2) (ihn.B X C T _ _ e3)
    |Compare a ops bs pos =>
     obtain⟨op,b,la,lb,rfl,rfl,e2,e3,rfl⟩:=qFG h;exact qLW T.K T.hu (qC1 (q7i e3)) (ihn.B X C T _ _ e2) (ihn.B X C T _ _ e3)
    |UnaryOp op a pos =>
     cases op with
     |Not =>
      obtain⟨d,e1,rfl⟩:=oM h;exact qJB T.K (ihn.B X C T _ _ e1)
     |USub =>
      obtain⟨d,e1,rfl⟩:=oM h;exact qJ5 (ihn.E X C T _ _ e1)
     |_=>cases h
    |BoolOp op xs pos=>exact ihn.Bo X C T _ _ _ h _
    |IfExp c a b pos =>
     obtain⟨lc,e1,h⟩:=oB h;obtain⟨la,e2,h⟩:=oB h;obtain⟨lb,e3,rfl⟩:=oM h;exact qJC (ihn.T X C T _ _ e1) (ihn.E X C T _ _ e2) (ihn.E X C T _ _ e3)
    |Tuple xs j pos =>
     obtain⟨d,e1,rfl⟩:=oM h;exact qJD (ihn.Es X C T _ _ e1)
    |List xs pos =>
     obtain⟨d,e1,rfl⟩:=oM h;exact qJE (ihn.Es X C T _ _ e1)
    |Subscript a i pos =>
     have hix:∀i,(cB n C a).bind (λ a=>(cE n C i).map (.idx a))=some l->SE X p G sub (.Subscript a i pos) l:=λ i h=>by obtain⟨la,e1,h⟩:=oB h;obtain⟨li,e2,rfl⟩:=oM h;exact qJ3 T.K T.hu (qJj (q5c e2)) (ihn.B X C T _ _ e1) (ihn.E X C T _ _ e2).b
     cases i with
     |Slice lo hi st p2 =>
      obtain⟨kk,e1,h⟩:=oB h;obtain⟨la,e2,h⟩:=oB h;obtain⟨llo,e3,h⟩:=oB h;obtain⟨lhi,e4,h⟩:=oB h;split at h
      ·rename_i hc;cases h;have so:∀(o:Option PySem.Expr) (ls:List L),cEs n C o.toList=some ls->SO X p G sub o ls:=by
        intro o ls ho;cases o with
        |none=>exact .inl ⟨rfl,q8m ho⟩
        |some e =>
         cases n with
         |zero=>cases ho
         |succ n =>
          obtain⟨l1,l2,g1,g2,rfl⟩:=q3h ho;rw[q8m g2];exact .inr ⟨e,l1,rfl,rfl,(ih n (Qp (Q7 n) (Nat.le_succ _))).E X C T _ _ g1⟩
       unfold qEu at e1;split at e1
       ·cases e1;exact qE4 T.K (ihn.B X C T _ _ e2) (so _ _ e3) (so _ _ e4)
       ·cases e1
      ·cases h
     |_=>exact hix _ h
    |Call gg args kws pos =>
     cases gg with
     |Name f q =>
      unfold cE at h;dsimp only at h;split at h
      ·rename_i hg;obtain⟨g1,g2⟩:=T.glob hg;split at h
       ·rename_i i hi;split at h
        ·rename_i hne;obtain⟨hk0,hne⟩:=hne;obtain⟨ls,e1,rfl⟩:=oM h;obtain⟨fa,fd,ps,F,hm,hk,hb,hlen⟩:=T.funs i f (q1M hi);have SAs:=ihn.Es X C T _ _ e1;cases QO.mp hk0;cases args with
         |nil=>exact absurd rfl hne
         |cons a r =>
          have oks:∀x∈a::r,okE x=true:=q7j e1;exact qE5 F (T.room.mono (Nat.le_add_right _ _)) g1 hm hk hb SAs hlen g2 (q0y (oks a (Qb ..))) (q3i λ x hx=>oks x (Qa _ hx))
        ·cases h
       ·rename_i hi;split at h
        ·rename_i hk0;cases QO.mp hk0;exact ihn.Call X C T f args l h hg hi q pos
        ·cases h
      ·cases h
     |Attribute o m ap =>
      unfold cE at h;dsimp only at h;split at h
      ·rename_i hline;obtain⟨hk0,hline⟩:=hline;cases QO.mp hk0;obtain⟨lo,e1,h1⟩:=oB h;clear h;split at h1
       ·rename_i ha0;cases QO.mp ha0;split at h1
        ·rename_i hm;cases h1;subst hm;exact qGm (q8l (q7i e1)) hline (ihn.B X C T _ _ e1)
        ·cases h1
       ·obtain⟨y,hy,h⟩:=oB h1;clear h1;cases q17 hy;cases y with
        |Constant c j q =>
         obtain⟨d,e2,h1⟩:=oB h;clear h;have h:=h1;clear h1;split at h
         ·rename_i hm;cases h;subst hm;exact qE2 T.K T.hu e2 (q8l (q7i e1)) hline (ihn.B X C T _ _ e1)
         ·split at h
          ·rename_i hm;cases h;subst hm;exact qE3 T.K T.hu e2 (q8l (q7i e1)) hline (ihn.B X C T _ _ e1)
          ·cases h
        |_=>cases h
      ·cases h
     |_=>cases h
    |ListComp elt gs sc pos =>
     obtain⟨tg,it,ifs,kk,ts,li,le,lc,rfl,htg,e1,e2,e3,hsc1,hsc2,rfl⟩:=q5r h;obtain⟨S,ndN,hloc,inner⟩:=T.inner hsc1;obtain⟨fr,hi⟩:=(ihn.I X C T _ _ e1 tg).1;refine qGV T.calm S hi (λ s2 H2 cl C' fp=>ihn.E _ _ (inner s2 H2 cl C' fp) _ _ e2) (λ s2 H2 cl C' fp=>q7k (λ m hm X C T e t h=>(ih m (Jg hm)).T X C T e t h) (inner s2 H2 cl C' fp) e3 hsc2) (λ s2 H2 cl C' fp=>?_) (q8k (qGt e1));have rl:∀x∈ts,(cxC X s2 H2 sc cl C' (inN ts X.N) fp).env.scope.names.lookup x=some .local:=λ x hx=>by show (relabel sc X.env).names.lookup x=_;rw[q0N,hloc x hx];rfl
     exact q7l T.K T.calm ndN rl htg
    |_=>cases h
   have hB:∀(X:Cx) (C:Ct),CtOk k X C p G sub->∀e l,cB (n+1) C e=some l->SB X p G sub e l:=by
    intro X C T e l h;unfold cB at h;split at h
    ·rename_i x q;split at h
     ·rename_i hv;obtain⟨i,e1,rfl⟩:=oM h;obtain⟨v1,v2,v3⟩:=T.vis hv.1;exact qF8 (T.at e1) v1 v2 v3
     ·exact (ihn.E X C T _ _ h).b
    ·exact (ihn.E X C T _ _ h).b
   refine⟨hE,hB,λ X C T es ls h=>?_,λ X C T op xs l h pos=>?_,λ X C T e t h=>?_,λ X C T op xs t h pos=>?_,λ X C T e i h tg=>?_,λ X C T f args l h hg hi q pos=>?_⟩
   ·cases es with
    |nil=>cases h;exact qF9
    |cons e es =>
     obtain⟨a,l,g1,g2,rfl⟩:=q3h h;exact qBb (ihn.E X C T _ _ g1) (ihn.Es X C T _ _ g2) (q0y (q5c g1))
   ·cases xs with
    |nil=>cases h
    |cons a r =>
     cases r with
     |nil =>
      exact qJ9 (ihn.E X C T _ _ h)
     |cons b r =>
      obtain⟨la,g1,h⟩:=oB h;obtain⟨lb,g2,rfl⟩:=oM h;cases op with
      |And=>exact qJA (ihn.E X C T _ _ g1) (ihn.Bo X C T _ _ _ g2 _)
      |Or=>exact qLZ (ihn.E X C T _ _ g1) (ihn.Bo X C T _ _ _ g2 _)
   ·unfold cT at h;split at h
    ·exact ihn.To X C T _ _ _ h _
    ·obtain⟨a,e1,rfl⟩:=oM h;exact qJ6 (ihn.T X C T _ _ e1)
    ·cases h
    ·rename_i x1 x2 x3;obtain⟨a,e1,rfl⟩:=oM h
     by_cases hcmp:∃l0 ops cs q0,e = .Compare l0 ops cs q0
     ·obtain⟨l0,ops,cs,q0,rfl⟩:=hcmp;obtain⟨m,op,b,la,lb,hm,rfl,rfl,g1,g2,rfl⟩:=qJp e1;exact qLX T.K T.hu (qC1 (q7i g2)) ((ih m (by lia)).B X C T _ _ g1) ((ih m (by lia)).B X C T _ _ g2)
     ·have pt:plainT e=true:=by
       cases e<;>first|rfl|skip
       ·exact absurd rfl (x1 _ _ _)
       ·rename_i op a q;cases op<;>first|rfl|exact absurd rfl (x2 _ _)
       ·exact absurd rfl (x3 _ _ _ _)
       ·exact absurd ⟨_,_,_,_,rfl⟩ hcmp
      exact st_e T.K (qE6 pt) (qGu pt) (ihn.B X C T _ _ e1)
   ·cases xs with
    |nil=>cases h
    |cons a r =>
     cases r with
     |nil =>
      cases op with
      |And=>exact qGJ (ihn.T X C T _ _ h)
      |Or=>exact qJ7 (ihn.T X C T _ _ h)
     |cons b r =>
      obtain⟨la,g1,h⟩:=oB h;obtain⟨lb,g2,rfl⟩:=oM h;cases op with
      |And=>exact qJ8 (ihn.T X C T _ _ g1) (ihn.To X C T _ _ _ g2 _)
      |Or=>exact qLY (ihn.T X C T _ _ g1) (ihn.To X C T _ _ _ g2 _)
   ·have plain:(cE n C e).map I.e=some i->(∃fr,SI X p G sub fr tg e i)/\(C.q8S e=false->SI X p G sub true tg e i):=λ h=>by obtain⟨l,e1,rfl⟩:=oM h;exact⟨⟨true,si_e T.K (ihn.E X C T _ _ e1)⟩,λ _=>si_e T.K (ihn.E X C T _ _ e1)⟩
    unfold cI at h;split at h
    ·rename_i args hr;obtain⟨q,pos,rfl,hg⟩:=q9n hr;obtain⟨g1,g2⟩:=T.glob hg;have hm:=T.blt _ qGs;split at h
     ·obtain⟨ls,e1,rfl⟩:=oM h;have SAs:=ihn.Es X C T _ _ e1;have oks:=q7j e1;cases args with
      |nil=>rename_i z;exact absurd z (by decide)
      |cons a r =>
       have s1:=q0y (es:=r) (env:=X.env) (oks a (Qb ..));cases r with
       |nil =>
        obtain⟨la,rfl⟩:=qC3 e1;exact⟨⟨true,q58 g1 hm SAs s1⟩,λ _=>q58 g1 hm SAs s1⟩
       |cons b r =>
        cases r with
        |nil =>
         obtain⟨la,lb,rfl⟩:=qGv e1;have s2:starEach [b] X.env=[(false,eval b X.env)]:=q0y (oks b (Qa _ (Qb ..)));rw[s2] at s1;exact⟨⟨true,q7S g1 hm SAs s1 s2⟩,λ _=>q7S g1 hm SAs s1 s2⟩
        |cons _ _=>rename_i z;exact z.elim (λ z=>nomatch z) λ z=>nomatch z
     ·cases h
    ·split at h
     ·rename_i x hx;obtain⟨q,rfl⟩:=q0E hx;split at h
      ·rename_i hv;obtain⟨i,e1,rfl⟩:=oM h;obtain⟨v1,v2,v3⟩:=T.vis hv.1;refine⟨⟨false,si_b T.K (T.at e1) v1 v2 v3⟩,λ hmu=>?_⟩;exact absurd hv.2 (of_decide_eq_false hmu)
      ·exact plain h
     ·exact plain h
   ·obtain⟨gf,gd⟩:=T.glob hg;have one:∀a l,((bi1 f).bind λ b=>(cB n C a).map λ a=>L.bi b [a])=some l->SE X p G sub (.Call (.Name f q) [a] [] pos) l:=by intro a l h;obtain⟨b,g1,h⟩:=oB h;obtain⟨la,g2,rfl⟩:=oM h;exact qC4 T g1 gf gd (ihn.B X C T _ _ g2) (q0y (q7i g2))
    cases args with
    |nil=>cases h
    |cons y r =>
     cases r with
     |nil =>
      unfold qDQ at h;dsimp only at h;split at h
      ·rename_i g a hy;obtain⟨q2,q3,rfl⟩:=q41 hy;split at h
       ·rename_i hf;obtain⟨rfl,rfl,hgs,hfs⟩:=hf;obtain⟨la,e1,rfl⟩:=oM h;exact qGn T.calm gf (T.blt _ qGr) (T.glob hgs).1 (T.blt _ qGs) (by decide) (ihn.E X C T _ _ e1) (q0y (q5c e1))
       split at h
       ·rename_i hf;obtain⟨rfl,rfl,hgs,hfs⟩:=hf;obtain⟨la,e1,rfl⟩:=oM h;exact hset X p G sub a la q q2 q3 pos T.K T.calm T.hu (T.blt _ qJk) (T.blt _ qJm) (ihn.B X C T _ _ e1) (q7i e1) gf (T.glob hgs).1
       ·exact one _ _ h
      ·exact one _ _ h
     |cons y2 r =>
      cases r with
      |nil =>
       unfold qDQ at h;dsimp only at h;split at h
       ·rename_i hf;subst hf;obtain⟨c,hc,h⟩:=oB h;obtain⟨la,g1,h⟩:=oB h;obtain⟨b,g2,rfl⟩:=oM h;obtain⟨q2,rfl⟩:=q0E hc;exact qAb T g2 gf (ihn.B X C T _ _ g1) (by rw[q0y (q7i g1)];rfl)
       ·cases h
      |cons _ _=>cases h
end
end Snd
namespace Snd
open PySem PySem.Spec PySem.W PyProof.Rows L2 Ev
variable {v e:PySem.Expr}{ln:Nat}{env:PySem.Env}{l:Ev.S}{x:Str}{xp pos:Pos}
section
variable {k n:Nat}{X:Cx}{C:Ct}{p:Pm}{G:Nat->List D->R D}{sub:Nat->Nat->Bool}
structure BdOk (X:Cx):Prop where
 top:Top X
 fn:∀x,X.fn x=true
 kf:X.env.scope.kind = .function
theorem BdOk.bk (b:BdOk X):X.env.blockKind = .function:=by unfold Env.blockKind;rw[b.kf];rfl
theorem q6Z {tg:Option PySem.Expr}(h:∀e g s q,v ≠ .ListComp e g s q) (h1:∀e g s q,v ≠ .SetComp e g s q) (h2:∀e w g s q,v ≠ .DictComp e w g s q):swapsWith v tg ln env=pure false:=by
 cases v<;>first
  |rfl
  |exact absurd rfl (h _ _ _ _)
  |exact absurd rfl (h1 _ _ _ _)
  |exact absurd rfl (h2 _ _ _ _ _)
theorem q2s {n:Nat}{C:Ct}{l:L}(h:cE n C v=some l):(∀e g s q,v ≠ .SetComp e g s q)/\∀e w g s q,v ≠ .DictComp e w g s q:=by
 cases n with
 |zero=>cases h
 |succ n=>exact⟨λ e g s q z=>(by subst z;cases h),λ e w g s q z=>(by subst z;cases h)⟩
theorem qGw {q:Pos}{n:Nat}{C:Ct}{l:L}(h:cE n C v=some l):swapsWith v (some (.Name x q)) ln env=pure false\/∃e g s q',v = .ListComp e g s q'/\swapsWith v (some (.Name x q)) ln env=pure true:=by
 by_cases hc:∃e g s q,v = .ListComp e g s q
 ·obtain⟨e,g,s,q',rfl⟩:=hc;have hp:∃b,swapsWith (.ListComp e g s q') (some (.Name x q)) ln env=pure b:=⟨_,rfl⟩
  obtain⟨b,hb⟩:=hp;cases b with
  |false=>exact .inl hb
  |true=>exact .inr ⟨e,g,s,q',rfl,hb⟩
 ·exact .inl (q6Z (λ e g s q z=>hc ⟨e,g,s,q,z⟩) (q2s h).1 (q2s h).2)
theorem qJq {ts:PySem.Expr}{n:Nat}{C:Ct}{l:L}(h:cE n C v=some l) (ht:∀t q,ts ≠ .Name t q):swapsWith v (some ts) ln env=pure false:=by
 by_cases hc:∃e g s q,v = .ListComp e g s q
 ·obtain⟨e,g,s,q',rfl⟩:=hc;cases ts<;>first|rfl|exact absurd rfl (ht _ _)
 ·exact q6Z (λ e g s q z=>hc ⟨e,g,s,q,z⟩) (q2s h).1 (q2s h).2
theorem q6a (h:qDR e=true):∃y:Str,JP X e y/\y.length<=1000:=by
 cases e<;>first
  |(cases h;done)
  |skip
 rename_i c j q;cases c<;>first
  |(cases h;done)
  |exact⟨_,qJU,of_decide_eq_true h⟩
theorem qE7 (T:CtOk k X C p G sub) (h:C.qFz e=true):∃y:Str,JP X e y/\y.length<=1000:=by
 unfold Ct.qFz at h;split at h
 ·rw[Qd,Qd,decide_eq_true_eq,Option.isNone_iff_eq_none] at h;obtain⟨⟨rfl,rfl⟩,h⟩:=h;split at h
  ·rename_i y hy;obtain⟨q,rfl⟩:=q0E hy;rw[Qd] at h;obtain⟨h1,h3⟩:=h;obtain⟨g1,g2⟩:=T.glob h1;split at h3
   ·rename_i a e1;rw[Qd,decide_eq_true_eq,decide_eq_true_eq] at h3;obtain⟨a',t,ea,hm⟩:=T.consts _ _ e1;cases ea;exact⟨_,qJV g1 hm g2 h3.1,h3.2⟩
   ·cases h3
  ·cases h
 ·cases h
theorem q3j (x:Str):(Str.empty++x).length=x.length:=by rw[q0f];show 0+x.length=_;omega
theorem qE8 (T:CtOk k X C p G sub) (h:C.qDS e=true):SM X e:=by
 have big:(3000:Nat)<=sizeLine:=by rw[sizeLine_eq];decide
 unfold Ct.qDS at h;split at h
 ·split at h
  ·rename_i a b r;rw[Qd,Qd] at h;obtain⟨x,j1,l1⟩:=q6a (X:=X) h.1.1;obtain⟨y,j2,l2⟩:=qE7 T h.1.2;have h3:=h.2;split at h3
   ·exact qJW j1 j2 (by rw[q3j];lia) (by rw[q0f,q3j];lia)
   ·obtain⟨z,j3,l3⟩:=q6a (X:=X) h3;exact qDu j1 j2 j3 (by rw[q3j];lia) (by rw[q0f,q3j];lia) (by rw[q0f,q0f,q3j];lia)
   ·cases h3
  ·cases h
 ·obtain⟨x,j1,l1⟩:=q6a (X:=X) h;exact λ E pins σ H s I=>wpAny_mono (j1 E pins σ H s I) (λ _ _ h=>h.2) λ _ _ z=>z
theorem qE9 (h:C.qDS e=true):okE e=true:=by cases e<;>first|rfl|(cases h;done)
structure SoS (k:Nat) (p:Pm) (G:Nat->List D->R D) (sub:Nat->Nat->Bool) (n:Nat):Prop where
 S:∀(X:Cx) (C:Ct),CtOk k X C p G sub->BdOk X->∀s l,cS n C s=some l->SS X p G sub s l
 Ss:∀(X:Cx) (C:Ct),CtOk k X C p G sub->BdOk X->∀s l,cSs n C s=some l->SSs X p G sub s l
theorem q3k (so:SoE k p G sub n) (so':∀m,SoE k p G sub m) (T:CtOk k X C p G sub) (B:BdOk X) {i:Nat}(hl:C.loc x=some i) (h:(cE n C v).map (S.set i)=some l):SS X p G sub (.Assign [.Name x xp] v pos) l:=by
 have hN:X.N.Nodup:=by rw[T.N];exact T.nd
 obtain⟨l1,l2⟩:=T.loc hl;have hf:X.fn x=true\/X.env.scope.names.lookup x=some .local:= .inl (B.fn _);obtain⟨lv,e1,rfl⟩:=oM h;rcases qGw (x:=x) (q:=xp) (ln:=pos.line) (env:=X.env) e1 with z|⟨el,gs,sc,q',rfl,z⟩
 ·exact qJJ hN l2 l1 hf (so.E X C T _ _ e1) z
 ·cases n with
  |zero=>cases e1
  |succ m =>
   obtain⟨tg,it,ifs,kk,ts,li,le,lc,rfl,htg,c1,c2,c3,hsc,hlen,rfl⟩:=q5r e1;obtain⟨S,ndN,hloc,inner⟩:=T.inner hsc;obtain⟨fr,hi⟩:=((so' m).I X C T _ _ c1 tg).1;refine qGW T.calm S hi (λ s2 H2 cl C' fp=>(so' m).E _ _ (inner s2 H2 cl C' fp) _ _ c2) (λ s2 H2 cl C' fp=>q7k (λ m' _ X C T e t h=>(so' m').T X C T e t h) (inner s2 H2 cl C' fp) c3 hlen) (λ s2 H2 cl C' fp=>?_) (q8k (qGt c1)) hN l2 l1 hf z;have rl:∀x∈ts,(cxC X s2 H2 sc cl C' (inN ts X.N) fp).env.scope.names.lookup x=some .local:=λ x hx=>by show (relabel sc X.env).names.lookup x=_;rw[q0N,hloc x hx];rfl
   exact q7l T.K T.calm ndN rl htg
theorem qEA (so:SoE k p G sub n) (T:CtOk k X C p G sub) (B:BdOk X) {i:Nat}(hl:C.loc x=some i) (h:qG0 C (cE n C) x xp i v=some l):SS X p G sub (.Assign [.Name x xp] v pos) l:=by
 have hN:X.N.Nodup:=by rw[T.N];exact T.nd
 obtain⟨l1,l2⟩:=T.loc hl;obtain⟨⟨t,g,a,sc,vp⟩,hd,h1⟩:=oB h;obtain⟨q1,q2,q3,q4,rfl⟩:=qBD hd;dsimp only at h1;split at h1
 ·rename_i hc;obtain⟨rfl,hgl,hfn,hmu,hsc,hkl,hline,hany⟩:=hc;obtain⟨la,e1,rfl⟩:=oM h1;obtain⟨S,ndN,hloc,inner⟩:=T.inner hsc;obtain⟨g1,g2⟩:=T.glob hgl;have kx:X.env.kindOf x=some .local:=by
   have kk:=T.kinds x;rw[hkl] at kk;rcases kk with z|⟨z,_⟩
   ·exact z.symm
   ·cases z
  refine qGi T.calm S g1 (T.blt _ qGs) (so.E X C T _ _ e1) (q0y (q5c e1)) ndN (hloc t (Qb ..)) hN l2 l1 (.inl (B.fn _)) ?_;show (pure _:Sem Bool)=pure true;congr 1;rw[B.bk];have k2:(X.env.kindOf x==some .local)=true:=by rw[kx];rfl
  rw[k2];have hl':(xp.line==(PySem.Expr.ListComp (.List [] q1) [⟨.Name t q2,.Call (.Name (Str.ofString "range") q3) [a] [] q4,[],0⟩] sc vp).pos.line)=true:=hline;rw[hl',hany];rfl
 ·cases h1
theorem qEB (so:SoE k p G sub n) (so':∀m,SoE k p G sub m) (T:CtOk k X C p G sub) (B:BdOk X) (h0:cAsg C (cE n C) (cEs n C) [.Name x xp] v=some l):SS X p G sub (.Assign [.Name x xp] v pos) l:=by
 have hN:X.N.Nodup:=by rw[T.N];exact T.nd
 obtain⟨i,hl,h⟩:=oB (show ((C.loc x).bind λ i=>if x∈C.deep then qG0 C (cE n C) x xp i v else if x∈C.muts then qIa C (cE n C) (cEs n C) i v else qG1 C (cE n C) i v)=some l from h0);obtain⟨l1,l2⟩:=T.loc hl;have hf:X.fn x=true\/X.env.scope.names.lookup x=some .local:= .inl (B.fn _);split at h
 ·exact qEA so T B hl h
 split at h
 ·cases v with
  |Call gg args kws q =>
   obtain⟨fn,a1,h⟩:=oB h;obtain⟨j,a2,h⟩:=oB h;obtain⟨q1,n1⟩:=q0E a1;split at h
   ·rename_i hc;obtain⟨c1,c2,c3,c4⟩:=hc;obtain⟨ls,e1,rfl⟩:=oM h;obtain⟨fa,fd,ps,F,hm,hk,hb,hlen⟩:=T.newf j fn (q1M a2) c1;obtain⟨g1,g2⟩:=T.glob c2;rw[n1,QO.mp c3];cases args with
    |nil=>exact absurd rfl c4
    |cons a r =>
     have oks:=q7j e1;exact qGp hN l2 l1 hf F (T.room.mono (Nat.le_add_right _ _)) g1 hm hk hb (so.Es X C T _ _ e1) hlen g2 (q0y (oks a (Qb ..))) (q3i λ x hx=>oks x (Qa _ hx))
   ·cases h
  |List xs q =>
   obtain⟨ls,e1,rfl⟩:=oM h;exact qGg hN l2 l1 hf (so.Es X C T _ _ e1)
  |Dict ks ws q =>
   obtain⟨k1,a1,h⟩:=oB h;obtain⟨k2,a2,h⟩:=oB h;obtain⟨w,a3,h⟩:=oB h;obtain⟨lk,e1,h⟩:=oB h;obtain⟨lw,e2,rfl⟩:=oM h;rw[q17 a1,q17 a3,a2];exact qGh hN l2 l1 hf (so.E X C T _ _ e1) (so.E X C T _ _ e2)
  |_=>cases h
 ·unfold qG1 at h;split at h
  ·rename_i o m as ap cp hv;cases q7G hv;split at h
   ·rename_i y hy;obtain⟨q,rfl⟩:=q0E hy;split at h
    ·rename_i hm;split at h
     ·rename_i hc;rw[Qd,Qd] at hc;cases QO.mp hc.1.1;obtain⟨j,e1,rfl⟩:=oM h;obtain⟨m1,m2⟩:=T.loc e1;obtain⟨d1,d2⟩:=q1F hc.2;obtain⟨_,rfl⟩:=hm;exact qJf hN l2 l1 hf m2 (m1.elim .inl λ z=> .inr (.inl z)) d1 d2 hc.1.2
     ·cases h
    ·exact q3k so so' T B hl h
   ·exact q3k so so' T B hl h
  ·split at h
   ·rename_i y hy;obtain⟨q,rfl⟩:=q0E hy;split at h
    ·cases h
    ·exact q3k so so' T B hl h
   ·exact q3k so so' T B hl h
theorem qJr (so:SoE k p G sub n) (so':∀m,SoE k p G sub m) (T:CtOk k X C p G sub) (B:BdOk X) {ts:List PySem.Expr}(h:cAsg C (cE n C) (cEs n C) ts v=some l):SS X p G sub (.Assign ts v pos) l:=by
 have hN:X.N.Nodup:=by rw[T.N];exact T.nd
 obtain⟨t,ht,h1⟩:=oB h;cases q17 ht;cases t with
 |Name x xp=>exact qEB so so' T B h
 |Subscript o k q =>
  obtain⟨x,a2,h1⟩:=oB h1;obtain⟨px,n1⟩:=q0E a2;rw[n1];split at h1
  ·rename_i hc;obtain⟨i,e1,h1⟩:=oB h1;obtain⟨lk,e2,h1⟩:=oB h1;obtain⟨lv,e3,rfl⟩:=oM h1;obtain⟨l1,l2⟩:=T.loc e1;obtain⟨d1,d2⟩:=q1F hc.2;exact qJh T.hu l2 (l1.elim .inl λ z=> .inr (.inl z)) d1 d2 (so.E X C T _ _ e2) (so.E X C T _ _ e3) (qJq e3 (λ _ _ z=>by cases z))
  ·cases h1
 |_=>cases h1
theorem qJs (so:SoE k p G sub n) (T:CtOk k X C p G sub) (h:cExp C (cE n C) (cEs n C) e=some l):SS X p G sub (.Expr e pos) l:=by
 unfold cExp at h;split at h
 ·rename_i hs;cases h;unfold qEv at hs;split at hs
  ·split at hs
   ·exact qJG
   ·cases hs
  ·cases hs
 split at h
 ·rename_i o m as ap cp hv;cases q7G hv;unfold qIb at h;split at h
  ·split at h
   ·rename_i hc;obtain⟨_,hline,hnm,rfl⟩:=hc;obtain⟨a,a1,h1⟩:=oB h;obtain⟨⟨fn,as2⟩,a2,h1⟩:=oB h1;obtain⟨i,e1,h1⟩:=oB h1;obtain⟨j,a3,h1⟩:=oB h1;obtain⟨q1,q2,n1⟩:=q6C a2;rw[q17 a1,n1];split at h1
    ·rename_i hc2;obtain⟨c1,c2,c4⟩:=hc2;obtain⟨ls,e2,rfl⟩:=oM h1;obtain⟨fa,fd,ps,F,hm,hk,hb,hlen⟩:=T.newf j fn (q1M a3) c1;obtain⟨g1,g2⟩:=T.glob c2;obtain⟨l1,l2⟩:=T.loc e1;obtain⟨d1,d2⟩:=q1F hnm;cases as2 with
     |nil=>exact absurd rfl c4
     |cons a r =>
      have oks:=q7j e2;exact qGq l2 (l1.elim .inl λ z=> .inr (.inl z)) d1 d2 hline F (T.room.mono (Nat.le_add_right _ _)) g1 hm hk hb (so.Es X C T _ _ e2) hlen g2 (q0y (oks a (Qb ..))) (q3i λ x hx=>oks x (Qa _ hx))
    ·cases h1
   split at h
   ·rename_i hc;obtain⟨a,a1,h1⟩:=oB h;clear h;cases q17 a1;obtain⟨i,e1,h1⟩:=oB h1;obtain⟨la,e2,rfl⟩:=oM h1;obtain⟨_,hline,hnm,rfl⟩:=hc;obtain⟨l1,l2⟩:=T.loc e1;obtain⟨d1,d2⟩:=q1F hnm;exact qJe l2 (l1.elim .inl λ z=> .inr (.inl z)) d1 d2 (so.E X C T _ _ e2) (q0y (q5c e2)) hline
   ·cases h
  ·obtain⟨x,a2,h2⟩:=oB h;clear h;obtain⟨px,rfl⟩:=q0E a2;split at h2
   ·rename_i hc;obtain⟨a,a1,h1⟩:=oB h2;clear h2;cases q17 a1;obtain⟨i,e1,h1⟩:=oB h1;obtain⟨lk,e2,h1⟩:=oB h1;obtain⟨la,e3,rfl⟩:=oM h1;obtain⟨hline,hnm,_,_,rfl⟩:=hc;obtain⟨l1,l2⟩:=T.loc e1;obtain⟨d1,d2⟩:=q1F hnm;exact qGj l2 (l1.elim .inl λ z=> .inr (.inl z)) d1 d2 (so.E X C T _ _ e2) (qJj (q5c e2)) (so.E X C T _ _ e3) (q0y (q5c e3)) hline
   ·cases h2
  ·cases h
 split at h
 ·cases h
 ·rename_i hx;obtain⟨le,e1,rfl⟩:=oM h;exact qGO (so.E X C T _ _ e1) (q6Z (λ e g s q z=>hx (by rw[z];rfl)) (q2s e1).1 (q2s e1).2)
theorem qJt (T:CtOk k X C p G sub) (B:BdOk X) (ihn:∀s l,cSs n C s=some l->SSs X p G sub s l) {body oe fb:List PySem.Stmt}{hs:List ExceptHandler}(h:cTry C (cSs n C) body hs oe fb=some l):SS X p G sub (.Try body hs oe fb pos) l:=by
 have hN:X.N.Nodup:=by rw[T.N];exact T.nd
 unfold cTry at h;split at h
 ·rename_i hc;cases QO.mp hc.1;cases QO.mp hc.2;obtain⟨hd,a1,h1⟩:=oB h;clear h;cases q17 a1;obtain⟨⟨c,i,j⟩,a2,h1⟩:=oB h1;obtain⟨lb,e4,rfl⟩:=oM h1;obtain⟨ty,nm,b,q⟩:=hd;obtain⟨ty',b1,h⟩:=oB a2;obtain⟨cn,b2,h⟩:=oB h;obtain⟨x,b3,h⟩:=oB h;obtain⟨st,b4,h⟩:=oB h;obtain⟨⟨y,x'⟩,b5,h⟩:=oB h;obtain⟨q1,n1⟩:=q0E b2;obtain⟨q2,q3,q4,n2⟩:=qG2 b5;dsimp only at h n2;split at h
  ·rename_i hc;obtain⟨hg,hnm,_,_,rfl,hxy,hkl⟩:=hc;obtain⟨c',e1,h⟩:=oB h;obtain⟨i',e2,h⟩:=oB h;obtain⟨j',e3,h⟩:=oM h;cases h;rw[b1,b3,q17 b4,n1,n2];obtain⟨g1,g2⟩:=T.glob hg;obtain⟨Cc,hc1,hc2⟩:=T.excs c _ (q1M e1);obtain⟨l1,l2⟩:=T.loc e2;obtain⟨l3,l4⟩:=T.loc e3;obtain⟨d1,d2⟩:=q1F hnm;refine qJX B.top hN l2 ?_ l4 l3 (.inl (B.fn _)) hxy g1 hc2.bound (λ e Ce he=>(T.exm e c Ce Cc he hc1).1) g2 d1 d2 (ihn _ _ e4);rcases T.kinds _ with z|⟨z,_⟩
   ·exact z.symm.trans hkl
   ·rw[hkl] at z;cases z
  ·cases h
 ·cases h
theorem qJu (hset:SSet):∀n,SoS k p G sub n:=by
 intro n;have so:=λ n=>sound (k:=k) (p:=p) (G:=G) (sub:=sub) hset n
 induction n with
 |zero=>exact⟨λ X C T B s l h=>(by cases h),λ X C T B s l h=>(by cases h)⟩
 |succ n ihn =>
  refine⟨λ X C T B st l h=>?_,λ X C T B sts l h=>?_⟩
  ·have hN:X.N.Nodup:=(by rw[T.N];exact T.nd);cases st with
   |Assign ts v pos=>exact qJr (so n) so T B h
   |AugAssign tg0 op v pos =>
    obtain⟨x,a1,h⟩:=oB h;obtain⟨q,n1⟩:=q0E a1;rw[n1];split at h
    ·cases h
    ·obtain⟨i,e1,h⟩:=oB h;obtain⟨o,e2,h⟩:=oB h;obtain⟨lv,e3,rfl⟩:=oM h;obtain⟨l1,l2⟩:=T.loc e1;exact qJg hN l2 l1 (.inl (B.fn _)) e2 ((so n).E X C T _ _ e3)
   |Expr e pos=>exact qJs (so n) T h
   |If c0 a0 b0 pos =>
    obtain⟨c,e1,h⟩:=oB h;obtain⟨a,e2,h⟩:=oB h;obtain⟨b,e3,rfl⟩:=oM h;exact qJI ((so n).T X C T _ _ e1) (ihn.Ss X C T B _ _ e2) (ihn.Ss X C T B _ _ e3)
   |For tg0 it0 body0 oe pos =>
    unfold cS at h;dsimp only at h;split at h
    ·rename_i hc;cases QO.mp hc.1;obtain⟨x,hx,h⟩:=oB h;obtain⟨li,c1,h⟩:=oB h;obtain⟨lb,c2,h⟩:=oB h;obtain⟨i,hl,h⟩:=oB h;obtain⟨q,n1⟩:=q0E hx;split at h
     ·cases h
     ·cases h;obtain⟨l1,l2⟩:=T.loc hl;rw[n1];exact qJN T.calm (((so n).I X C T _ _ c1 _).2 (Bool.eq_false_iff.mpr hc.2)) (qGS hN l2 l1 (.inl (B.fn _))) (ihn.Ss X C T B _ _ c2) (q8k (qGt c1))
    ·cases h
   |While c0 body0 oe pos =>
    unfold cS at h;dsimp only at h;split at h
    ·rename_i hc;cases QO.mp hc;obtain⟨c,e1,h⟩:=oB h;obtain⟨b,e2,rfl⟩:=oM h;exact qJK ((so n).T X C T _ _ e1) (ihn.Ss X C T B _ _ e2)
    ·cases h
   |Return r0 pos =>
    have plain:∀e,(cE n C e).map S.ret=some l->SS X p G sub (.Return (some e) pos) l:=λ e h=>by obtain⟨le,e1,rfl⟩:=oM h;exact qJH ((so n).E X C T _ _ e1)
    cases r0 with
    |none=>cases h;exact qGP
    |some e =>
     unfold cS cRet at h;dsimp only at h;split at h
     ·rename_i x hx;obtain⟨q,rfl⟩:=q0E hx;split at h
      ·split at h
       ·obtain⟨i,e1,rfl⟩:=oM h;obtain⟨l1,l2⟩:=T.loc e1;obtain⟨d1,d2⟩:=q9k e1;exact qGo l2 (l1.elim .inl λ z=> .inr (.inl z)) d1 d2
       ·obtain⟨i,e1,rfl⟩:=oM h;obtain⟨l1,l2⟩:=T.loc e1;obtain⟨d1,d2⟩:=q9k e1;exact qGl l2 (l1.elim .inl λ z=> .inr (.inl z)) d1 d2
      ·exact plain _ h
     ·exact plain _ h
   |Break=>cases h;exact qJF
   |Continue=>cases h;exact qGN
   |Pass=>cases h;exact qGM
   |Raise a0 b0 pos =>
    obtain⟨e,a1,h⟩:=oB h;split at h
    ·rename_i hb;obtain⟨⟨cn,m⟩,a2,h⟩:=oB h;obtain⟨q,q2,n1⟩:=q41 a2;rw[a1,Option.isNone_iff_eq_none.mp hb,n1];dsimp only at h;split at h
     ·rename_i hc;obtain⟨c,e1,rfl⟩:=oM h;obtain⟨g1,g2⟩:=T.glob hc.1;obtain⟨Cc,hc1,hc2⟩:=T.excs c _ (q1M e1);exact qDv T.calm g1 hc2 PySem.F.excBase_ValueError hc1 (qE8 T hc.2) g2 (q0y (qE9 hc.2))
     ·cases h
    ·cases h
   |Try a0 b0 c0 d0 pos=>exact qJt T B (λ s l h=>ihn.Ss X C T B s l h) h
   |_=>cases h
  ·cases sts with
   |nil=>cases h;exact qGL
   |cons s r =>
    obtain⟨a,g1,h⟩:=oB h;obtain⟨l',g2,rfl⟩:=oM h;exact qDk (ihn.S X C T B _ _ g1) (ihn.Ss X C T B _ _ g2)
end
end Snd
namespace Snd
open PySem PySem.Spec PySem.W PyProof.Rows L2 Ev
variable {α:Type}{x:Str}{j:Nat}
theorem qLf:∀{us:List α},us.length=1->∃a,us=[a]
 |[a],_=>⟨a,rfl⟩
theorem qLg:∀{us:List α},us.length=2->∃a b,us=[a,b]
 |[a,b],_=>⟨a,b,rfl⟩
theorem qLh:∀{us:List α},us.length=3->∃a b c,us=[a,b,c]
 |[a,b,c],_=>⟨a,b,c,rfl⟩
theorem qLi:∀{us:List α},us.length=4->∃a b c d,us=[a,b,c,d]
 |[a,b,c,d],_=>⟨a,b,c,d,rfl⟩
structure DefI where
 name:Str
 st:Stmt
 N:List Str
 ps:List Str
 muts:List Str
 deep:List Str
 l:List Ev.S
 nw:Bool:=false
structure TxtI where
 ds:List DefI
 consts:List (Str×D)
 excs:List Str
 sub:Nat->Nat->Bool
noncomputable def TxtI.ct (t:TxtI) (d:DefI):Ct:={N:=d.N,kinds:=(q1C d.st).names,funs:=t.ds.map (·.name),consts:=t.consts,excs:=t.excs,muts:=d.muts,fresh:=[],deep:=d.deep,nw:=d.nw,news:=(Qg t.ds.length).filter λ j=>match t.ds[j]? with|some d=>d.nw|none=>false}
noncomputable def Gk (t:TxtI):Nat->Nat->List D->R D
 |0,_,_=> .stuck
 |n+1,f,xs=>match t.ds[f]? with
  |some d=>if xs.length=d.ps.length then (if d.nw then Ev.runF (Gk t n) t.sub d.N.length d.l xs else Ev.run (Gk t n) t.sub d.N.length d.l xs) else .stuck
  |none=> .stuck
structure DefOk (t:TxtI) (d:DefI):Prop where
 sc:FnScope d.N d.ps (q1C d.st)
 cs:cSs 60 (t.ct d) (q2D d.st)=some d.l
 bd:∀(kV doc pm:Value) (an:Option Addr) (cdv ct:Value) (us:List Value),us.length=d.ps.length->bindArgs (PySem.W.fnOf d.name d.name (q3B d.st) (q2D d.st) (q1C d.st) .none kV doc pm an cdv ct) ⟨us,[]⟩=pure (d.ps.zip us)
def FnIn (K:PySem.W.Frag) (x:Str) (st:Stmt):Prop:=∃f fd,nsIn K mainGlobals x=some (some (.ref f))/\Fun K x x st f fd
theorem qGx {K:PySem.W.Frag}{st:Stmt}{f:Addr}{oc:Value}{od an:Option Addr}{osl:Array (Option Value)}{kV doc pm cdv ct:Value}(a:nsIn K mainGlobals x=some (some (.ref f)))
  (l:K.lookup f=some ⟨oc,od,.func (PySem.W.fnOf x x (q3B st) (q2D st) (q1C st) .none kV doc pm an cdv ct),osl⟩) (c:PySem.W.codeIn K cdv x=true) (k:PySem.W.keepIn K (.ref f)=true):FnIn K x st:=⟨f,_,a,qIR l c k⟩
structure ExcI (K:PySem.W.Frag) (x:Str) (C:Addr):Prop where
 at_:nsIn K mainGlobals x=some (some (.ref C))
 exc:excIn K C qC2 "ValueError.__new__" = true
 ok:ExOk K C
 val:kitOne K (.ref C) (.type "ValueError")=some true
structure TxtOk (K:PySem.W.Frag) (t:TxtI) (p:Pm):Prop where
 pk:p.K=K
 def_:∀(j:Nat) (d:DefI),t.ds[j]? = some d->DefOk t d/\FnIn K d.name d.st
 blt:∀x∈q0C,nsIn K mainGlobals x=some none
 con:∀(x:Str) (d:D),t.consts.lookup x=some d->∃a tk,d = .int a/\nsIn K mainGlobals x=some (some (.int a tk))
 exc:∀(c:Nat) (x:Str),t.excs[c]? = some x->∃C,p.cls[c]? = some C/\ExcI K x C
 cls:∀(c:Nat) (C:Addr),p.cls[c]? = some C->∃x,t.excs[c]? = some x/\ExcI K x C
 sub:∀(e c:Nat) (Ce Cc:Addr),p.cls[e]? = some Ce->p.cls[c]? = some Cc->exmOne K (.ref Ce) (.ref Cc)=some (t.sub e c)/\kitOne K (.ref Ce) (.ref Cc)=some (t.sub e c)
theorem qJv {K:PySem.W.Frag}{h:Heap}{mg:Str->Option Value}{C:Addr}{tl:List Value}{nw:String}(Z:K.In h) (g:h.Ns mainGlobals mg) (e:nsIn K mainGlobals x=some (some (.ref C))) (q:excIn K C tl nw=true):OwnCls x C tl nw mg h:=by
 have hb:=mg_of Z g e;unfold excIn at q;split at q
 case h_2=>cases q
 rename_i dd cd sl ho;split at q
 case h_2=>cases q
 rename_i C' bm k0 k1 k2 k3 n k5 hm hs;simp only[Qd,beq_iff_eq,Bool.not_eq_true'] at q;obtain⟨⟨⟨⟨⟨c1,c2⟩,c3⟩,c4⟩,c5⟩,c6⟩:=q;cases c1;cases c2;obtain⟨nm,bs,mro,ns,qn,hd,sn,sub,ab,col,del⟩:=cd;dsimp only at hm c3 c5 c6;cases hm;cases c3;obtain⟨ll⟩:=sl;have hl:=hs;cases hl;exact⟨hb,bm,ns,nm,qn,bs,hd,sn,sub,ab,col,dd,k0,k1,k2,k3,k5,_,Z _ _ ho,.of_isNs (isNs_of_in Z c5),nsMap_none_of_in Z c5 c6,tail_of_in Z c4⟩
section
variable {P:Program}{w:World}{K:PySem.W.Frag}{mg:Str->Option Value}{base:Heap}{t:TxtI}{p:Pm}
theorem qC5 {P:Program}{w:World}{K:PySem.W.Frag}{mg:Str->Option Value}{base:Heap}{CX:CXT}{k:Nat}{f:Addr}{fd:FuncData}{ps:List Str}{sp sp':Sp}(F:FnOk P w K mg base CX k f fd ps sp') (h:∀vs H Q E,sp vs H Q E->sp' vs H Q E):FnOk P w K mg base CX k f fd ps sp :=
 ⟨λ vs H Q E q=>F.1 vs H Q E (h vs H Q E q),λ A outer s H args us vs Q E hr e0 hb r hsp=>F.2 A outer s H args us vs Q E hr e0 hb r (h vs H Q E hsp)⟩
theorem qFH {n:Nat}{d:DefI}{ds:List D}(hd:t.ds[j]? = some d) (ns:Gk t n j ds ≠ .stuck):ds.length=d.ps.length:=by
 cases n with
 |zero=>exact absurd rfl ns
 |succ n =>
  unfold Gk at ns;rw[hd] at ns;dsimp only at ns
  by_cases hl:ds.length=d.ps.length
  ·exact hl
  ·rw[if_neg hl] at ns;exact absurd rfl ns
theorem qGy (hset:SSet) (T:TxtOk K t p) (kin:K.In base) (glob:base.Ns mainGlobals mg):∀(n j:Nat) (d:DefI) (f:Addr) (fd:FuncData),t.ds[j]? = some d->Fun K d.name d.name d.st f fd->FnOk P w K mg base (CXs P w) (3*n) f fd d.ps (spG p (Gk t n) j d.ps.length)/\(d.nw=true->FnOk P w K mg base (CXs P w) (3*n) f fd d.ps (spF p (Gk t n) j d.ps.length)):=by
 intro n
 induction n with
 |zero =>
  intro j d f fd hd F;refine⟨⟨λ vs H Q E h=>h.choose_spec.choose_spec.1,λ A outer s H args us vs Q E hr e0 hb r hsp=>?_⟩,λ _=>⟨λ vs H Q E h=>h.choose_spec.choose_spec.1,λ A outer s H args us vs Q E hr e0 hb r hsp=>?_⟩⟩
  ·obtain⟨ds,O,_,_,_,_,ns,_⟩:=hsp;exact absurd rfl ns
  ·obtain⟨ds,O,_,_,_,_,ns,_⟩:=hsp;exact absurd rfl ns
 |succ n ih =>
  intro j d f fd hd F;obtain⟨D1,_⟩:=T.def_ j d hd;obtain⟨oc,od,kV,doc,pm,an,cdv,ct,osl,efd,lk,hcd⟩:=F.ex;subst efd;have body:∀(A:Around) (outer:List PySem.Env) (s:Shared) (H:Hp) (E:XK),Room (3*n+2) (A.deeper (envOfC d.name (q1C d.st) s.heap.objs.size f cdv))->Env0 P w K mg base A outer s H->SSs (cxOf (CXs P w) P w K mg base d.N d.name (q1C d.st) f cdv A outer s H E) p (Gk t n) t.sub (q2D d.st) d.l:=λ A outer s H E hr e0=>by
   refine (qJu (k:=3*n) (p:=p) (G:=Gk t n) (sub:=t.sub) hset 60).Ss _ (t.ct d) ⟨rfl,D1.sc.nd,λ x=> .inl rfl,rfl,T.pk,hr,λ x hx=>mg_none_of kin glob (T.blt x hx),λ j' f' hf=>?_,λ x dd hx=>?_,λ j' f' hf hj=>?_,λ c x hx=>?_,λ c C hc=>?_,T.sub⟩ ⟨⟨rfl,rfl⟩,λ _=>rfl,D1.sc.kind⟩ _ _ D1.cs
   ·have hf:(t.ds.map (·.name))[j']? = some f':=hf;rw[Qs] at hf;cases e:t.ds[j']? with
    |none=>rw[e] at hf;cases hf
    |some d' =>
     rw[e] at hf;cases hf;obtain⟨D2,fa,fd',a',F'⟩:=T.def_ j' d' e;exact⟨fa,fd',d'.ps,(ih j' d' fa fd' e F').1,mg_of kin glob a',F'.kp,F'.binds D2.bd,λ ds ns=>qFH e ns⟩
   ·obtain⟨a',tk,e1,e2⟩:=T.con x dd hx;exact⟨a',tk,e1,mg_of kin glob e2⟩
   ·have hf:(t.ds.map (·.name))[j']? = some f':=hf;rw[Qs] at hf;cases e:t.ds[j']? with
    |none=>rw[e] at hf;cases hf
    |some d' =>
     rw[e] at hf;cases hf;have hnw:d'.nw=true:=by have:=(QG.mp hj).2;rw[e] at this;exact this
     obtain⟨D2,fa,fd',a',F'⟩:=T.def_ j' d' e;exact⟨fa,fd',d'.ps,(ih j' d' fa fd' e F').2 hnw,mg_of kin glob a',F'.kp,F'.binds D2.bd,λ ds ns=>qFH e ns⟩
   ·obtain⟨C,e1,e2⟩:=T.exc c x hx;exact⟨C,e1,qJv kin glob e2.at_ e2.exc⟩
   ·obtain⟨x,e1,e2⟩:=T.cls c C hc;exact⟨e2.ok,e2.val⟩
  have new:d.nw=true->FnOk P w K mg base (CXs P w) (3*(n+1)) f (PySem.W.fnOf d.name d.name (q3B d.st) (q2D d.st) (q1C d.st) .none kV doc pm an cdv ct) d.ps (spF p (Gk t (n+1)) j d.ps.length):=λ hw =>
   qGc (k:=3*n+2) (G':=Gk t n) (sub:=t.sub) (l:=d.l) (N:=d.N) lk hcd D1.sc (λ ds ns hl=>by rw[Gk,hd];dsimp only;rw[if_pos hl,hw,if_pos rfl]) body
  refine⟨?_,new⟩;cases hw:d.nw with
  |true=>exact qC5 (new hw) λ vs H Q E h=>qLa h
  |false=>exact qJT (k:=3*n+2) (G':=Gk t n) (sub:=t.sub) (l:=d.l) (N:=d.N) lk hcd D1.sc (λ ds ns hl=>by rw[Gk,hd];dsimp only;rw[if_pos hl,hw,if_neg Bool.false_ne_true]) body
theorem qJw {l:PySem.W.OpenLaw}{h:Heap}{fa:Addr}{d:DefI}(hset:SSet) (T:TxtOk K t p) (Z:K.In h) (g:h.Ns mainGlobals mg) (hj:t.ds[j]? = some d) (hps:d.ps=[x]) (hfa:mg d.name=some (.ref fa)) (n:Nat) :
  ∃fd:FuncData,(∀(s:Shared) (u:Value),BindsTo s fd ⟨[u],[]⟩ [(x,u)])/\∀base:Heap,K.In base->base.Ns mainGlobals mg->FnOk l.prog w K mg base (CXs l.prog w) (3*n) fa fd [x] (spG p (Gk t n) j 1):=by
 obtain⟨D1,f,fd,a,F⟩:=T.def_ j d hj;have e:=hfa.symm.trans (mg_of Z g a);cases e;refine⟨fd,λ s u=>?_,λ base kb nb=>?_⟩
 ·obtain⟨oc,od,kV,doc,pm,an,cdv,ct,osl,efd,lk,hcd⟩:=F.ex;subst efd;have:=D1.bd kV doc pm an cdv ct [u] (by rw[hps];rfl);rw[hps] at this;exact .of_eq this
 ·have:=(qGy (P:=l.prog) (w:=w) hset T kb nb n j d fa fd hj F).1;rw[hps] at this;exact this
def qGz (K:PySem.W.Frag):Sp:=λ vs H Q _=>∃(a:Addr) (ns:List Int),vs=[.ref a]/\SqL K H a (ns.map V.int)/\ns.length<=63/\∀H',Q (.bl true) H'
theorem q9o {H:Hp}:∀ns:List Int,RepL p H (ns.map D.int) (ns.map V.int)
 |[]=>rfl
 |n::ns=>⟨.int n,ns.map V.int,rfl,rfl,q9o ns⟩
theorem qC6 {G:Nat->List D->R D}(hK:p.K=K) (hm:∀ns:List Int,ns.length<=63->G j [.lst (ns.map D.int)] = .ok (.bl true)) (vs:List V) (H:Hp) (Q:VK) (E:XK) (h:qGz K vs H Q E):spG p G j 1 vs H Q E:=by
 obtain⟨a,ns,rfl,hS,hl,hQ⟩:=h;have e:=hm ns hl;refine⟨[.lst (ns.map D.int)],[],rfl,Jp,λ b hb=>absurd hb (by simp),⟨.ref a,[],rfl,⟨a,ns.map V.int,rfl,by rw[qIx,hK];exact hS,q9o ns⟩,rfl⟩,by rw[e];simp,λ r v H' er _ q=>?_,λ c C H' ex er _ _=>?_⟩
 ·rw[e] at er;cases er;cases (show v=_ from q);exact hQ H'
 ·rw[e] at er;cases er
theorem qC7 {H:Hp}{s s':Shared}{e:Value}(h:CXs P w [] H s (λ _ _ _=>False) e s'):False:=by obtain⟨_,_,_,_,_,_,z,_⟩:=h;exact z
end
theorem walk {l:PySem.W.OpenLaw}{q:Program}{loose:List Str}{XP:(Str->Option Value)->Heap->Prop}{YP:World->Heap->Prop}{d:DefRec}{K:Params->PySem.W.Frag}(n:Nat) (hn:l.most=some 63) (hdf:d.params.defaults=[]) (hr:Room (3*n) callerA)
  (hY:∀(w:World) (h:Heap),YP w h->(K w.params).In h)
  (F:∀(w:World) (mg:Str->Option Value) (fa:Addr) (h:Heap),(K w.params).In h->h.Ns mainGlobals mg->mg d.name=some (.ref fa)->
   ∃fd:FuncData,(∀(s:Shared) (u:Value),BindsTo s fd ⟨[u],[]⟩ [(x,u)])/\∀base:Heap,(K w.params).In base->base.Ns mainGlobals mg->FnOk l.prog w (K w.params) mg base (CXs l.prog w) (3*n) fa fd [x] (qGz (K w.params))) :
  PySem.W.WalkO q loose XP YP l.row.toRowW d [] (λ f vs=>PySem.call f vs) :=
 L2.qFu (n:=63) (k:=3*n) (x:=x) (CX:=λ w=>CXs l.prog w) (sp:=λ w=>qGz (K w.params)) hn (by decide) hdf hr hY F (λ _ _ a ns hl _ hS=>⟨a,ns,rfl,hS,hl,λ _=>rfl⟩) λ _ _ _ _ _ z=>qC7 z
end Snd
namespace SetT
open PySem PySem.SetTable
variable {l As:List Nat}{t:SetTable}{j m:Nat}{hs:List Int}{owner:Array (Option Nat)}
def onM (m:Nat):SetTable:={(default:SetTable) with mask:=m}
def startM (m:Nat) (h:Int):Probe:=(onM m).probeStart h
def advM (m:Nat) (p:Probe):Probe:=(onM m).advance p
theorem qKy (t:SetTable) (h:Int):t.probeStart h=startM t.mask h:=rfl
theorem adv_eq (t:SetTable) (p:Probe):t.advance p=advM t.mask p:=rfl
def path (m:Nat) (h:Int):Nat->Probe
 |0=>startM m h
 |n+1=>advM m (path m h n)
def lp (m:Nat) (h:Int):Nat->Nat×Nat
 |0=>(bits h % (m+1),bits h)
 |k+1=>leap m (lp m h k).1 (lp m h k).2
def cc (m:Nat) (h:Int):Nat->Nat
 |0=>0
 |k+1=>cc m h k+(runEnd m (lp m h k).1-(lp m h k).1)+1
theorem qC8 (m i:Nat):runEnd m i-i<=9:=by unfold runEnd;split<;>lia
theorem q3l (m i:Nat):i<=runEnd m i:=by unfold runEnd;split<;>lia
theorem q7m (m i:Nat) (h:i<=m):runEnd m i<=m:=by unfold runEnd;split<;>lia
theorem qJx (m:Nat) (h:Int):∀k,cc m h k<=10*k
 |0=>Qi _
 |k+1=>by have:=qJx m h k;have:=qC8 m (lp m h k).1;simp only[cc];lia
def at_ (m:Nat) (h:Int) (k r:Nat):Probe:={j:=(lp m h k).1+r,more:=runEnd m (lp m h k).1-(lp m h k).1-r,i:=(lp m h k).1,perturb:=(lp m h k).2,dummy:=none}
theorem q3m (m:Nat) (h:Int) (k:Nat) (hk:path m h (cc m h k)=at_ m h k 0):∀r,r<=runEnd m (lp m h k).1-(lp m h k).1->path m h (cc m h k+r)=at_ m h k r
 |0,_=>hk
 |r+1,hr=>by have ih:=q3m m h k hk r (by lia);show advM m (path m h (cc m h k+r))=_;rw[ih];unfold advM SetTable.advance at_;simp only[onM];rw[if_pos (by lia)];rfl
theorem q5H (m:Nat) (h:Int):∀k,path m h (cc m h k)=at_ m h k 0
 |0=>rfl
 |k+1=>by have ih:=q3m m h k (q5H m h k) (runEnd m (lp m h k).1-(lp m h k).1) (Qi _);show advM m (path m h (cc m h k+(runEnd m (lp m h k).1-(lp m h k).1)))=_;rw[ih];unfold advM SetTable.advance at_;simp only[onM];rw[if_neg (by lia)];rfl
theorem qH0 (h:Int):bits h<2^64:=by
 unfold bits;have h1:0<=h % (2^64:Int):=Int.emod_nonneg _ (by decide);have h2:h % (2^64:Int)<2^64:=Int.emod_lt_of_pos _ (by decide);have:((2:Int)^64).toNat=2^64:=by decide
 lia
theorem qC9 (m:Nat) (h:Int):∀k,(lp m h k).2=bits h / 32^k
 |0=>by simp[lp]
 |k+1=>by show (lp m h k).2 / 32=_;rw[qC9 m h k,Nat.div_div_eq_div_mul,Nat.pow_succ]
theorem qCA (m:Nat) (h:Int) (k:Nat) (hk:13<=k):(lp m h k).2=0:=by
 rw[qC9];refine Nat.div_eq_of_lt (Qp (qH0 h) ?_)
 calc 2^64<=32^13:=by decide
  _<=32^k:=QC (by decide) hk
theorem qJy (m:Nat) (h:Int):∀k,(lp m h k).1<=m
 |0=>by have:=Nat.mod_lt (bits h) (show m+1 > 0 by lia);show bits h % (m+1)<=m;lia
 |k+1=>by have:=Nat.mod_lt ((lp m h k).1*5+1+(lp m h k).2 / 32) (show m+1 > 0 by lia);show ((lp m h k).1*5+1+(lp m h k).2 / 32) % (m+1)<=m;lia
def stp (m i:Nat):Nat:=(i*5+1) % (m+1)
def its (m:Nat):Nat->Nat->Nat
 |0,i=>i
 |d+1,i=>its m d (stp m i)
theorem q5I (m:Nat):∀a b i,its m (a+b) i=its m b (its m a i)
 |0,b,i=>by rw[Nat.zero_add];rfl
 |a+1,b,i=>by rw[Nat.succ_add];exact q5I m a b (stp m i)
theorem qFI (m:Nat) (h:Int) (k:Nat) (hk:13<=k):∀d,(lp m h (k+d)).1=its m d (lp m h k).1
 |0=>rfl
 |d+1=>by rw[q5I m d 1,<-qFI m h k hk d];show (leap m (lp m h (k+d)).1 (lp m h (k+d)).2).1=stp m _;rw[qCA m h (k+d) (by lia)];rfl
def q2h (m:Nat):Prop:=m=7\/m=31\/m=127
def orb (m:Nat):Nat->Nat->List Nat
 |0,_=>[]
 |n+1,i=>i::orb m n (stp m i)
theorem q8n (m:Nat):∀n i e,e∈orb m n i->∃d,d<n/\its m d i=e
 |0,_,_,h=>nomatch h
 |n+1,i,e,h=>by
  rcases Qf.mp h with rfl|h
  ·exact⟨0,by lia,rfl⟩
  ·obtain⟨d,hd,q⟩:=q8n m n _ e h;exact⟨d+1,by lia,q⟩
theorem cyc0 (m:Nat) (g:q2h m):its m (m+1) 0=0/\∀e,e<=m->e∈orb m (m+1) 0:=by
 have key:∀m,its m (m+1) 0=0->(Qg (m+1)).all (λ e=>(orb m (m+1) 0).contains e)=true->its m (m+1) 0=0/\∀e,e<=m->e∈orb m (m+1) 0:=λ m h1 h2 =>
  ⟨h1,λ e he=>by have:=Qw.mp h2 e (QE.mpr (by lia));exact List.contains_iff_mem.mp this⟩
 rcases g with rfl|rfl|rfl
 ·exact key 7 (by decide +kernel) (by decide +kernel)
 ·exact key 31 (by decide +kernel) (by decide +kernel)
 ·exact key 127 (by decide +kernel) (by decide +kernel)
theorem cyc (m:Nat) (g:q2h m) (i e:Nat) (hi:i<=m) (he:e<=m):∃d,d<=m/\its m d i=e:=by
 obtain⟨h0,hc⟩:=cyc0 m g;obtain⟨a,ha,qa⟩:=q8n m _ _ _ (hc i hi);obtain⟨b,hb,qb⟩:=q8n m _ _ _ (hc e he)
 by_cases hab:a<=b
 ·refine⟨b-a,by lia,?_⟩;rw[<-qa,<-q5I,show a+(b-a)=b by lia,qb]
 ·refine⟨b+(m+1)-a,by lia,?_⟩;rw[<-qa,<-q5I,show a+(b+(m+1)-a)=(m+1)+b by lia,q5I,h0,qb]
theorem qFJ (m:Nat) (g:q2h m) (h:Int) (e:Nat) (he:e<=m):∃k,k<=m+13/\(lp m h k).1=e:=by obtain⟨d,hd,q⟩:=cyc m g (lp m h 13).1 e (qJy m h 13) he;exact⟨13+d,by lia,by rw[qFI m h 13 (by lia)];exact q⟩
theorem met (m:Nat) (g:q2h m) (h:Int) (e:Nat) (he:e<=m):∃n,n<=10*(m+13)/\(path m h n).j=e:=by obtain⟨k,hk,q⟩:=qFJ m g h e he;refine⟨cc m h k,Qn (qJx m h k) (by lia),?_⟩;rw[q5H];show (lp m h k).1+0=e;lia
theorem q4C (m:Nat) (h:Int):∀n,(path m h n).dummy=none
 |0=>rfl
 |n+1=>by show (advM m (path m h n)).dummy=none;unfold advM SetTable.advance;split<;>exact q4C m h n
theorem q6b (m:Nat) (h:Int):∀n,(path m h n).j+(path m h n).more<=m/\(path m h n).i<=m
 |0=>by have h1:=qJy m h 0;have h2:=q7m m _ h1;have h3:=q3l m (lp m h 0).1;show (lp m h 0).1+(runEnd m (lp m h 0).1-(lp m h 0).1)<=m/\(lp m h 0).1<=m;lia
 |n+1=>by
  have ih:=q6b m h n;show (advM m (path m h n)).j+(advM m (path m h n)).more<=m/\(advM m (path m h n)).i<=m;unfold advM SetTable.advance;split
  ·simp only;lia
  ·have h1:(leap m (path m h n).i (path m h n).perturb).1<=m:=by have:=Nat.mod_lt ((path m h n).i*5+1+(path m h n).perturb / 32) (show m+1 > 0 by lia);show ((path m h n).i*5+1+(path m h n).perturb / 32) % (m+1)<=m;lia
   have h2:=q7m m _ h1;have h3:=q3l m (leap m (path m h n).i (path m h n).perturb).1;simp only[onM];lia
def Ris (l:List Nat):Prop:=l.Pairwise (· < ·)
theorem qEC (l:List Nat) (i d:Nat) (h:i<l.length):l.toArray.getD i d=l[i]:=by simp[Array.getD,h]
theorem Ris.lt (r:Ris l) {i k:Nat}(h:i<k) (hk:k<l.length):l[i]'(by lia)<l[k]:=Ja.mp r i k (by lia) hk h
theorem q6c (l:List Nat) (r:Ris l) (j:Nat):∀(fuel lo hi:Nat),hi-lo<2^fuel->lo<=hi->hi<=l.length->(∀i,i<lo->(h:i<l.length)->l[i]<j)->(∀i,hi<=i->(h:i<l.length)->j<=l[i])->
  below.go l.toArray j fuel lo hi<=l.length/\(∀i,i<below.go l.toArray j fuel lo hi->(h:i<l.length)->l[i]<j)/\(∀i,below.go l.toArray j fuel lo hi<=i->(h:i<l.length)->j<=l[i])
 |0,lo,hi,hf,hlh,hh,h1,h2=>by
  have e:lo=hi:=by simp at hf;lia
  subst e;exact⟨hh,h1,h2⟩
 |fuel+1,lo,hi,hf,hlh,hh,h1,h2=>by
  unfold below.go
  by_cases c:lo<hi
  ·rw[if_pos c];simp only;have hm:(lo+hi) / 2<l.length:=(by lia);rw[qEC l _ _ hm];have hp:2^(fuel+1)=2*2^fuel:=by rw[Nat.pow_succ];lia
   by_cases d:l[(lo+hi) / 2]<j
   ·rw[if_pos d];refine q6c l r j fuel _ hi (by lia) (by lia) hh (λ i hi' hl=>?_) h2
    by_cases e:i=(lo+hi) / 2
    ·subst e;exact d
    ·exact Nat.lt_trans (r.lt (show i<(lo+hi) / 2 by lia) hm) d
   ·rw[if_neg d];refine q6c l r j fuel lo _ (by lia) (by lia) (by lia) h1 (λ i hi' hl=>?_)
    by_cases e:i=(lo+hi) / 2
    ·subst e;lia
    ·have:=r.lt (show (lo+hi) / 2<i by lia) hl;lia
  ·rw[if_neg c];have e:lo=hi:=(by lia);subst e;exact⟨hh,h1,h2⟩
theorem q5s:∀n:Nat,n<2^n
 |0=>by decide
 |n+1=>by have:=q5s n;rw[Nat.pow_succ];lia
theorem q1K (l:List Nat) (r:Ris l) (j:Nat):below l.toArray j<=l.length/\(∀i,i<below l.toArray j->(h:i<l.length)->l[i]<j)/\(∀i,below l.toArray j<=i->(h:i<l.length)->j<=l[i]):=by
 unfold below;have e:l.toArray.size=l.length:=by simp
 rw[e];exact q6c l r j l.length 0 l.length (by have:=q5s l.length;lia) (by lia) (Qi _) (λ i h _=>by lia) (λ i h1 h2=>by lia)
theorem q28 (hp:t.place=l.toArray) (r:Ris l) {i:Nat}(h:l[i]? = some j):t.slot j = .live i:=by
 obtain⟨b1,b2,b3⟩:=q1K l r j;obtain⟨hi,e⟩:=Qc.mp h;have eb:below l.toArray j=i:=by
  by_cases c:below l.toArray j<i
  ·have:=b3 _ (Qi _) (by lia);have:=r.lt c hi;lia
  ·by_cases d:i<below l.toArray j
   ·have:=b2 i d hi;lia
   ·lia
 unfold slot;simp only[hp,eb];rw[if_pos (by simp[h])]
theorem q5t (hp:t.place=l.toArray) (hd:t.dummies=#[]) (h:j∉l):t.slot j = .empty:=by
 unfold slot;simp only[hp];rw[if_neg (λ q=>h ?_)]
 ·rw[hd,if_neg];unfold has;intro q;simp at q
 ·have q':l.toArray[below l.toArray j]? = some j:=by simpa using q
  have:l[below l.toArray j]? = some j:=by simpa using q'
  exact Qk this
theorem q3H {α:Type}(l:List α) (p:Nat) (x:α) (_hp:p<=l.length):insertAt l.toArray p x=(l.take p++x::l.drop p).toArray:=by unfold insertAt;apply Array.toList_inj.mp;simp;exact Jl (by simp)
abbrev Ent:=Nat×Int×Value
def slots (Z:List Ent):List Nat:=Z.map (·.1)
structure WF (t:SetTable) (Z:List Ent):Prop where
 place:t.place=(slots Z).toArray
 ris:Ris (slots Z)
 dum:t.dummies=#[]
 good:q2h t.mask
 le:∀z∈Z,z.1<=t.mask
 few:Z.length<=t.mask
 way:∀z∈Z,∃n,(path t.mask z.2.1 n).j=z.1/\∀k,k<n->(path t.mask z.2.1 k).j∈slots Z
theorem q3n:∀{a b:List Nat},a.Nodup->(∀x∈a,x∈b)->a.length<=b.length
 |[],_,_,_=>QM _
 |x::a,b,nd,h=>by
  have hx:=h x Qb;have nd':=QD.mp nd;have:=q3n (a:=a) (b:=b.erase x) nd'.2 λ y hy=>by have hne:y≠x:=λ q=>nd'.1 (q▸hy);exact (List.mem_erase_of_ne hne).mpr (h y (Qa _ hy))
  have e:=Jx hx;have hp:0<b.length:=List.length_pos_of_mem hx;simp only[Qo];lia
theorem q7n (l:List Nat) (m:Nat) (h:l.length<=m):∃e,e<=m/\e∉l:=by
 apply QJ;intro q;have:=q3n (a:=Qg (m+1)) (b:=l) Jn λ x hx=>by apply QJ;intro hn;exact q ⟨x,by have:=QE.mp hx;lia,hn⟩
 rw[QK] at this;lia
theorem least {P:Nat->Prop}[DecidablePred P]:∀n,P n->∃m,m<=n/\P m/\∀k,k<m->¬P k:=by
 intro n
 induction n using Nat.strongRecOn with
 |ind n ih =>
  intro h
  by_cases c:∃k,k<n/\P k
  ·obtain⟨k,hk,p⟩:=c;obtain⟨m,h1,h2,h3⟩:=ih k hk p;exact⟨m,by lia,h2,h3⟩
  ·exact⟨n,Qi _,h,λ k hk p=>c ⟨k,hk,p⟩⟩
def q1n (m:Nat) (h:Int) (l:List Nat) (N:Nat):Prop:=(path m h N).j∉l/\∀k,k<N->(path m h k).j∈l
theorem q5u (g:q2h m) (h:Int) (l:List Nat) (hl:l.length<=m):∃N,N<=10*(m+13)/\q1n m h l N:=by obtain⟨e,he,hn⟩:=q7n l m hl;obtain⟨n,h1,h2⟩:=met m g h e he;obtain⟨N,h3,h4,h5⟩:=least (P:=λ n=>(path m h n).j∉l) n (by rw[h2];exact hn);exact⟨N,by lia,h4,λ k hk=>QJ λ q=>h5 k hk q⟩
def Cand (m:Nat) (h:Int) (Z:List Ent) (k:Nat):Prop:=∃z∈Z,z.1=(path m h k).j/\z.2.1=h
theorem q9p {t:SetTable}{Z:List Ent}(wf:WF t Z) {h:Int}{hash:Nat->Int}(hh:∀i z,Z[i]? = some z->hash i=z.2.1) {N:Nat}(ff:q1n t.mask h (slots Z) N) :
  ∀fuel n,n<=N->N-n<fuel->
   (∃k i z,n<=k/\k<N/\Z[i]? = some z/\z.1=(path t.mask h k).j/\z.2.1=h/\(∀k',n<=k'->k'<k->¬Cand t.mask h Z k')/\probe.go t hash h fuel (path t.mask h n)=some (.candidate (path t.mask h k).j i (path t.mask h (k+1))))\/
   ((∀k',n<=k'->k'<N->¬Cand t.mask h Z k')/\probe.go t hash h fuel (path t.mask h n)=some (.empty (path t.mask h N).j none))
 |0,n,_,hf=>by lia
 |fuel+1,n,hn,hf=>by
  by_cases e:n=N
  ·subst e;refine .inr ⟨λ k' h1 h2=>by lia,?_⟩;unfold probe.go;rw[q5t wf.place wf.dum ff.1];simp only[q4C]
  ·have hl:=ff.2 n (by lia);obtain⟨i,hi,ei⟩:=QX hl;have hs:(slots Z)[i]? = some (path t.mask h n).j:=(by rw[Ql hi,ei]);have hz:∃z,Z[i]? = some z/\z.1=(path t.mask h n).j:=by
    unfold slots at hs;rw[Qs] at hs;cases q:Z[i]? with
    |none=>rw[q] at hs;cases hs
    |some z=>rw[q] at hs;exact⟨z,rfl,QQ.inj hs⟩
   obtain⟨z,hz,ez⟩:=hz;unfold probe.go;rw[q28 wf.place wf.ris hs];simp only[hh i z hz]
   by_cases c:z.2.1=h
   ·refine .inl ⟨n,i,z,Qi _,by lia,hz,ez,c,λ k' h1 h2=>by lia,?_⟩;rw[if_pos (by simpa using c)];rfl
   ·rw[if_neg (by simpa using c)];have nc:¬Cand t.mask h Z n:=by
     rintro⟨y,hy,e1,e2⟩;obtain⟨i',hi',ei'⟩:=QX hy;have hs':(slots Z)[i']? = some (path t.mask h n).j:=by unfold slots;rw[Qs,Ql hi',ei'];exact congrArg some e1
     have:i'=i:=by have q1:=q28 wf.place wf.ris hs';rw[q28 wf.place wf.ris hs] at q1;cases q1;rfl
     subst this;rw[Ql hi',ei'] at hz;cases hz;exact c e2
    rcases q9p wf hh ff fuel (n+1) (by lia) (by lia) with ⟨k,i2,z2,a1,a2,a3,a4,a5,a6,a7⟩|⟨a1,a2⟩
    ·refine .inl ⟨k,i2,z2,by lia,a2,a3,a4,a5,λ k' h1 h2=>?_,a7⟩
     by_cases q:k'=n
     ·subst q;exact nc
     ·exact a6 k' (by lia) h2
    ·refine .inr ⟨λ k' h1 h2=>?_,a2⟩
     by_cases q:k'=n
     ·subst q;exact nc
     ·exact a1 k' (by lia) h2
theorem qH1 {Z:List Ent}(wf:WF t Z) {h:Int}{N:Nat}(ff:q1n t.mask h (slots Z) N) {z:Ent}(hz:z∈Z) (e:z.2.1=h):∃k,k<N/\z.1=(path t.mask h k).j:=by
 obtain⟨n,h1,h2⟩:=wf.way z hz;rw[e] at h1 h2;refine⟨n,?_,h1.symm⟩;apply QJ;intro q
 by_cases c:n=N
 ·subst c;exact ff.1 (by rw[h1];exact List.mem_map_of_mem hz)
 ·exact ff.1 (h2 N (by lia))
def insZ (Z:List Ent) (p:Nat) (z:Ent):List Ent:=Z.take p++z::Z.drop p
theorem q6d {Z:List Ent}{p:Nat}{z y:Ent}:y∈insZ Z p z↔y=z\/y∈Z:=by
 unfold insZ;rw[Qm,Qf];have:(y∈Z)↔(y∈Z.take p\/y∈Z.drop p):=by rw[<-Qm,Jr]
 rw[this];constructor
 ·rintro (h|h|h)
  ·exact .inr (.inl h)
  ·exact .inl h
  ·exact .inr (.inr h)
 ·rintro (h|h|h)
  ·exact .inr (.inl h)
  ·exact .inl h
  ·exact .inr (.inr h)
theorem q5J (Z:List Ent) (p:Nat) (z:Ent):(insZ Z p z).Perm (z::Z):=by unfold insZ;refine List.perm_middle.trans ?_;rw[Jr]
theorem q2t {β:Type}(f:Ent->β) (Z:List Ent) (p:Nat) (z:Ent):(insZ Z p z).map f=(Z.map f).take p++f z::(Z.map f).drop p:=by unfold insZ;rw[Jt,Qx,List.map_take,List.map_drop]
theorem qH2 (r:Ris l) (hj:j∉l):Ris (l.take (below l.toArray j)++j::l.drop (below l.toArray j)):=by
 obtain⟨b1,b2,b3⟩:=q1K l r j;unfold Ris;rw[List.pairwise_append,QF];have ht:∀a∈l.take (below l.toArray j),a<j:=λ a ha=>by obtain⟨i,hi,e⟩:=QX ha;rw[List.getElem_take] at e;rw[Jz] at hi;rw[<-e];exact b2 i (by lia) (by lia)
 have hd:∀a∈l.drop (below l.toArray j),j<a:=λ a ha=>by obtain⟨i,hi,e⟩:=QX ha;rw[List.getElem_drop] at e;rw[List.length_drop] at hi;have:=b3 (below l.toArray j+i) (by lia) (by lia);rw[e] at this;have hne:j≠a:=λ q=>hj (q▸List.mem_of_mem_drop ha);lia
 refine⟨List.Pairwise.sublist (List.take_sublist _ _) r,⟨hd,List.Pairwise.sublist (List.drop_sublist _ _) r⟩,λ a ha b hb=>?_⟩;rcases Qf.mp hb with rfl|hb
 ·exact ht a ha
 ·exact Nat.lt_trans (ht a ha) (hd b hb)
theorem WF.insert {Z:List Ent}(wf:WF t Z) {h:Int}{x:Value}{N:Nat}(ff:q1n t.mask h (slots Z) N) (few:Z.length<t.mask) (pl:Bool) :
  WF {(t.put (path t.mask h N).j).1 with plain:=pl} (insZ Z (t.put (path t.mask h N).j).2 ((path t.mask h N).j,h,x)):=by
 have hb:=(q1K (slots Z) wf.ris (path t.mask h N).j).1;have ep:(t.put (path t.mask h N).j).2=below (slots Z).toArray (path t.mask h N).j:=by show below t.place _=_;rw[wf.place]
 refine⟨?_,?_,?_,wf.good,λ z hz=>?_,?_,λ z hz=>?_⟩
 ·show insertAt t.place (below t.place (path t.mask h N).j) (path t.mask h N).j=_;rw[ep,wf.place,q3H _ _ _ hb];unfold slots;rw[q2t]
 ·rw[ep];unfold slots;rw[q2t];exact qH2 wf.ris ff.1
 ·show (if has t.dummies _ then _ else t.dummies)=#[];rw[wf.dum];split
  ·rename_i q;unfold has at q;simp at q
  ·rfl
 ·rcases q6d.mp hz with rfl|hz
  ·have:=q6b t.mask h N;show (path t.mask h N).j<=t.mask;lia
  ·exact wf.le z hz
 ·rw[(q5J _ _ _).length_eq,Qo];exact few
 ·have sub:∀a,a∈slots Z->a∈slots (insZ Z (t.put (path t.mask h N).j).2 ((path t.mask h N).j,h,x)):=λ a ha=>by obtain⟨y,hy,e⟩:=Qq.mp ha;exact Qq.mpr ⟨y,q6d.mpr (.inr hy),e⟩
  rcases q6d.mp hz with rfl|hz
  ·exact⟨N,rfl,λ k hk=>sub _ (ff.2 k hk)⟩
  ·obtain⟨n,h1,h2⟩:=wf.way z hz;exact⟨n,h1,λ k hk=>sub _ (h2 k hk)⟩
def Occ (owner:Array (Option Nat)) (j:Nat):Prop:=(owner.getD j (some 0)).isNone=false
theorem q7o (m:Nat) (h:Int) (owner:Array (Option Nat)):∀fuel k0,(∃K,k0<=K/\K<k0+fuel/\¬Occ owner (lp m h K).1)->(∀n,n<cc m h k0->Occ owner (path m h n).j)->
  ∃n,layClean.free m owner fuel (lp m h k0).1 (lp m h k0).2=some (path m h n).j/\¬Occ owner (path m h n).j/\∀k,k<n->Occ owner (path m h k).j
 |0,k0,⟨K,h1,h2,_⟩,_=>by lia
 |fuel+1,k0,⟨K,h1,h2,h3⟩,ho=>by
  unfold layClean.free;cases q:(Qg (runEnd m (lp m h k0).1+1-(lp m h k0).1)).find? (λ k=>(owner.getD ((lp m h k0).1+k) (some 0)).isNone) with
  |some r =>
   have hr:=List.find?_some q;have hm:=QE.mp (List.mem_of_find?_eq_some q);have hge:=q3l m (lp m h k0).1;have hp:=q3m m h k0 (q5H m h k0) r (by lia);refine⟨cc m h k0+r,by rw[hp];rfl,?_,λ k hk=>?_⟩
   ·rw[hp];show ¬(owner.getD ((lp m h k0).1+r) (some 0)).isNone=false;rw[hr];simp
   ·by_cases c:k<cc m h k0
    ·exact ho k c
    ·obtain⟨r',rfl⟩:∃r',k=cc m h k0+r':=⟨k-cc m h k0,by lia⟩
     rw[q3m m h k0 (q5H m h k0) r' (by lia)];show (owner.getD ((lp m h k0).1+r') (some 0)).isNone=false;have hlt:r'<r:=(by lia);rw[List.find?_eq_some_iff_append] at q;obtain⟨_,as,bs,e,hn⟩:=q;have hmem:r'∈as:=by
      have e1:(Qg (runEnd m (lp m h k0).1+1-(lp m h k0).1))[r']? = some r':=(by rw[Jy (by lia)]);have e2:(Qg (runEnd m (lp m h k0).1+1-(lp m h k0).1))[r]? = some r:=(by rw[Jy (by lia)]);rw[e] at e1 e2;have hl:as.length=r:=by have e3:(as++r::bs)[as.length]? = some r:=(by simp);have hlt2:as.length<(Qg (runEnd m (lp m h k0).1+1-(lp m h k0).1)).length:=(by rw[e];simp);rw[<-e,Jy (by simpa using hlt2)] at e3;exact QQ.inj e3
      rw[QI (by lia)] at e1;exact Qk e1
     have:=hn r' hmem;simpa using this
  |none =>
   have hn:=List.find?_eq_none.mp q;have hge:=q3l m (lp m h k0).1;have run:∀r,r<=runEnd m (lp m h k0).1-(lp m h k0).1->Occ owner ((lp m h k0).1+r):=λ r hr=>by have:=hn r (QE.mpr (by lia));exact Bool.eq_false_iff.mpr this
   have hK:k0+1<=K:=by apply QJ;intro z;have:K=k0:=(by lia);subst this;exact h3 (by have:=run 0 (by lia);simpa using this)
   refine q7o m h owner fuel (k0+1) ⟨K,hK,by lia,h3⟩ λ n hn'=>?_
   by_cases c:n<cc m h k0
   ·exact ho n c
   ·have e:cc m h (k0+1)=cc m h k0+(runEnd m (lp m h k0).1-(lp m h k0).1)+1:=rfl;obtain⟨r',rfl⟩:∃r',n=cc m h k0+r':=⟨n-cc m h k0,by lia⟩
    rw[q3m m h k0 (q5H m h k0) r' (by lia)];exact run r' (by lia)
structure Laid (m:Nat) (hs:List Int) (owner:Array (Option Nat)) (As:List Nat):Prop where
 size:owner.size=m+1
 len:As.length=hs.length
 nd:As.Nodup
 own:∀(j q:Nat),owner[j]? = some (some q)↔As[q]? = some j
 way:∀(q:Nat) (h:Int) (j:Nat),hs[q]? = some h->As[q]? = some j->∃n,(path m h n).j=j/\∀k,k<n->(path m h k).j∈As
theorem Laid.le (L:Laid m hs owner As) (hj:j∈As):j<=m:=by obtain⟨q,hq⟩:=List.getElem?_of_mem hj;have:=(L.own j q).mpr hq;have:=(Array.getElem?_eq_some_iff.mp this).1;rw[L.size] at this;lia
theorem Laid.occ (L:Laid m hs owner As) (hj:j<=m):Occ owner j↔j∈As:=by
 have hlt:j<owner.size:=by rw[L.size];lia
 have e:owner.getD j (some 0)=owner[j]:=by simp[Array.getD,hlt]
 unfold Occ;rw[e];constructor
 ·intro h;cases q:owner[j] with
  |none=>rw[q] at h;cases h
  |some k=>exact Qk ((L.own j k).mp (by rw[Array.getElem?_eq_getElem hlt,q]))
 ·intro h;obtain⟨q,hq⟩:=List.getElem?_of_mem h;have:=(L.own j q).mpr hq;rw[Array.getElem?_eq_getElem hlt] at this;rw[QQ.inj this];rfl
theorem qED (m:Nat):Laid m [] (Array.replicate (m+1) none) []:=by
 refine⟨by simp,rfl,Jp,λ j q=>?_,λ q h j e=>by simp at e⟩;constructor
 ·intro e;rw[Array.getElem?_replicate] at e;split at e<;>simp at e
 ·intro e;simp at e
theorem qCB (g:q2h m) (L:Laid m hs owner As) (h:Int) (few:hs.length<=m) :
  ∃j,layClean.free m owner (turns m) (bits h % (m+1)) (bits h)=some j/\Laid m (hs++[h]) (owner.setIfInBounds j (some hs.length)) (As++[j]):=by
 obtain⟨e,he,hn⟩:=q7n As m (by rw[L.len];exact few);obtain⟨K,hK,eK⟩:=qFJ m g h e he;obtain⟨n,f1,f2,f3⟩:=q7o m h owner (turns m) 0 ⟨K,QM _,by unfold turns;lia,by rw[eK,L.occ he];exact hn⟩ (λ n hn=>by simp[cc] at hn);have hj:(path m h n).j<=m:=by have:=q6b m h n;lia
 have hjn:(path m h n).j∉As:=λ z=>f2 ((L.occ hj).mpr z);refine⟨(path m h n).j,f1,by simp[L.size],by simp[L.len],?_,λ j q=>?_,λ q h' j e1 e2=>?_⟩
 ·rw[Qz];refine⟨L.nd,by simp,λ a ha b hb=>?_⟩;have:b=(path m h n).j:=by simpa using hb
  subst this;exact λ z=>hjn (z▸ha)
 ·by_cases c:j=(path m h n).j
  ·subst c;rw[Array.getElem?_setIfInBounds_self_of_lt (by rw[L.size];lia)];constructor
   ·intro z;have:hs.length=q:=(by simpa using z);subst this;rw[QT (by rw[L.len];exact Qi _),L.len];simp
   ·intro z
    by_cases d:q<As.length
    ·rw[QI d] at z;exact absurd (Qk z) hjn
    ·rw[QT (by lia)] at z;have:q-As.length=0:=by apply QJ;intro y;rw[Jb (by simp;lia)] at z;cases z
     have:=L.len;have:q=hs.length:=(by lia);subst this;rfl
  ·rw[Array.getElem?_setIfInBounds_ne (Ne.symm c),L.own];constructor
   ·intro z;rw[QI (Qc.mp z).1];exact z
   ·intro z
    by_cases d:q<As.length
    ·rw[QI d] at z;exact z
    ·rw[QT (by lia)] at z;have:j∈[(path m h n).j]:=Qk z;exact absurd (by simpa using this) c
 ·have hl:=L.len;have up:∀a,a∈As->a∈As++[(path m h n).j]:=λ a ha=>Qv _ ha
  by_cases d:q<As.length
  ·rw[QI (by lia)] at e1;rw[QI d] at e2;obtain⟨n',w1,w2⟩:=L.way q h' j e1 e2;exact⟨n',w1,λ k hk=>up _ (w2 k hk)⟩
  ·have hq:q=As.length:=by have:=(Qc.mp e2).1;simp at this;lia
   subst hq;rw[QT (by lia)] at e1 e2;simp[hl] at e1 e2;subst e1 e2;exact⟨n,rfl,λ k hk=>up _ ((L.occ (by have:=q6b m h k;lia)).mp (f3 k hk))⟩
theorem q7p {m:Nat}(g:q2h m):∀(rest hs:List Int) (owner:Array (Option Nat)) (As:List Nat),Laid m hs owner As->hs.length+rest.length<=m->
  ∃owner' As',rest.foldl (λ (acc:Option (Array (Option Nat)×Nat)) h=>do
    let (owner,k) <-acc
    let j <-layClean.free m owner (turns m) (bits h % (m+1)) (bits h)
    pure (owner.setIfInBounds j (some k),k+1)) (some (owner,hs.length))=some (owner',hs.length+rest.length)/\Laid m (hs++rest) owner' As'
 |[],hs,owner,As,L,_=>⟨owner,As,rfl,by rw[QR];exact L⟩
 |h::rest,hs,owner,As,L,hl=>by simp only[Qo] at hl;obtain⟨j,e,L'⟩:=qCB g L h (by lia);have:=q7p g rest (hs++[h]) _ _ L' (by simp;lia);obtain⟨owner',As',e2,L2⟩:=this;refine⟨owner',As',?_,by simpa using L2⟩;rw[List.foldl_cons];simp only[QA,QN] at e2;simp only[bind,Option.bind,e,pure,Qo];rw[show hs.length+(rest.length+1)=hs.length+1+rest.length by lia];exact e2
theorem q3o (g:q2h m) (hs:List Int) (hl:hs.length<=m):∃owner As,layClean m hs.toArray=some owner/\Laid m hs owner As:=by obtain⟨owner,As,e,L⟩:=q7p g hs [] _ _ (qED m) (by simpa using hl);refine⟨owner,As,?_,by simpa using L⟩;unfold layClean;rw[List.foldl_toArray];simp only[Q5,Nat.zero_add] at e;rw[e];rfl
def q1V (m:Nat) (owner:Array (Option Nat)):List (Nat×Nat):=(Qg (m+1)).filterMap λ j=>(owner.getD j none).map (j,·)
theorem q1A (L:Laid m hs owner As) {q:Nat}:(j,q)∈q1V m owner↔As[q]? = some j:=by
 unfold q1V;rw[List.mem_filterMap];constructor
 ·rintro⟨j',h1,h2⟩;have hlt:j'<owner.size:=by rw[L.size];exact QE.mp h1
  have e:owner.getD j' none=owner[j']:=by simp[Array.getD,hlt]
  rw[e] at h2;cases c:owner[j'] with
  |none=>rw[c] at h2;cases h2
  |some q' =>
   rw[c] at h2;have:(j',q')=(j,q):=(by simpa using h2);cases this;exact (L.own j q).mp (by rw[Array.getElem?_eq_getElem hlt,c])
 ·intro h;have hj:=L.le (Qk h);have hlt:j<owner.size:=by rw[L.size];lia
  refine⟨j,QE.mpr (by lia),?_⟩;have e:owner.getD j none=owner[j]:=by simp[Array.getD,hlt]
  have:=(L.own j q).mpr h;rw[Array.getElem?_eq_getElem hlt] at this;rw[e,QQ.inj this];rfl
theorem q5v (m:Nat) (owner:Array (Option Nat)):Ris ((q1V m owner).map (·.1)):=by unfold Ris q1V;rw[Jh];refine List.Pairwise.filterMap _ (λ a a' hlt b hb b' hb'=>?_) Q2;obtain⟨q,_,rfl⟩:=Jj.mp hb;obtain⟨q',_,rfl⟩:=Jj.mp hb';exact hlt
theorem q7q (L:Laid m hs owner As):((q1V m owner).map (·.2)).Perm (Qg hs.length):=by
 have nd:((q1V m owner).map (·.2)).Nodup:=by have r:=q5v m owner;unfold Ris at r;rw[Jh] at r;unfold List.Nodup;rw[Jh];refine List.Pairwise.imp_of_mem (λ {a b} ha hb hlt=>?_) r;intro e;obtain⟨j,q⟩:=a;obtain⟨j',q'⟩:=b;simp only at e hlt;subst e;have h1:=(q1A L).mp ha;have h2:=(q1A L).mp hb;rw[h1] at h2;have:=QQ.inj h2;lia
 rw[List.perm_ext_iff_of_nodup nd Jn];intro q;rw[Qq,QE];constructor
 ·rintro⟨⟨j,q'⟩,h,rfl⟩;have:=(Qc.mp ((q1A L).mp h)).1;rw[L.len] at this;exact this
 ·intro h;have hlt:q<As.length:=by rw[L.len];exact h
  exact⟨(As[q],q),(q1A L).mpr (Ql hlt),rfl⟩
theorem q37 {α β:Type}{f g:α->Option β}:∀{l:List α},(∀a∈l,f a=g a)->l.filterMap f=l.filterMap g
 |[],_=>rfl
 |a::l,h=>by rw[Q3,Q3,h a Qb,q37 λ b hb=>h b (Qa _ hb)]
theorem q6e {α:Type}(es:List α) (d:α):(Qg es.length).map (λ q=>es.getD q d)=es:=by
 apply List.ext_getElem
 ·simp
 ·intro i h1 h2;simp at h1 |-;rw[Ql h1];rfl
theorem q5K (t:SetTable) (es:List (Int×Value)) (wanted:Nat) (g:q2h (sizeAbove wanted-1)) (few:es.length<=sizeAbove wanted-1) :
  ∃t' order Z',t.relaid (es.toArray.map (·.1)) wanted=some (t',order)/\WF t' Z'/\order.filterMap (es.toArray[·]?)=(Z'.map (·.2)).toArray/\(Z'.map (·.2)).Perm es/\
   t'.mask=sizeAbove wanted-1/\t'.led=t.led/\t'.plain=t.plain:=by
 obtain⟨owner,As,e,L⟩:=q3o g (es.map (·.1)) (by rw[Qh];exact few);have hl:(es.map (·.1)).length=es.length:=Qh _
 let d:Int×Value:=(0,Value.none)
 let Z':List Ent:=(q1V (sizeAbove wanted-1) owner).map λ p=>(p.1,es.getD p.2 d)
 have hlt:∀p∈q1V (sizeAbove wanted-1) owner,p.2<es.length:=λ p hp=>by have:=(Qc.mp ((q1A L).mp hp)).1;rw[L.len,hl] at this;exact this
 have z1:slots Z'=(q1V (sizeAbove wanted-1) owner).map (·.1):=by show ((q1V (sizeAbove wanted-1) owner).map λ p=>(p.1,es.getD p.2 d)).map (·.1)=_;rw[Jv];rfl
 have z2:Z'.map (·.2)=((q1V (sizeAbove wanted-1) owner).map (·.2)).map (λ q=>es.getD q d):=by show ((q1V (sizeAbove wanted-1) owner).map λ p=>(p.1,es.getD p.2 d)).map (·.2)=_;rw[Jv,Jv];rfl
 have zp:(Z'.map (·.2)).Perm es:=by rw[z2];refine ((q7q L).map _).trans ?_;rw[hl,q6e]
 have zl:Z'.length=es.length:=by have:=zp.length_eq;rwa [Qh] at this
 refine⟨{mask:=sizeAbove wanted-1,place:=((q1V (sizeAbove wanted-1) owner).map (·.1)).toArray,dummies:=#[],finger:=t.finger,led:=t.led,moves:=t.movedTo (sizeAbove wanted-1),plain:=t.plain},
  ((q1V (sizeAbove wanted-1) owner).map (·.2)).toArray,Z',?_,?_,?_,zp,?_,?_,?_⟩
 ·show laid (sizeAbove wanted-1) t.finger (t.movedTo (sizeAbove wanted-1)) t.led t.plain (es.toArray.map (·.1))=_;unfold laid;rw[show es.toArray.map (·.1)=(es.map (·.1)).toArray by simp,e];rfl
 ·refine⟨?_,?_,rfl,g,λ z hz=>?_,by rw[zl];exact few,λ z hz=>?_⟩
  ·rw[z1]
  ·rw[z1];exact q5v _ _
  ·obtain⟨p,hp,rfl⟩:=Qq.mp hz;exact L.le (Qk ((q1A L).mp (show (p.1,p.2)∈_ from hp)))
  ·obtain⟨p,hp,rfl⟩:=Qq.mp hz;have ha:=(q1A L).mp (show (p.1,p.2)∈_ from hp);have hq:=hlt p hp;have he:(es.map (·.1))[p.2]? = some (es.getD p.2 d).1:=by rw[Qs,Ql hq];simp[Jm,hq]
   obtain⟨n,w1,w2⟩:=L.way p.2 _ p.1 he ha;refine⟨n,w1,λ k hk=>?_⟩;rw[z1];obtain⟨q,hq'⟩:=List.getElem?_of_mem (w2 k hk);exact Qq.mpr ⟨(_,q),(q1A L).mpr hq',rfl⟩
 ·rw[z2];apply Array.toList_inj.mp;simp only[Array.toList_filterMap];show List.filterMap (λ x=>es.toArray[x]?) ((q1V (sizeAbove wanted-1) owner).map (·.2))=_;refine (q37 (g:=some ∘ λ q=>es.getD q d) λ q hq=>?_).trans (by rw[List.filterMap_eq_map]);obtain⟨p,hp,rfl⟩:=Qq.mp hq;have:=hlt p hp;simp[Jm,this]
 ·rfl
 ·rfl
 ·rfl
theorem WF.size {Z:List Ent}(wf:WF t Z):t.place.size=Z.length:=by rw[wf.place];simp[slots]
theorem WF.fill {Z:List Ent}(wf:WF t Z):t.fill=Z.length:=by unfold SetTable.fill;rw[wf.size,wf.dum];rfl
end SetT
namespace Snd
open PySem PySem.Spec PySem.W PyProof.Rows L2 Ev SetT
def Ents (h:Heap) (Z:List Ent) (ds:List D):Prop:=Z.length=ds.length/\∀(i:Nat) (z:Ent) (d:D),Z[i]? = some z->ds[i]? = some d->Dv h d z.2.2/\hv d=z.2.1/\plN 8 d=true/\q02 d=true
structure SetIn (h:Heap) (a:Addr) (Z:List Ent) (t:SetTable) (ep:Nat):Prop where
 obj:∃o,h.get? a=some o/\o.ExactSet/\o.data = .set (Z.map (·.2)).toArray ep t
 wf:WF t Z
 plain:t.plain=true
theorem SetIn.fits {h:Heap}{a:Addr}{Z:List Ent}{t:SetTable}{ep:Nat}(S:SetIn h a Z t ep):t.fits (Z.map (·.2)).toArray.size=true:=by unfold SetTable.fits;rw[S.wf.size,S.wf.fill];have:=S.wf.few;simp[this]
section
variable {prog:Program}{w:World}{A:Around}{E:Value->Shared->Prop}{s:Shared}{a:Addr}{Z:List Ent}{t:SetTable}{ep:Nat}{ds:List D}{x:Value}{d:D}
theorem Ents.at {h:Heap}(e:Ents h Z ds) {i:Nat}{z:Ent}(hz:Z[i]? = some z):∃d,ds[i]? = some d/\Dv h d z.2.2/\hv d=z.2.1/\plN 8 d=true/\q02 d=true:=by
 have hi:=(Qc.mp hz).1;have hi2:i<ds.length:=by rw[<-e.1];exact hi
 exact⟨ds[i],by simp[hi2],e.2 i z ds[i] hz (by simp[hi2])⟩
theorem q1G {Q:(Array (Int×Value)×Nat×SetTable)->Shared->Prop}(S:SetIn s.heap a Z t ep) (h:Q ((Z.map (·.2)).toArray,ep,t) s):wpAny (model prog w) A (setState a) Q E s:=by obtain⟨o,ho,_,hd⟩:=S.obj;exact wpAny_setState_of ho hd S.fits h
theorem qEE (wf:WF t Z):t.gaveWay=false:=by unfold SetTable.gaveWay;rcases wf.good with h|h|h<;>rw[h]<;>rfl
theorem if2 {α:Type}{M:Model}{c:Prop}[Decidable c] {a b:Sem α}{Q:α->Shared->Prop}(h1:c->wpAny M A a Q E s) (h2:¬c->wpAny M A b Q E s):wpAny M A (if c then a else b) Q E s:=by
 by_cases k:c
 ·rw[if_pos k];exact h1 k
 ·rw[if_neg k];exact h2 k
theorem qEF {stored:List Value}{Q:Bool->Shared->Prop}(px:plN 8 d=true) (hx:q02 d=true) (Dx:Dv s.heap d x) (hs:∀y∈stored,∃e,Dv s.heap e y/\plN 8 e=true/\q02 e=true) (h:Q false s):wpAny (model prog w) A (searchCouldBeSeen x stored) Q E s:=by
 unfold searchCouldBeSeen;refine wpAny_bind ?_;refine wpAny_forIn_list _ (λ rest r s'=>r.1=none/\s'=s/\∀y∈rest,∃e,Dv s.heap e y/\plN 8 e=true/\q02 e=true) _ ?_ ?_ _ _ ⟨rfl,rfl,hs⟩
 ·rintro v rest r s' ⟨hr,rfl,hall⟩;obtain⟨e,z,pe,he⟩:=hall v Qb;have tl:=λ u hu'=>hall u (Qa _ hu');refine if2 (λ _=>wpAny_pure ⟨rfl,rfl,tl⟩) λ _=>?_
  ·refine wpAny_bind (qBV 8 8 (Qi _) px hx Dx ?_);simp only[Bool.not_true,QL,if_false];refine wpAny_bind (qBV 8 8 (Qi _) pe he z ?_);simp only[Bool.not_true,QL,if_false];refine wpAny_bind (q7Q 8 8 (Qi _) px hx Dx ?_);simp only[QL,if_false];refine wpAny_bind (q7Q 8 8 (Qi _) pe he z ?_);simp only[QL,if_false];exact wpAny_pure ⟨rfl,rfl,tl⟩
 ·rintro⟨r1,r2⟩ s' ⟨hr,rfl,_⟩;simp only at hr;subst hr;exact wpAny_pure h
theorem if3 {α:Type}{M:Model}{c:Prop}[Decidable c] {m:Sem Bool}{a b:Sem α}{Q:α->Shared->Prop}(hm:∀Q':Bool->Shared->Prop,Q' false s->wpAny M A m Q' E s) (h:wpAny M A b Q E s):wpAny M A (if c then m >>= λ z=>if z=true then a else b else b) Q E s :=
 if2 (λ _=>wpAny_bind (hm _ (by simp only[QL,if_false];exact h))) λ _=>h
def Tups (ds:List D):Prop:=∀d∈ds,∃l,d = .tup l
theorem q5L (S:SetIn s.heap a Z t ep) (en:Ents s.heap Z ds) (tu:Tups ds) (px:plN 8 d=true) (hx:q02 d=true) (Dx:Dv s.heap d x) (hu:A.units+8<cLine) {N:Nat}(ff:q1n t.mask (hv d) (slots Z) N) {Q:SetFound->Shared->Prop}
  (hy:d∈ds->Q (.there none) s) (hq:d∉ds->Q (.free (path t.mask (hv d) N).j false) s) (hN:N<=10*(t.mask+13)) :
  ∀(fuel n:Nat) (st:Option SetTable.Probe),st.getD (t.probeStart (hv d))=path t.mask (hv d) n->n<=N->N-n<fuel->(∀k,k<n->∀(i:Nat) (z:Ent),Z[i]? = some z->ds[i]? = some d->z.1=(path t.mask (hv d) k).j->False)->
   wpAny (model prog w) A (setSearchFrom a x (hv d) true fuel st) Q E s
 |0,n,_,_,_,hf,_=>by lia
 |fuel+1,n,st,hst,hn,hf,hno=>by
  unfold setSearchFrom;refine wpAny_bind (q1G S ?_);dsimp only;rw[qEE S.wf,hst];simp only[QL,if_false];have hh:∀(i:Nat) (z:Ent),Z[i]? = some z->(((Z.map (·.2)).toArray[i]?.map (·.1)).getD 0)=z.2.1:=λ i z hz=>by simp[hz]
  generalize hg:SetTable.probe t _ (hv d) (path t.mask (hv d) n)=g;rcases q9p S.wf hh ff (10*SetTable.turns t.mask) n hn (by unfold SetTable.turns;lia) with ⟨k,i,z,h1,h2,h3,h4,h5,h6,h7⟩|⟨h1,h2⟩
  ·have hg':=hg.symm.trans h7;subst hg';dsimp only;obtain⟨e,e1,e2,e3,e4,e5⟩:=en.at h3;have hes:(Z.map (·.2)).toArray[i]? = some z.2:=(by simp[h3]);refine if3 (λ Q' hq'=>qEF px hx Dx (λ y hy'=>?_) hq') ?_
   ·simp only[Qq] at hy';obtain⟨y',hy1,rfl⟩:=hy';have hm:y'∈(Z.map (·.2)).toArray:=(Array.mem_filter.mp (Array.mem_def.mpr hy1)).1;have hm2:y'∈Z.map (·.2):=(by simpa using hm);obtain⟨zz,hz1,rfl⟩:=Qq.mp hm2;obtain⟨i',hi',ei'⟩:=QX hz1;obtain⟨f,_,f2,f3,f4,f5⟩:=en.at (i:=i') (z:=zz) (by rw[Ql hi',ei']);exact⟨f,f2,f4,f5⟩
   rw[hes];dsimp only;refine wpAny_bind (wpAny_holding (q35 8 (A:=A) e4 px e2 Dx hu prog w E _ ?_));refine wpAny_bind (q1G S ?_)
   by_cases c:e=d
   ·subst c;rw[(q0Y e5 hx).mpr rfl];exact wpAny_pure (hy (Qk e1))
   ·have ne:eqb e d=false:=by
     cases q:eqb e d with
     |false=>rfl
     |true=>exact absurd ((q0Y e5 hx).mp q) c
    rw[ne];dsimp only;rw[if_neg (by decide)];have sm:t.sameMemory t.moves t.mask=some true:=(by unfold SetTable.sameMemory;simp);rw[sm];have hs:(slots Z)[i]? = some (path t.mask (hv d) k).j:=(by unfold slots;rw[Qs,h3];exact congrArg some h4);have sl:=q28 S.wf.place S.wf.ris hs;dsimp only;rw[if_pos rfl,sl];dsimp only;rw[hes];dsimp only;obtain⟨l,rfl⟩:=tu e (Qk e1);obtain⟨b,us,eb,x1,x2⟩:=e2;rw[eb];refine wpAny_bind (wpAny_isSame_ref_self (wpAny_bind (wpAny_pure ?_)));rw[if_pos rfl];dsimp only;rw[if_neg (by decide)];refine q5L S en tu px hx Dx hu ff hy hq hN fuel (k+1) _ rfl (by lia) (by lia) λ k' hk' i' z' hz' hd' ez'=>?_;have hz:=en.2 i' z' d hz' hd'
    by_cases c1:k'<n
    ·exact hno k' c1 i' z' hz' hd' ez'
    ·by_cases c2:k'=k
     ·subst c2;have hs':(slots Z)[i']? = some (path t.mask (hv d) k').j:=(by unfold slots;rw[Qs,hz'];exact congrArg some ez');have q1:=q28 S.wf.place S.wf.ris hs';rw[sl] at q1;cases q1;rw[e1] at hd';exact c (QQ.inj hd')
     ·exact h6 k' (by lia) (by lia) ⟨z',Qk hz',ez',hz.2.1.symm⟩
  ·have hg':=hg.symm.trans h2;subst hg';dsimp only;refine wpAny_pure (hq λ hm=>?_);obtain⟨i,hi,ei⟩:=QX hm;have hi2:i<Z.length:=(by rw[en.1];exact hi);have hdi:ds[i]? = some d:=(by rw[Ql hi,ei]);have hzi:Z[i]? = some Z[i]:=(by simp[hi2]);have hz:=en.2 i Z[i] d hzi hdi;obtain⟨k,k1,k2⟩:=qH1 S.wf ff (QW hi2) hz.2.1.symm
   by_cases c:k<n
   ·exact hno k c i _ hzi hdi k2
   ·exact h1 k (by lia) k1 ⟨_,QW hi2,k2,hz.2.1.symm⟩
end
end Snd
namespace Snd
open PySem PySem.Spec PySem.W PyProof.Rows L2 Ev SetT
variable {h:Heap}{Z:List Ent}
def Rl (h:Heap) (e:Int×Value) (d:D):Prop:=Dv h d e.2/\hv d=e.1/\plN 8 d=true/\q02 d=true
def Prs (h:Heap) (P:List ((Int×Value)×D)):Prop:=∀p∈P,Rl h p.1 p.2
theorem Prs.ents {P:List ((Int×Value)×D)}(q:Prs h P) (e:P.map (·.1)=Z.map (·.2)):Ents h Z (P.map (·.2)):=by
 have hl:P.length=Z.length:=by have:=congrArg List.length e;simpa using this
 refine⟨by simp[hl],λ i z d hz hd=>?_⟩;rw[Qs] at hd;cases hp:P[i]? with
 |none=>rw[hp] at hd;cases hd
 |some p =>
  rw[hp] at hd;have e1:p.2=d:=QQ.inj hd;have e2:(P.map (·.1))[i]? = some p.1:=by rw[Qs,hp];rfl
  rw[e,Qs,hz] at e2;have e3:z.2=p.1:=QQ.inj e2;have:=q p (Qk hp);rw[<-e3,e1] at this;exact this
theorem q5M {α β:Type}(f:α->β) {l m:List β}(p:l.Perm m):∀P:List α,P.map f=m->∃P':List α,P'.Perm P/\P'.map f=l:=by
 induction p with
 |nil=>exact λ P e=>⟨P,.refl _,e⟩
 |cons x _ ih =>
  intro P e;cases P with
  |nil=>cases e
  |cons y P =>
   simp only[Qx,List.cons.injEq] at e;obtain⟨P',p1,p2⟩:=ih P e.2;exact⟨y::P',p1.cons y,by rw[Qx,e.1,p2]⟩
 |swap x y l =>
  intro P e
  match P,e with
  |u::v::P,e =>
   simp only[Qx,List.cons.injEq] at e;exact⟨v::u::P,.swap _ _ _,by simp[e.1,e.2.1,e.2.2]⟩
 |trans _ _ ih1 ih2 =>
  intro P e;obtain⟨P1,p1,e1⟩:=ih2 P e;obtain⟨P2,p2,e2⟩:=ih1 P1 e1;exact⟨P2,p2.trans p1,e2⟩
structure SetD (M:D->Value->Prop) (h₀ h:Heap) (a:Addr) (ds:List D) (led:Bool):Prop where
 ex:∃Z t ep P,SetIn h a Z t ep/\Prs h₀ P/\P.map (·.1)=Z.map (·.2)/\(P.map (·.2)).Perm ds/\t.tooFull=false/\t.led=led/\∀p∈P,M p.2 p.1.2
 kp:∀b o,h₀.get? b=some o->h.get? b=some o
 nw:h₀.get? a=none
theorem Prs.keep {h':Heap}{P:List ((Int×Value)×D)}(q:Prs h P) (k:∀b o,h.get? b=some o->h'.get? b=some o):Prs h' P:=λ p hp=>let ⟨r1,r2⟩:=q p hp;⟨(q5B k).1 _ _ r1,r2⟩
theorem q9q {h₀ h':Heap}{a:Addr}(kp:∀b o,h₀.get? b=some o->h.get? b=some o) (nw:h₀.get? a=none) (k:Heap.SameBut a h h'):∀b o,h₀.get? b=some o->h'.get? b=some o:=λ b o e=>by rw[k.2 b (λ c=>by subst c;rw[nw] at e;cases e)];exact kp b o e
section
variable {prog:Program}{w:World}{A:Around}{E:Value->Shared->Prop}{s:Shared}{a:Addr}{ds:List D}{x:Value}{d:D}{led:Bool}
theorem q5w {m n:Nat}(g:q2h m) (h1:n*5≥m*3) (h2:(n-1)*5<m*3) (h3:n<=64):q2h (SetTable.sizeAbove (SetTable.grown n)-1)/\n<=SetTable.sizeAbove (SetTable.grown n)-1/\n*5<(SetTable.sizeAbove (SetTable.grown n)-1)*3:=by
 rcases g with g|g|g
 ·have:n=5:=by lia
  subst this;unfold q2h;decide
 ·have:n=19:=by lia
  subst this;unfold q2h;decide
 ·lia
theorem q4p {Z':List Ent}{t t':SetTable}{ep:Nat}(S:SetIn s.heap a Z t ep) (wf:WF t' Z') (pl:t'.plain=true) (hl:Z'.length<=64) {Q:Unit->Shared->Prop}
  (h:∀h',Heap.SameBut a s.heap h'->SetIn h' a Z' t' (ep+1)->Q () {s with heap:=h'}):wpAny (model prog w) A (storeSet a (Z'.map (·.2)).toArray t') Q E s:=by
 obtain⟨o,ho,hx,hd⟩:=S.obj;have hg:(s.heap.update a (Obj.putSet (Z'.map (·.2)).toArray t')).get? a=some {o with data:= .set (Z'.map (·.2)).toArray (ep+1) t'}:=by have:=Heap.get?_update_self (Obj.putSet (Z'.map (·.2)).toArray t') ho (by rw[putSet_of _ t' hd];rfl);rw[putSet_of _ t' hd] at this;exact this
 refine wpAny_storeSet_of ho hd (h _ (Heap.SameBut.update s.heap a _) ⟨⟨_,hg,hx,rfl⟩,wf,pl⟩) ?_;rw[sizeLine_eq];simp;lia
theorem qEG {t:SetTable}{ep n:Nat}(S:SetIn s.heap a Z t ep) (hn:n=Z.length) (g:q2h (SetTable.sizeAbove (SetTable.grown n)-1)) (few:n<=SetTable.sizeAbove (SetTable.grown n)-1) (hl:n<=64) {Q:Unit->Shared->Prop}
  (h:∀h' Z' t',Heap.SameBut a s.heap h'->SetIn h' a Z' t' (ep+1)->(Z'.map (·.2)).Perm (Z.map (·.2))->t'.mask=SetTable.sizeAbove (SetTable.grown n)-1->t'.led=t.led->Q () {s with heap:=h'}):wpAny (model prog w) A (setRelay a (SetTable.grown n)) Q E s:=by
 obtain⟨t',order,Z',r1,r2,r3,r4,r5,r6,r7⟩:=q5K t (Z.map (·.2)) (SetTable.grown n) g (by rw[Qh,<-hn];exact few);unfold setRelay;refine wpAny_bind (q1G S ?_);dsimp only;have hs:¬(SetTable.sizeAbove (SetTable.grown n) > sizeLine):=by rw[sizeLine_eq];rcases g with g|g|g<;>lia
 rw[if_neg hs];refine wpAny_bind ?_;rw[r1];have hz:Z'.length=Z.length:=by have:=r4.length_eq;simpa using this
 change wpAny _ _ (if ((order.filterMap ((Z.map (·.2)).toArray[·]?)).size != (Z.map (·.2)).toArray.size)=true then (unsupported "internal:set-table-lost-an-element" >>= λ _=>pure (order.filterMap ((Z.map (·.2)).toArray[·]?),t')) else pure (order.filterMap ((Z.map (·.2)).toArray[·]?),t')) _ _ _;rw[r3,if_neg (by simp[hz])];exact wpAny_pure (q4p S r2 (by rw[r7];exact S.plain) (by lia) λ h' k S'=>h h' Z' t' k S' r4 r5 r6)
end
end Snd
namespace Snd
open PySem PySem.Spec PySem.W PyProof.Rows L2 Ev SetT
section
variable {prog:Program}{w:World}{A:Around}{E:Value->Shared->Prop}{s:Shared}{a:Addr}{ds:List D}{x:Value}{d:D}{led:Bool}{h₀:Heap}{M:D->Value->Prop}
theorem q7r (t:SetTable) (j:Nat) (h:t.plain=true):({(t.put j).1 with plain:=true}:SetTable)=(t.put j).1:=by obtain⟨a,b,c,e,f,g,p⟩:=t;cases h;rfl
theorem qH3 (S:SetD M h₀ s.heap a ds led) (tu:Tups (d::ds)) (px:plN 8 d=true) (hx:q02 d=true) (Dx0:Dv h₀ d x) (mx:M d x) (hu:A.units+8<cLine) (hl:ds.length<64) {Q:Bool->Shared->Prop}
  (hy:d∈ds->Q false s) (hq:d∉ds->∀h',Heap.SameBut a s.heap h'->SetD M h₀ h' a (d::ds) led->Q true {s with heap:=h'}):wpAny (model prog w) A (setAddHashed a x (hv d)) Q E s:=by
 obtain⟨⟨Z,t,ep,P,S,pr,e1,e2,tf,le,mm⟩,kp,nw⟩:=S;have Dx:=(q5B kp).1 _ _ Dx0;have en:=(pr.keep kp).ents e1;have tu':Tups (P.map (·.2)):=λ e he=>tu e (Qa _ (e2.mem_iff.mp he));have hlen:Z.length=ds.length:=by have h1:=congrArg List.length e1;have h2:=e2.length_eq;simp at h1 h2;lia
 have tf':Z.length*5<t.mask*3:=by have:=tf;unfold SetTable.tooFull at this;rw[S.wf.fill] at this;simpa using this
 obtain⟨N,n1,n2⟩:=q5u S.wf.good (hv d) (slots Z) (by have:=S.wf.few;simpa[slots] using this);have hm:t.mask<=127:=by rcases S.wf.good with h|h|h<;>lia
 obtain⟨l,rfl⟩:=tu d Qb;unfold setAddHashed setAddHashedIn;refine wpAny_holding (wpAny_bind (q1G S ?_));dsimp only;have bs:byScan x (Z.map (·.2)).toArray=false:=by obtain⟨b,us,rfl,_⟩:=Dx;rfl
 rw[bs];simp only[QL,if_false];unfold setSearch;refine wpAny_bind (q5L S en tu' px hx Dx hu n2 (λ hm=>?_) (λ hm=>?_) n1 100000 0 none rfl (QM _) (by lia) (λ k hk=>by lia))
 ·exact wpAny_pure (hy (e2.mem_iff.mp hm))
 ·dsimp only;refine wpAny_bind (q1G S ?_);dsimp only;rw[show (t.put (path t.mask (hv (.tup l)) N).j).1.plain=true from S.plain];rw[if_pos rfl];refine wpAny_bind (qG9 8 8 (Qi _) px hx Dx ?_);rw[if_pos rfl];generalize hz:(path t.mask (hv (.tup l)) N).j=j;have wf:=S.wf.insert (x:=x) n2 (by have:=S.wf.good;rcases this with h|h|h<;>lia) true;rw[q7r _ _ S.plain] at wf;rw[hz] at wf;have hp:(t.put j).2<=Z.length:=by have:=(q1K (slots Z) S.wf.ris j).1;show SetTable.below t.place j<=_;rw[S.wf.place];simpa[slots] using this
  have ei:SetTable.insertAt (Z.map (·.2)).toArray (t.put j).2 (hv (.tup l),x)=((insZ Z (t.put j).2 (j,hv (.tup l),x)).map (·.2)).toArray:=by rw[q3H _ _ _ (by simpa using hp),q2t]
  have hlz:(insZ Z (t.put j).2 (j,hv (.tup l),x)).length=Z.length+1:=by have:=(q5J Z (t.put j).2 (j,hv (.tup l),x)).length_eq;simpa using this
  rw[ei]
  let P':List ((Int×Value)×D):=P.take (t.put j).2++((hv (.tup l),x),.tup l)::P.drop (t.put j).2
  have pp:P'.Perm (((hv (.tup l),x),.tup l)::P):=by refine List.perm_middle.trans (.cons _ ?_);rw[Jr]
  have q1:P'.map (·.1)=(insZ Z (t.put j).2 (j,hv (.tup l),x)).map (·.2):=by rw[q2t,<-e1];simp[P',List.map_take,List.map_drop]
  have q2:(P'.map (·.2)).Perm (.tup l::ds):=List.Perm.trans (pp.map (λ p=>p.2)) (List.Perm.trans (by rw[Qx]) (e2.cons (D.tup l)));have pr':Prs h₀ P':=λ p hp'=>by
   rcases Qf.mp (pp.mem_iff.mp hp') with h|h
   ·subst h;exact⟨Dx0,rfl,px,hx⟩
   ·exact pr p h
  have mm':∀p∈P',M p.2 p.1.2:=λ p hp'=>by
   rcases Qf.mp (pp.mem_iff.mp hp') with h|h
   ·subst h;exact mx
   ·exact mm p h
  have hno:D.tup l∉ds:=λ h=>hm (e2.mem_iff.mpr h);refine wpAny_bind (q4p S wf S.plain (by lia) λ h' k S'=>?_);have kp2:=q9q kp nw k;have hf:(t.put j).1.tooFull=decide ((Z.length+1)*5≥t.mask*3):=by unfold SetTable.tooFull;rw[wf.fill,hlz];rfl
  by_cases c:(Z.length+1)*5≥t.mask*3
  ·rw[if_pos (by rw[hf];simpa using c)];have hsz:(Z.map (·.2)).toArray.size+1=Z.length+1:=(by simp);obtain⟨g1,g2,g3⟩:=q5w S.wf.good c (by simpa using tf') (by lia);rw[hsz];refine wpAny_bind (qEG S' hlz.symm g1 g2 (by lia) λ h2 Z2 t2 k2 S2 p2 m2 l2=>?_);obtain⟨P2,o1,o2⟩:=q5M (·.1) p2 P' q1;refine wpAny_pure (hq hno h2 (k.trans k2) ⟨⟨Z2,t2,_,P2,S2,λ p hp'=>pr' p (o1.mem_iff.mp hp'),o2,List.Perm.trans (o1.map (λ p=>p.2)) q2,?_,?_,λ p hp'=>mm' p (o1.mem_iff.mp hp')⟩,q9q kp2 nw k2,nw⟩)
   ·unfold SetTable.tooFull;rw[S2.wf.fill,m2];have hz2:Z2.length=Z.length+1:=(by have:=p2.length_eq;simp[hlz] at this;lia);rw[hz2];simpa using g3
   ·rw[l2];exact le
  ·rw[if_neg (by rw[hf];simpa using c)];exact wpAny_pure (hq hno h' k ⟨⟨_,_,_,P',S',pr',q1,q2,by rw[hf];simpa using c,le,mm'⟩,kp2,nw⟩)
end
end Snd
namespace Snd
open PySem PySem.Spec PySem.W PyProof.Rows L2 Ev SetT
theorem q5x {t:SetTable}{Z:List Ent}(wf:WF t Z) {h:Int}{hash:Nat->Int}(hh:∀i,(hash i==h)=false) {N:Nat}(ff:q1n t.mask h (slots Z) N) :
  ∀fuel n,n<=N->N-n<fuel->SetTable.probe.go t hash h fuel (path t.mask h n)=some (.empty (path t.mask h N).j none)
 |0,n,_,hf=>by lia
 |fuel+1,n,hn,hf=>by
  by_cases e:n=N
  ·subst e;unfold SetTable.probe.go;rw[q5t wf.place wf.dum ff.1];simp only[q4C]
  ·have hl:=ff.2 n (by lia);obtain⟨i,hi,ei⟩:=QX hl;have hs:(slots Z)[i]? = some (path t.mask h n).j:=(by rw[Ql hi,ei]);unfold SetTable.probe.go;rw[q28 wf.place wf.ris hs];simp only[hh i,QL,if_false];exact q5x wf hh ff fuel (n+1) (by lia) (by lia)
theorem qCC {t:SetTable}{Z:List Ent}(wf:WF t Z) {h:Int}{N:Nat}(ff:q1n t.mask h (slots Z) N) (hN:N<=10*(t.mask+13)):t.freeSlot h=some ((path t.mask h N).j,false):=by unfold SetTable.freeSlot;have:=q5x wf (h:=h) (hash:=λ _=>h+1) (λ i=>by simp;lia) ff (10*SetTable.turns t.mask) 0 (QM _) (by unfold SetTable.turns;lia);rw[show t.probe (λ _=>h+1) h (t.probeStart h)=_ from this];rfl
theorem q7s (t:SetTable) (es:List (Int×Value)) (wanted:Nat) (g:q2h (SetTable.sizeAbove wanted-1)) (few:es.length<=SetTable.sizeAbove wanted-1) {t':SetTable}{order:Array Nat}
  (h:t.relaid (es.toArray.map (·.1)) wanted=some (t',order)):order.toList.Perm (Qg es.length):=by
 obtain⟨owner,As,e,L⟩:=q3o g (es.map (·.1)) (by rw[Qh];exact few);have h2:SetTable.laid (SetTable.sizeAbove wanted-1) t.finger (t.movedTo (SetTable.sizeAbove wanted-1)) t.led t.plain (es.toArray.map (·.1))=some (t',order):=h;unfold SetTable.laid at h2;rw[show es.toArray.map (·.1)=(es.map (·.1)).toArray by simp,e] at h2;have h3:order=((q1V (SetTable.sizeAbove wanted-1) owner).map (·.2)).toArray:=(congrArg (·.2) (QQ.inj h2)).symm;rw[h3];have:=q7q L;rw[Qh] at this;exact this
theorem q8o {Z:List Ent}{t:SetTable}{n:Nat}(hn:n=Z.length) (g:q2h (SetTable.sizeAbove (SetTable.grown n)-1)) (few:n<=SetTable.sizeAbove (SetTable.grown n)-1) :
  ∃Z' t',relayAll t (Z.map (·.2)).toArray (SetTable.grown n)=((Z'.map (·.2)).toArray,t',false)/\WF t' Z'/\(Z'.map (·.2)).Perm (Z.map (·.2))/\t'.mask=SetTable.sizeAbove (SetTable.grown n)-1/\t'.led=t.led/\t'.plain=t.plain:=by
 have fw:(Z.map (·.2)).length<=SetTable.sizeAbove (SetTable.grown n)-1:=by rw[Qh,<-hn];exact few
 obtain⟨t',order,Z',r1,r2,r3,r4,r5,r6,r7⟩:=q5K t (Z.map (·.2)) (SetTable.grown n) g fw;refine⟨Z',t',?_,r2,r4,r5,r6,r7⟩;have hp:=q7s t (Z.map (·.2)) (SetTable.grown n) g fw r1;unfold relayAll;rw[r1];dsimp only;rw[r3];have c1:coversAll order (Z.map (·.2)).toArray.size=true:=by unfold coversAll;rw[List.isPerm_iff];simpa using hp
 have c2:t'.fits (Z'.map (·.2)).toArray.size=true:=by unfold SetTable.fits;rw[r2.size,r2.fill];have:=r2.few;simp[this]
 rw[c1,c2];rfl
end Snd
namespace Snd
open PySem PySem.Spec PySem.W PyProof.Rows L2 Ev SetT
def Ints (ds:List D):Prop:=∀d∈ds,∃i,d = .int i
section
variable {prog:Program}{w:World}{A:Around}{E:Value->Shared->Prop}{s:Shared}{a:Addr}{ds:List D}{x:Value}{n:Int}{led:Bool}{h₀:Heap}{M:D->Value->Prop}
theorem qCD {M:Model}{Q:Unit->Shared->Prop}(h:Q () s):wpAny M A (match false with|true=>rule "set.scan.the-table-gave-way" | false=>pure ()) Q E s:=wpAny_pure h
theorem add_int (S:SetD M h₀ s.heap a ds led) (tu:Ints ds) (Dx0:Dv h₀ (.int n) x) (mx:M (.int n) x) (hl:ds.length<64) {Q:Bool->Shared->Prop}
  (hy : .int n∈ds->Q false s) (hq : .int n∉ds->∀h',Heap.SameBut a s.heap h'->SetD M h₀ h' a (.int n::ds) led->Q true {s with heap:=h'}):wpAny (model prog w) A (setAddHashed a x (hv (.int n))) Q E s:=by
 obtain⟨⟨Z,t,ep,P,S,pr,e1,e2,tf,le,mm⟩,kp,nw⟩:=S;have en:=(pr.keep kp).ents e1;have px:plN 8 (.int n)=true:=rfl;have hx:q02 (.int n)=true:=rfl;have hlen:Z.length=ds.length:=by have h1:=congrArg List.length e1;have h2:=e2.length_eq;simp at h1 h2;lia
 have tf':Z.length*5<t.mask*3:=by have:=tf;unfold SetTable.tooFull at this;rw[S.wf.fill] at this;simpa using this
 obtain⟨N,n1,n2⟩:=q5u S.wf.good (hv (.int n)) (slots Z) (by have:=S.wf.few;simpa[slots] using this);have fsl:=qCC S.wf n2 n1;obtain⟨tk,rfl⟩:=Dx0;have hel:ElemsOf (intKind prog w) (Z.map (·.2)):=λ e he=>by obtain⟨z,hz,rfl⟩:=Qq.mp he;obtain⟨i,hi,ei⟩:=QX hz;obtain⟨d,d1,d2,d3,d4,d5⟩:=en.at (i:=i) (z:=z) (by rw[Ql hi,ei]);obtain⟨m,rfl⟩:=tu d (e2.mem_iff.mp (Qk d1));obtain⟨tk',d6⟩:=d2;rw[d6];exact⟨⟨m,by simp[intKind,Value.isInt],d3.symm⟩,rfl⟩
 have his:∀p∈P,(intKind prog w).is n p.1.2=true↔p.2 = .int n:=λ p hp=>by obtain⟨m,em⟩:=tu p.2 (e2.mem_iff.mp (Qq.mpr ⟨p,hp,rfl⟩));have:=((pr.keep kp) p hp).1;rw[em] at this;obtain⟨tk',q⟩:=this;rw[q,em];simp[intKind,Value.isInt]
 unfold setAddHashed setAddHashedIn;obtain⟨o,ho,hex,hd⟩:=S.obj;refine wpAny_holding (wpAny_bind (q1G S ?_));dsimp only;rw[byScan_of (knd:=intKind prog w) rfl (by show (Z.map (·.2)).toArray.size<4096;simp;lia) (by simpa using hel)];rw[if_pos rfl];unfold setAddByScan;refine wpAny_bind (wpAny_bind (wpAny_rule ?_));refine wpAny_bind (wpAny_setScan_of (knd:=intKind prog w) (k:=n) (by simp[intKind,Value.isInt]) ho hd S.fits (by simpa using hel) ?_);cases hr:List.findIdx? (λ e=>(intKind prog w).is n e.2) (Z.map (·.2)).toArray.toList with
 |some j =>
  dsimp only;obtain⟨hj,hpj,_⟩:=List.findIdx?_eq_some_iff_getElem.mp hr;refine wpAny_pure (wpAny_pure (hy ?_));have hm:(Z.map (·.2)).toArray.toList[j]∈P.map (·.1):=by rw[e1];exact QW hj
  obtain⟨p,hp,ep'⟩:=Qq.mp hm;rw[<-ep'] at hpj;exact e2.mem_iff.mp (Qq.mpr ⟨p,hp,(his p hp).mp hpj⟩)
 |none =>
  dsimp only;have hno:D.int n∉ds:=λ h=>by
   obtain⟨p,hp,ep'⟩:=Qq.mp (e2.mem_iff.mpr h);have h1:=(his p hp).mpr ep';have h2:p.1∈(Z.map (·.2)).toArray.toList:=by have:p.1∈P.map (λ p=>p.1):=Qq.mpr ⟨p,hp,rfl⟩;rw[e1] at this;exact this
   have:=List.findIdx?_eq_none_iff.mp hr _ h2;rw[h1] at this;cases this
  generalize hz:(path t.mask (hv (.int n)) N).j=j at fsl;have wf:=S.wf.insert (x:= .int n tk) n2 (by have:=S.wf.good;rcases this with h|h|h<;>lia) true;rw[q7r _ _ S.plain] at wf;rw[hz] at wf;have hp:(t.put j).2<=Z.length:=by have:=(q1K (slots Z) S.wf.ris j).1;show SetTable.below t.place j<=_;rw[S.wf.place];simpa[slots] using this
  have ei:SetTable.insertAt (Z.map (·.2)).toArray (t.put j).2 (hv (.int n),.int n tk)=((insZ Z (t.put j).2 (j,hv (.int n),.int n tk)).map (·.2)).toArray:=by rw[q3H _ _ _ (by simpa using hp),q2t]
  have hlz:(insZ Z (t.put j).2 (j,hv (.int n),.int n tk)).length=Z.length+1:=by have:=(q5J Z (t.put j).2 (j,hv (.int n),.int n tk)).length_eq;simpa using this
  have hft:(t.put j).1.fits ((insZ Z (t.put j).2 (j,hv (.int n),.int n tk)).map (·.2)).toArray.size=true:=by unfold SetTable.fits;rw[wf.size,wf.fill];have:=wf.few;simp[this]
  have hL:layNew t (Z.map (·.2)).toArray (hv (.int n)) (.int n tk)=(((insZ Z (t.put j).2 (j,hv (.int n),.int n tk)).map (·.2)).toArray,(t.put j).1,false,false):=by unfold layNew;rw[fsl];dsimp only;rw[ei];unfold SetTable.orStandIn;rw[hft];rfl
  let P':List ((Int×Value)×D):=P.take (t.put j).2++((hv (.int n),.int n tk),.int n)::P.drop (t.put j).2
  have pp:P'.Perm (((hv (.int n),.int n tk),.int n)::P):=by refine List.perm_middle.trans (.cons _ ?_);rw[Jr]
  have q1:P'.map (·.1)=(insZ Z (t.put j).2 (j,hv (.int n),.int n tk)).map (·.2):=by rw[q2t,<-e1];simp[P',List.map_take,List.map_drop]
  have q2:(P'.map (·.2)).Perm (.int n::ds):=List.Perm.trans (pp.map (λ p=>p.2)) (List.Perm.trans (by rw[Qx]) (e2.cons (D.int n)));have pr':Prs h₀ P':=λ p hp'=>by
   rcases Qf.mp (pp.mem_iff.mp hp') with h|h
   ·subst h;exact⟨⟨tk,rfl⟩,rfl,px,hx⟩
   ·exact pr p h
  have mm':∀p∈P',M p.2 p.1.2:=λ p hp'=>by
   rcases Qf.mp (pp.mem_iff.mp hp') with h|h
   ·subst h;exact mx
   ·exact mm p h
  rw[hL];dsimp only;refine wpAny_bind (qCD ?_);rw[show (t.put j).1.plain=true from S.plain];rw[if_pos rfl,hashByValue_scannable 8 (x:= .int n tk) rfl];refine wpAny_bind (wpAny_pure ?_);rw[if_pos (show plainKind (.int n tk)=true from rfl)];refine wpAny_bind (q4p S wf S.plain (by lia) λ h' k S'=>?_);have kp2:=q9q kp nw k;have hf:(t.put j).1.tooFull=decide ((Z.length+1)*5≥t.mask*3):=by unfold SetTable.tooFull;rw[wf.fill,hlz];rfl
  by_cases c:(Z.length+1)*5≥t.mask*3
  ·rw[if_pos (by rw[hf];simpa using c)];obtain⟨g1,g2,g3⟩:=q5w S.wf.good c (by simpa using tf') (by lia);have hsz:((insZ Z (t.put j).2 (j,hv (.int n),.int n tk)).map (·.2)).toArray.size=Z.length+1:=(by simp[hlz]);rw[hsz];obtain⟨Z2,t2,y1,y2,y3,y4,y5,y6⟩:=q8o (Z:=insZ Z (t.put j).2 (j,hv (.int n),.int n tk)) (t:=(t.put j).1) hlz.symm g1 g2;rw[y1];dsimp only;have hz2:Z2.length=Z.length+1:=(by have:=y3.length_eq;simp[hlz] at this;lia);refine wpAny_bind (qCD ?_);refine wpAny_bind (q4p S' y2 (by rw[y6];exact S.plain) (by lia) λ h2 k2 S2=>?_);obtain⟨P2,o1,o2⟩:=q5M (·.1) y3 P' q1;refine wpAny_pure (wpAny_pure (hq hno h2 (k.trans k2) ⟨⟨Z2,t2,_,P2,S2,λ p hp'=>pr' p (o1.mem_iff.mp hp'),o2,List.Perm.trans (o1.map (λ p=>p.2)) q2,?_,?_,λ p hp'=>mm' p (o1.mem_iff.mp hp')⟩,q9q kp2 nw k2,nw⟩))
   ·unfold SetTable.tooFull;rw[S2.wf.fill,y4,hz2];simpa using g3
   ·rw[y5];exact le
  ·rw[if_neg (by rw[hf];simpa using c)];exact wpAny_pure (wpAny_pure (hq hno h' k ⟨⟨_,_,_,P',S',pr',q1,q2,by rw[hf];simpa using c,le,mm'⟩,kp2,nw⟩))
end
end Snd
namespace Snd
open PySem PySem.Spec PySem.W PyProof.Rows L2 Ev SetT
section
variable {prog:Program}{w:World}{A:Around}{E:Value->Shared->Prop}{s:Shared}{a:Addr}{ds xs:List D}{us:List Value}{led:Bool}{h₀:Heap}{M:D->Value->Prop}
def Kin (xs:List D):Prop:=Tups xs\/Ints xs
theorem qLj {d:D}{x:Value}(S:SetD M h₀ s.heap a ds led) (kn:Kin (d::ds)) (px:plN 8 d=true) (hx:q02 d=true) (Dx:Dv h₀ d x) (mx:M d x) (hu:A.units+10<cLine) (hl:ds.length<64) {Q:Bool->Shared->Prop}
  (hy:d∈ds->∀tk,Q false {s with toks:=tk}) (hq:d∉ds->∀h' tk,Heap.SameBut a s.heap h'->SetD M h₀ h' a (d::ds) led->Q true {s with heap:=h',toks:=tk}):wpAny (model prog w) A (setAdd a x) Q E s:=by
 unfold setAdd;refine wpAny_holding (wpAny_bind (qDY 8 px hx ((q5B S.kp).1 _ _ Dx) (by lia) λ tk=>?_));rcases kn with kn|kn
 ·exact qH3 (s:={s with toks:=tk}) S kn px hx Dx mx (by lia) hl (λ h=>hy h tk) λ h h' k S'=>hq h h' tk k S'
 ·obtain⟨n,rfl⟩:=kn d Qb;exact add_int (s:={s with toks:=tk}) S (λ e he=>kn e (Qa _ he)) Dx mx hl (λ h=>hy h tk) λ h h' k S'=>hq h h' tk k S'
theorem SetD.move {h h':Heap}{wr:List Addr}(S:SetD M h₀ h a ds led) (ha:a∉wr) (hw:∀b∈wr,h₀.get? b=none) (k:∀b o,b∉wr->h.get? b=some o->h'.get? b=some o):SetD M h₀ h' a ds led:=by obtain⟨⟨Z,t,ep,P,⟨⟨o,ho,r⟩,wf,pl⟩,q⟩,kp,nw⟩:=S;refine⟨⟨Z,t,ep,P,⟨⟨o,k a o ha ho,r⟩,wf,pl⟩,q⟩,λ b o e=>k b o (λ hb=>?_) (kp b o e),nw⟩;rw[hw b hb] at e;cases e
theorem q9r {i:Nat}{d e:D}(h:xs[i]? = some d):e∈xs.take (i+1)↔e=d\/e∈xs.take i:=by rw[List.take_succ,h,Qm];simp;exact Or.comm
theorem q4q {R:Result->Shared->Prop}{I:Addr}{fp wr:List Addr}{n:Nat}{P:Nat->Value->Prop}{St:Nat->Heap->Prop}(W:Walks prog w A.in1 I fp wr n P St) (haf:a∉fp) (hw:∀b∈wr,h₀.get? b=none)
  (dx:DvL h₀ xs us) (mx:∀(i:Nat) d v,xs[i]? = some d->us[i]? = some v->M d v) (hP:∀i v,P i v->us[i]? = some v) (hn:n=us.length) (kn:Kin xs) (hh:q09 xs=true) (hp:∀d∈xs,plN 8 d=true) (hu:A.units+11<cLine) (hl:∀l:List D,l.Nodup->(∀d∈l,d∈xs)->l.length<64) :
  ∀(k i:Nat) (s:Shared) (ds:List D),n-i=k->i<=n->St i s.heap->SetD M h₀ s.heap a ds led->ds.Nodup->(∀d,d∈ds↔d∈xs.take i)->
   (∀h' tk ds',(∀b o,b∉a::wr->s.heap.get? b=some o->h'.get? b=some o)->SetD M h₀ h' a ds' led->ds'.Nodup->(∀d,d∈ds'↔d∈xs)->R (.ok (.ret .none)) {s with heap:=h',toks:=tk})->
   codeAny (model prog w) A (.builtin "set.update.loop" ⟨[.ref a,.ref I],[]⟩) R s:=by
 have haw:a∉wr:=λ h=>haf (W.sub _ h);have hxl:=dx.length;intro k
 induction k with
 |zero =>
  intro i s ds hk hi hst S nd hm hR;have:i=n:=by lia
  subst this;refine codeAny_builtin F.entry_set_update_loop ?_;rw[Around.under_plainId F.plain_set_update_loop _];show wpAny _ A.in1 (pyNext (.ref I) >>= _) _ _ s;refine wpAny_bind (W.done s _ _ hst λ h' tk hm'=>?_);show wpAny _ A.in1 (ret Value.none) _ _ _;refine wpAny_pure (hR h' tk ds (λ b o hb e=>hm' b o (λ h=>hb (Qa _ h)) e) (S.move haw hw hm') nd λ d=>?_);rw[hm d,Jl (by lia)]
 |succ k ih =>
  intro i s ds hk hi hst S nd hm hR;refine codeAny_builtin F.entry_set_update_loop ?_;rw[Around.under_plainId F.plain_set_update_loop _];show wpAny _ A.in1 (pyNext (.ref I) >>= _) _ _ s;refine wpAny_bind (W.item i s _ _ (by lia) hst λ v h1 tk1 hv hst' hm'=>?_);have hv':=hP i v hv;have hix:i<xs.length:=by lia
  have hdi:xs[i]? = some xs[i]:=by simp[hix]
  obtain⟨v',hv2,Dx⟩:=dx.get hdi;rw[hv'] at hv2;cases hv2;have S1:=S.move haw hw hm';have sub:∀d∈ds,d∈xs:=λ d hd=>List.mem_of_mem_take ((hm d).mp hd);have hmem:xs[i]∈xs:=QW hix;have kn':Kin (xs[i]::ds):=by
   rcases kn with kn|kn
   ·exact .inl λ d hd=>(Qf.mp hd).elim (λ h=>kn d (h▸hmem)) λ h=>kn d (sub d h)
   ·exact .inr λ d hd=>(Qf.mp hd).elim (λ h=>kn d (h▸hmem)) λ h=>kn d (sub d h)
  show wpAny _ A.in1 (holding [v] (setAdd a v) >>= _) _ _ _;refine wpAny_bind (wpAny_holding (qLj (s:={s with heap:=h1,toks:=tk1}) S1 kn' (hp _ hmem) (q0Q.mp hh _ hmem) Dx (mx i _ _ hdi hv') (by rw[Around.in1_units];lia) (hl ds nd sub) (λ hd tk=>?_) λ hd h2 tk k2 S2=>?_))
  ·refine wpAny_pure ⟨plainId_quiet F.plain_set_update_loop _,ih (i+1) _ ds (by lia) (by lia) hst' S1 nd (λ d=>?_) λ h3 tk3 ds3 k3 S3 nd3 m3=>?_⟩
   ·rw[q9r hdi,hm d];exact⟨.inr,λ h=>h.elim (λ e=>e▸(hm _).mp hd) id⟩
   ·exact hR h3 tk3 ds3 (λ b o hb e=>k3 b o hb (hm' b o (λ h=>hb (Qa _ h)) e)) S3 nd3 m3
  ·refine wpAny_pure ⟨plainId_quiet F.plain_set_update_loop _,ih (i+1) _ (xs[i]::ds) (by lia) (by lia) (W.frame _ _ _ hst' λ b hb o e=>?_) S2 (QD.mpr ⟨hd,nd⟩) (λ d=>?_) λ h3 tk3 ds3 k3 S3 nd3 m3=>?_⟩
   ·show h2.get? b=some o;rw[k2.2 b (λ h:b=a=>haf (by rw[<-h];exact hb))];exact e
   ·rw[q9r hdi,Qf,hm d]
   ·refine hR h3 tk3 ds3 (λ b o hb e=>k3 b o hb ?_) S3 nd3 m3;show h2.get? b=some o;rw[k2.2 b (λ h:b=a=>hb (by rw[h];exact Qb))];exact hm' b o (λ h=>hb (Qa _ h)) e
end
end Snd
namespace Snd
open PySem PySem.Spec PySem.W PyProof.Rows L2 Ev SetT
def byT (w:World):Bool:=w.params.followText "set-order"
def set0 (w:World):Obj:={cls:= .type "set",dict:=none,data:= .set #[] 0 (.fresh 0 0 (!byT w))}
section
variable {prog:Program}{w:World}{A:Around}{E:Value->Shared->Prop}{s:Shared}{a:Addr}{ds xs:List D}{us:List Value}{led:Bool}{h₀:Heap}{M:D->Value->Prop}
theorem qH4 (v:Value) {Q₁:Value->Shared->Prop}(h:Q₁ (.ref s.heap.objs.size) {s with heap:=s.heap.push (set0 w)}):codeAny (model prog w) A (.call (.builtin "set.__new__") ⟨[.type "set",v],[]⟩) (wants Q₁ E) s:=by
 refine codeAny_of_tree (show wpAny _ A.in1 (checkBuiltinCall "set.__new__" ⟨[.type "set",v],[]⟩ >>= λ _=>again (.builtin "set.__new__" ⟨[.type "set",v],[]⟩)) _ _ s from ?_);refine wpAny_bind (wpAny_of_eq (F.newCall_set_1 v) (wpAny_pure (And.intro (plainId_quiet F.plain_set_new _) (codeAny_builtin F.entry_set_new ?_))));rw[(Around.under_plainId F.plain_set_new _)];unfold Builtin.«set.__new__»;unfold Builtin.Frozenset.newClass;have hss:=sub_set_self;obtain⟨hp,ge,dr,tk,os⟩:=s;dsimp only
 wp_walk
 refine wpAny_askSetting (wpAny_pure ?_);dsimp only;simp only[newObj];exact wpAny_bind (wpAny_alloc (wpAny_pure (wpAny_pure h)))
theorem qJz (hn:h₀.get? h₀.objs.size=none):SetD M h₀ (h₀.push (set0 w)) h₀.objs.size [] (!byT w):=by refine⟨⟨[],.fresh 0 0 (!byT w),0,[],⟨⟨set0 w,Heap.get?_push_size _ rfl,⟨rfl,rfl,rfl⟩,rfl⟩,⟨rfl,List.Pairwise.nil,rfl,.inl rfl,λ z hz=>by simp at hz,QM _,λ z hz=>by simp at hz⟩,rfl⟩,λ p hp=>by simp at hp,rfl,.nil,rfl,rfl,λ p hp=>by simp at hp⟩,λ b o e=>Heap.get?_push_of_some _ e,hn⟩
structure Src (prog:Program) (w:World) (ty:String) (l:Addr) (us:List Value) (h:Heap) (St:Addr->Nat->Heap->Prop):Prop where
 obj:∃o n,h.get? l=some o/\o.cls = .type ty/\o.data = .seq us.toArray n
 sub1:isSubtype (.type ty) (.type "set")=pure false
 sub2:isSubtype (.type ty) (.type "frozenset")=pure false
 ne:(Value.type ty==Value.type "dict")=false
 walks:∀{A:Around}(I:Addr),A.handled=none->l≠I->Walks prog w A I [I,l] [I] us.length (λ i v=>us[i]? = some v) (St I)
 iter:∀{A:Around}{E:Value->Shared->Prop}{s:Shared}{Q:Value->Shared->Prop},(∀o,h.get? l=some o->s.heap.get? l=some o)->
  (∀o:Obj,St s.heap.objs.size 0 (s.heap.push o)->Q (.ref s.heap.objs.size) {s with heap:=s.heap.push o})->wpAny (model prog w) A (pyIter (.ref l)) Q E s
theorem src_list {l:Addr}{h:Heap}(hl:h.IsList l us.toArray):Src prog w "list" l us h (λ I i h=>h.IsListIter I l i/\h.IsList l us.toArray):=by
 have hl':=hl;obtain⟨o,ho,hc,n,hd⟩:=hl';refine⟨⟨o,n,ho,hc,hd⟩,F.sub_list_set,F.sub_list_frozenset,by decide,λ I hh ne=>by simpa using Walks.list hh I l ne us.toArray,λ k hq=>?_⟩;have hl2:Heap.IsList _ l us.toArray:=⟨o,k o ho,hc,n,hd⟩
 exact wpAny_pyIter_list hl2 (hq _ ⟨⟨_,Heap.get?_push_size _ rfl,rfl,rfl⟩,o,Heap.get?_push_of_some _ (k o ho),hc,n,hd⟩)
theorem src_tuple {l:Addr}{h:Heap}(hl:h.IsTuple l us.toArray):Src prog w "tuple" l us h (λ I i h=>h.IsTupleIter I l i/\h.IsTuple l us.toArray):=by
 have hl':=hl;obtain⟨o,ho,hc,n,hd⟩:=hl';refine⟨⟨o,n,ho,hc,hd⟩,F.sub_tuple_set,F.sub_tuple_frozenset,by decide,λ I hh ne=>by simpa using Walks.tuple hh I l ne us.toArray,λ k hq=>?_⟩;have hl2:Heap.IsTuple _ l us.toArray:=⟨o,k o ho,hc,n,hd⟩
 exact wpAny_pyIter_tuple hl2 (hq _ ⟨⟨_,Heap.get?_push_size _ rfl,rfl,rfl⟩,o,Heap.get?_push_of_some _ (k o ho),hc,n,hd⟩)
end
end Snd
namespace Snd
open PySem PySem.Spec PySem.W PyProof.Rows L2 Ev SetT
section
variable {prog:Program}{w:World}{A:Around}{E:Value->Shared->Prop}{s:Shared}{a:Addr}{ds xs:List D}{us:List Value}{led:Bool}{h₀:Heap}
theorem qAc (h:Heap):h.get? h.objs.size=none:=by
 cases e:h.get? h.objs.size with
 |none=>rfl
 |some o=>exact absurd (Heap.lt_size e) (Jd _)
def Made (w:World) (xs:List D) (us:List Value) (s:Shared) (h':Heap):Prop:=∃ds,SetD (λ d v=>∃i:Nat,xs[i]? = some d/\us[i]? = some v) s.heap h' s.heap.objs.size ds (!byT w)/\ds.Nodup/\∀d,d∈ds↔d∈xs
theorem qK0 {ty:String}{l:Addr}{St:Addr->Nat->Heap->Prop}{Q:Unit->Shared->Prop}(S:Src prog w ty l us s.heap St) (hh:A.handled=none)
  (dx:DvL s.heap xs us) (kn:Kin xs) (hx:q09 xs=true) (hp:∀d∈xs,plN 8 d=true) (hu:A.units+16<cLine) (hl:∀l:List D,l.Nodup->(∀d∈l,d∈xs)->l.length<64)
  (h:∀(h':Heap) (tk:Nat),Made w xs us s h'->Q () {s with heap:=h',toks:=tk}) :
  wpAny (model prog w) A (pyIter (.ref l)) (λ a s'=>wpAny (model prog w) A (runValue (.builtin "set.update.loop" ⟨[.ref s.heap.objs.size,a],[]⟩) >>= λ _=>pure ()) Q E s') E {s with heap:=s.heap.push (set0 w)}:=by
 obtain⟨ol,nl,hol,_⟩:=S.obj;have hlt:=Heap.lt_size hol;refine S.iter (λ o e=>Heap.get?_push_of_some _ e) λ o hst=>?_;have hsz:(s.heap.push (set0 w)).objs.size=s.heap.objs.size+1:=Heap.size_push _ _;refine wpAny_bind (wpAny_runValue ?_);refine q4q (M:=λ d v=>∃i:Nat,xs[i]? = some d/\us[i]? = some v) (h₀:=s.heap) (led:=!byT w) (S.walks (s.heap.push (set0 w)).objs.size (by simp[hh]) (by rw[hsz];exact QH (Jg hlt))) ?_ ?_ dx (λ i d v e1 e2=>⟨i,e1,e2⟩) (λ i v e=>e) rfl kn hx hp (by lia) hl (us.length-0) 0 _ [] rfl (QM _) hst ?_ Jp (λ d=>by simp) λ h' tk ds' k S' nd m=>?_
 ·rw[hsz];simp only[Qf,Jo,or_false,not_or];exact⟨QH (Q7 _),Nat.ne_of_gt hlt⟩
 ·intro b hb;rw[Qt.mp hb,hsz];cases e:s.heap.get? (s.heap.objs.size+1) with
  |none=>rfl
  |some o'=>exact absurd (Heap.lt_size e) (Nat.not_lt.mpr (Nat.le_succ _))
 ·obtain⟨⟨Z,t,ep,P,⟨⟨o',ho,r⟩,wf,pl⟩,q⟩,kp,nw⟩:=qJz (M:=λ d v=>∃i:Nat,xs[i]? = some d/\us[i]? = some v) (w:=w) (qAc s.heap);exact⟨⟨Z,t,ep,P,⟨⟨o',Heap.get?_push_of_some _ ho,r⟩,wf,pl⟩,q⟩,λ b o' e=>Heap.get?_push_of_some _ (kp b o' e),nw⟩
 ·show wpAny _ _ _ _ _ _;exact wpAny_pure (h h' tk ⟨ds',S',nd,m⟩)
end
end Snd
namespace Snd
open PySem PySem.Spec PySem.W PyProof.Rows L2 Ev SetT
section
variable {prog:Program}{w:World}{A:Around}{E:Value->Shared->Prop}{s:Shared}{a:Addr}{ds xs:List D}{us:List Value}{led:Bool}{h₀:Heap}
set_option maxHeartbeats 3200000 in
theorem qK1 {ty:String}{l:Addr}{St:Addr->Nat->Heap->Prop}{Q:Value->Shared->Prop}(S:Src prog w ty l us s.heap St) (hh:A.handled=none)
  (dx:DvL s.heap xs us) (kn:Kin xs) (hx:q09 xs=true) (hp:∀d∈xs,plN 8 d=true) (hu:A.units+20<cLine) (hl:∀l:List D,l.Nodup->(∀d∈l,d∈xs)->l.length<64)
  (h:∀(h':Heap) (tk:Nat),Made w xs us s h'->Q (.ref s.heap.objs.size) {s with heap:=h',toks:=tk}):wpAny (model prog w) A (call (.type "set") [.ref l]) Q E s:=by
 obtain⟨c0,tl0,mro0⟩:=F.called_set.mro;have made0:=F.called_set.made;have sub0:=F.called_set.sub;refine wpAny_call (codeAny_of_tree (show wpAny _ _ (callAny (.type "set") _) _ _ _ from ?_));refine wpAny_pure (And.intro (Code.quiet_builtin _ (by decide +kernel)) (codeAny_builtin F.entry_type_call ?_));rw[(Around.under_plain (weight_type_call_type "set" [.ref l] []) rfl)];have ht:=F.called_set.notType;have hcc:=F.called_set.canCreate;have htc:=F.typeCall_set_1 (.ref l)
 repeat (any_goals (first|assumption|wp_step))
 refine codeAny_mono (qH4 (.ref l) (E:=E) (Q₁:=λ v s₁=>v = .ref s.heap.objs.size/\s₁={s with heap:=s.heap.push (set0 w)}) ⟨rfl,rfl⟩) λ r s₁ hr=>?_;cases r with
 |error e=>exact hr
 |ok fl =>
  cases fl with
  |ret v =>
   obtain⟨rfl,rfl⟩:=hr;have g0:(s.heap.push (set0 w)).get? s.heap.objs.size=some (set0 w):=Heap.get?_push_size _ rfl;have T0:Shared.TypeIs {s with heap:=s.heap.push (set0 w)} (.ref s.heap.objs.size) "set":=⟨_,g0,rfl⟩
   have li:=F.called_set.init.lookup;have bi:=F.called_set.init.bind (.ref s.heap.objs.size)
   repeat (any_goals (first|assumption|wp_step))
   refine codeAny_mono (codeAny_call_builtin (R:=wants (λ r s₂=>r = .none/\∃h' tk,s₂={s with heap:=h',toks:=tk}/\Made w xs us s h') E) F.called_set.init.plain F.entry_set_init (check_set_init_1 T0 ?_)) λ r₂ s₂ hr₂=>?_
   ·obtain⟨ol,nl,hol,hcl,hdl⟩:=S.obj;have e1:=S.sub1;have e2:=S.sub2;have e3:=S.ne;obtain⟨ocl,odi,oda,osl⟩:=ol;simp only at hcl hdl;subst hcl hdl;have hol':=Heap.get?_push_of_some (set0 w) hol;unfold Builtin.«set.__init__»;unfold noKeywords Builtin.Frozenset.updateFrom;generalize hPI:pyIter=PI
    wp_walk
    subst hPI;exact qK0 S (by simp[hh]) dx kn hx hp (by simp;lia) hl λ h' tk m=>wpAny_pure ⟨rfl,h',tk,rfl,m⟩
   ·cases r₂ with
    |error e=>exact hr₂
    |ok fl₂ =>
     cases fl₂ with
     |ret r =>
      obtain⟨rfl,h',tk,rfl,m⟩:=hr₂
      repeat (any_goals (first|assumption|wp_step))
      exact h _ _ m
     |_=>exact hr₂.elim
  |_=>exact hr.elim
end
end Snd
namespace Snd
open PySem PySem.Spec PySem.W PyProof.Rows L2 Ev SetT
theorem q4D:Slot "set_iterator" "__next__" "set_iterator.__next__":=by
 refine .of (owner := "set_iterator") (n := "__next__") ?_ (by decide +kernel) (by decide +kernel) (by decide +kernel) ?_ ?_
 ·rw[typeLookup_type,builtinLookup_eq_fast];kernel_rfl
 ·first
   |exact .inl (by decide +kernel)
   |exact .inr (by decide +kernel)
 ·rw[isSubtype_type];kernel_rfl
theorem qCE:Slot "set_iterator" "__iter__" "set_iterator.__iter__":=by
 refine .of (owner := "set_iterator") (n := "__iter__") ?_ (by decide +kernel) (by decide +kernel) (by decide +kernel) ?_ ?_
 ·rw[typeLookup_type,builtinLookup_eq_fast];kernel_rfl
 ·first
   |exact .inl (by decide +kernel)
   |exact .inr (by decide +kernel)
 ·rw[isSubtype_type];kernel_rfl
theorem q7t:entryFor table "set_iterator.__next__" = some Builtin.«set_iterator.__next__»:=entryFor_of_tree (by kernel_rfl)
theorem qCF:entryFor table "set_iterator.__iter__" = some Builtin.«dict_keyiterator.__iter__»:=entryFor_alias (id' := "dict_keyiterator.__iter__") (by kernel_rfl) (by decide +kernel) (by decide +kernel) (by kernel_rfl)
theorem qAd:entryFor table "set.__iter__" = some Builtin.«frozenset.__iter__»:=entryFor_alias (id' := "frozenset.__iter__") (by kernel_rfl) (by decide +kernel) (by decide +kernel) (by kernel_rfl)
theorem q7u (a:Value):argsOk "set_iterator.__next__" ⟨[a],[]⟩:=by unfold argsOk;kernel_rfl
theorem qCG (a:Value):argsOk "set_iterator.__iter__" ⟨[a],[]⟩:=by unfold argsOk;kernel_rfl
end Snd
namespace Snd
open PySem PySem.Spec PySem.W PyProof.Rows L2 Ev SetT
def wkO (w:World) (a:Addr) (ep:Nat) (Z:List Ent):List (Int×Value):=if byT w then (pickOrder (w.params.setOrder a ep) (Z.map (·.2)).toArray).toList else Z.map (·.2)
def wkS (w:World) (Z:List Ent) (i:Nat):Nat:=if byT w then 0 else match i with
 |0=>0
 |k+1=>match Z[k]? with
  |some z=>z.1+1
  |none=>0
def ItAt (h:Heap) (I a:Addr) (slot i n ep:Nat):Prop:=∃o,h.get? I=some o/\o.cls = .type "set_iterator"/\o.data = .fields #[.int slot 0,.int i 0,.ref a,.int n 0,.int ep 0]
theorem qCH {α:Type}(next:Nat->Nat):∀(n k:Nat) (left:List α) (out:Array α),left.length=n->((pickOrder.go next n k left out).toList).Perm (out.toList++left)
 |0,k,left,out,h=>by have:left=[]:=JA.mp h;subst this;simp[pickOrder.go]
 |n+1,k,left,out,h=>by unfold pickOrder.go;have hlt:next k % left.length<left.length:=Nat.mod_lt _ (by lia);rw[Ql hlt];dsimp only;refine (qCH next n (k+1) _ _ (by rw[List.length_eraseIdx];simp[hlt];lia)).trans ?_;rw[Array.toList_push,Jw];refine List.Perm.append_left _ ?_;rw[List.eraseIdx_eq_take_drop_succ];refine (List.perm_middle (l₁:=left.take (next k % left.length)) (l₂:=left.drop (next k % left.length+1))).symm.trans ?_;rw[<-List.drop_eq_getElem_cons hlt,Jr]
theorem q9s (w:World) (a:Addr) (ep:Nat) (Z:List Ent):(wkO w a ep Z).Perm (Z.map (·.2)):=by
 unfold wkO;split
 ·have:=qCH (w.params.setOrder a ep) (Z.map (·.2)).toArray.size 0 (Z.map (·.2)) #[] (by simp);simpa[pickOrder] using this
 ·exact .refl _
theorem below_at {t:SetTable}{Z:List Ent}(wf:WF t Z) {i:Nat}(hi:i<=Z.length) {w:World}(hb:byT w=false):SetTable.below t.place (wkS w Z i)=i:=by
 have hls:(slots Z).length=Z.length:=by simp[slots]
 rw[wf.place];cases i with
 |zero =>
  have e:wkS w Z 0=0:=by unfold wkS;rw[hb];rfl
  rw[e];obtain⟨b1,b2,b3⟩:=q1K (slots Z) wf.ris 0;apply QJ;intro q;have h0:=b2 0 (by lia) (by lia);lia
 |succ k =>
  have hk:k<Z.length:=by lia
  have e:wkS w Z (k+1)=Z[k].1+1:=by unfold wkS;rw[hb];simp[hk]
  rw[e];obtain⟨b1,b2,b3⟩:=q1K (slots Z) wf.ris (Z[k].1+1);have ek:(slots Z)[k]'(by lia)=Z[k].1:=by simp[slots]
  apply QJ;intro q;rcases Nat.lt_or_gt_of_ne q with q|q
  ·have:=b3 k (by lia) (by lia);lia
  ·have h1:=b2 (k+1) q (by lia);have h2:=wf.ris.lt (i:=k) (k:=k+1) (by lia) (by lia);lia
end Snd
namespace Snd
open PySem PySem.Spec PySem.W PyProof.Rows L2 Ev SetT
section
variable {prog:Program}{w:World}{A:Around}{E:Value->Shared->Prop}{s:Shared}{a I:Addr}{Z:List Ent}{t:SetTable}{ep i:Nat}
theorem q8p {Q:Bool->Shared->Prop}(h:Q (byT w) s):wpAny (model prog w) A setsByText Q E s:=by unfold setsByText;exact wpAny_bind (wpAny_askSetting (wpAny_pure h))
theorem q9t (S:SetIn s.heap a Z t ep) (le:t.led=!byT w) (hi:i<=Z.length) {Q:Option (Value×Nat)->Shared->Prop}(h:Q (((wkO w a ep Z)[i]?).map λ e=>(e.2,wkS w Z (i+1))) s):wpAny (model prog w) A (setNext a (wkS w Z i) i ep) Q E s:=by
 unfold setNext;refine wpAny_bind (q1G S (wpAny_bind (q8p ?_)));cases hb:byT w with
 |true =>
  rw[if_pos rfl];have e0:∀j,wkS w Z j=0:=λ j=>by unfold wkS;rw[hb];rfl
  simp only[bne_self_eq_false,QL,if_false];unfold setWalk;refine wpAny_bind (wpAny_bind (q1G S (wpAny_bind (q8p ?_))));rw[hb];refine wpAny_bind (wpAny_askSetting (wpAny_pure (wpAny_pure ?_)));unfold wkO at h;rw[hb,e0] at h;rw[e0];simp only[if_true,Array.getElem?_toList] at h;exact h
 |false =>
  rw[if_neg (by decide)];refine wpAny_ite_split (λ hd=>?_) λ _=>?_
  ·exfalso;have:(!t.plain&&decide ((Z.map (·.2)).toArray.size > 1))=true:=hd;rw[S.plain] at this;cases this
  refine wpAny_bind ?_;change wpAny _ _ (if (!t.led&&!(Z.map (·.2)).toArray.isEmpty)=true then unsupported "set:maker-not-led" else pure ()) _ _ _;rw[le,hb];rw[if_neg (by simp)];refine wpAny_pure (wpAny_pure ?_);rw[below_at S.wf hi hb];unfold wkO at h;rw[hb] at h;simp only[QL,if_false] at h
  by_cases c:i<Z.length
  ·have e1:(Z.map (·.2)).toArray[i]? = some Z[i].2:=(by simp[c]);have e2:t.place[i]? = some Z[i].1:=(by rw[S.wf.place];simp[slots,c]);have e3:wkS w Z (i+1)=Z[i].1+1:=(by unfold wkS;rw[hb];simp[c]);rw[e1,e2];rw[e3] at h;simpa[c] using h
  ·have e1:(Z.map (·.2)).toArray[i]? = none:=(by simp;lia);rw[e1];have e4:(Z.map (·.2))[i]? = none:=(by simp;lia);rw[e4] at h;exact h
end
end Snd
namespace Snd
open PySem PySem.Spec PySem.W PyProof.Rows L2 Ev SetT
section
variable {prog:Program}{w:World}{A:Around}{E:Value->Shared->Prop}{s:Shared}{a I:Addr}{Z:List Ent}{t:SetTable}{ep i:Nat}
theorem q6f:(wkO w a ep Z).length=Z.length:=by have:=(q9s w a ep Z).length_eq;simpa using this
theorem q4E {Q:Array (Int×Value)->Shared->Prop}(S:SetIn s.heap a Z t ep) (h:Q (Z.map (·.2)).toArray s):wpAny (model prog w) A (setEntries a) Q E s:=by unfold setEntries;exact wpAny_bind (q1G S (wpAny_pure h))
theorem qH5 (S:SetIn s.heap a Z t ep) (le:t.led=!byT w) (hit:ItAt s.heap I a (wkS w Z i) i Z.length ep) {e:Int×Value}(he:(wkO w a ep Z)[i]? = some e) {Q:Option Value->Shared->Prop}
  (hQ:∀h',ItAt h' I a (wkS w Z (i+1)) (i+1) Z.length ep->Heap.SameBut I s.heap h'->Q (some e.2) {s with heap:=h'}):wpAny (model prog w) A (pyNext (.ref I)) Q E s:=by
 obtain⟨o,ho,hc,hd⟩:=hit;have hT:s.TypeIs (.ref I) "set_iterator":=⟨o,ho,hc⟩
 have hi:i<Z.length:=by rw[<-q6f (w:=w) (a:=a) (ep:=ep)];exact (Qc.mp he).1
 unfold pyNext;refine wpAny_bind (wpAny_attempt (wpAny_callSpecial?_slot (name:=Str.ofString "__next__") hT q4D (wpAny_call_entry q4D hT q7t ?_ (q7u _))));show wpAny _ _ (fieldsOf (.ref I) >>= _) _ _ s;refine wpAny_bind (wpAny_fieldsOf ho hd ?_);show wpAny _ _ (setEntries a >>= _) _ _ s;refine wpAny_bind (q4E S ?_);rw[if_neg (by simp)];show wpAny _ _ (setNext a (wkS w Z i) i ep >>= _) _ _ s;refine wpAny_bind (q9t S le (by lia) ?_);rw[he];dsimp only[Option.map];have g1:=Heap.get?_update_self (Obj.mapFields (·.setIfInBounds 0 (rawInt (wkS w Z (i+1))))) ho (Obj.isFreed_of_fields (Obj.data_mapFields hd _));have d1:=Obj.data_mapFields hd (·.setIfInBounds 0 (rawInt (wkS w Z (i+1))));refine wpAny_bind (wpAny_setField ho hd (by simp) (wpAny_bind (wpAny_setField g1 d1 (by simp) (wpAny_pure ⟨e.2,rfl,wpAny_pure (hQ _ ?_ ?_)⟩))))
 ·refine⟨_,Heap.get?_update_self _ g1 (Obj.isFreed_of_fields (Obj.data_mapFields d1 _)),?_,?_⟩
  ·exact (Obj.cls_mapFields ..).trans ((Obj.cls_mapFields ..).trans hc)
  ·rw[Obj.data_mapFields d1];simp[rawInt]
 ·exact (Heap.SameBut.update ..).trans (Heap.SameBut.update ..)
end
end Snd
namespace Snd
open PySem PySem.Spec PySem.W PyProof.Rows L2 Ev SetT
section
variable {prog:Program}{w:World}{A:Around}{E:Value->Shared->Prop}{s:Shared}{a I:Addr}{Z:List Ent}{t:SetTable}{ep i:Nat}
theorem qK2 (hh:A.handled=none) (S:SetIn s.heap a Z t ep) (le:t.led=!byT w) (hit:ItAt s.heap I a (wkS w Z Z.length) Z.length Z.length ep) {Q:Option Value->Shared->Prop}
  (hQ:∀h',Heap.ExtBut I s.heap h'->Q none {s with heap:=h'}):wpAny (model prog w) A (pyNext (.ref I)) Q E s:=by
 obtain⟨o,ho,hc,hd⟩:=hit;have hT:s.TypeIs (.ref I) "set_iterator":=⟨o,ho,hc⟩
 have he:(wkO w a ep Z)[Z.length]? = none:=by rw[Q9,q6f];exact Qi _
 unfold pyNext;refine wpAny_bind (wpAny_attempt (wpAny_callSpecial?_slot (name:=Str.ofString "__next__") hT q4D (wpAny_call_entry q4D hT q7t ?_ (q7u _))));show wpAny _ _ (fieldsOf (.ref I) >>= _) _ _ s;refine wpAny_bind (wpAny_fieldsOf ho hd ?_);show wpAny _ _ (setEntries a >>= _) _ _ s;refine wpAny_bind (q4E S ?_);rw[if_neg (by simp)];show wpAny _ _ (setNext a (wkS w Z Z.length) Z.length ep >>= _) _ _ s;refine wpAny_bind (q9t S le (Qi _) ?_);rw[he];dsimp only[Option.map];refine wpAny_bind (wpAny_setField ho hd (by simp) ?_);refine wpAny_bind (show wpAny _ _ (newExc (.type "StopIteration") []) _ _ _ from ?_);simp only[newExc,newTuple];refine wpAny_bind (wpAny_newObj_type ?_ (by size_fits));refine wpAny_bind (m:=firstArgMember _ _) (wpAny_of_eq (a:=Value.none) (by simp only[firstArgMember];rfl) ?_);refine wpAny_newObj_type ?_ (by size_fits);simp only[raiseNew];refine wpAny_bind (wpAny_handled ?_);rw[show A.in1.handled=none from hh];refine (wpAny_bind (wpAny_pure (wpAny_throw ?_)));refine (wpAny_bind (wpAny_isInstance (b:=true) (T := "StopIteration") ⟨_,Heap.get?_push_size _ rfl,rfl⟩ isSubtype_stop ?_));exact wpAny_pure (hQ _ (((Heap.SameBut.update ..).extBut.push _).push _))
theorem qH6 (hit:s.TypeIs (.ref I) "set_iterator") {Q:Value->Shared->Prop}(h:Q (.ref I) s):wpAny (model prog w) A (pyIter (.ref I)) Q E s:=by refine wpAny_pyIter_slot hit qCE (wpAny_call_entry qCE hit qCF ?_ (qCG _));show wpAny _ _ (ret (.ref I)) _ _ s;exact wpAny_pure ⟨_,rfl, "set_iterator",_,hit,q4D.lookup,h⟩
theorem qCI (S:SetIn s.heap a Z t ep) {Q:Value->Shared->Prop}
  (h:Q (.ref s.heap.objs.size) {s with heap:=s.heap.push {cls:= .type "set_iterator",data:= .fields #[.int 0 0,.int 0 0,.ref a,.int Z.length 0,.int ep 0]}}):wpAny (model prog w) A (pyIter (.ref a)) Q E s:=by
 obtain⟨o,ho,hx,hd⟩:=S.obj;have hT:s.TypeIs (.ref a) "set":=⟨o,ho,hx.1⟩
 refine wpAny_pyIter_slot hT F.slot_set_iter (wpAny_call_entry F.slot_set_iter hT qAd ?_ (F.args_set_iter_1 _));unfold Builtin.«frozenset.__iter__»;show wpAny _ _ (Builtin.Frozenset.sizeOf a >>= _) _ _ s;unfold Builtin.Frozenset.sizeOf;refine wpAny_bind (wpAny_bind (q4E S (wpAny_pure ?_)));unfold setDrawn;refine wpAny_bind (wpAny_bind (q1G S (wpAny_bind (q8p (wpAny_pure ?_)))));have e0:(!byT w&&(!t.plain&&decide ((Z.map (·.2)).toArray.size > 1)))=false:=by rw[S.plain];simp
 refine wpAny_ite_split (λ z=>absurd (show (!byT w&&(!t.plain&&decide ((Z.map (·.2)).toArray.size > 1)))=true from z) (by rw[e0];decide)) λ _=>?_;refine wpAny_bind (wpAny_pure ?_);unfold setEpoch;refine wpAny_bind (wpAny_bind (q1G S (wpAny_pure ?_)));unfold newFields;refine wpAny_bind (wpAny_newObj_type ?_);have T1:Shared.TypeIs {s with heap:=s.heap.push {cls:= .type "set_iterator",data:= .fields #[.int 0 0,.int 0 0,.ref a,.int Z.length 0,.int ep 0]}} (.ref s.heap.objs.size) "set_iterator":=⟨_,Heap.get?_push_size _ rfl,rfl⟩
 rw[show (Z.map (·.2)).toArray.size=Z.length by simp];exact wpAny_pure ⟨_,rfl, "set_iterator",_,T1,q4D.lookup,h⟩
theorem qEH (hT:s.TypeIs (.ref a) "set") {Q:Bool->Shared->Prop}(h:Q false s):wpAny (model prog w) A (Builtin.List.listLengthHint (.ref a)) Q E s:=by
 unfold Builtin.List.listLengthHint;refine wpAny_bind (wpAny_specialOf hT F.slot_set_len.lookup ?_);generalize hid:("set.__len__":String)=id0
 wp_delta
 rw[show splitId id0=some ("set", "__len__") by subst hid;decide +kernel];subst hid;refine wpAny_bind (wpAny_isInstance (T := "set") (b:=true) hT sub_set_self ?_);refine wpAny_ite_split (λ z=>absurd z (by decide)) λ _=>wpAny_ite_split (λ _=>?_) λ z=>absurd (by decide +kernel) z;exact wpAny_bind (wpAny_typeOf hT (wpAny_pure h))
theorem ItAt.at {h h':Heap}{sl n:Nat}(x:ItAt h I a sl i n ep) (k:∀o,h.get? I=some o->h'.get? I=some o):ItAt h' I a sl i n ep:=let ⟨o,e,r⟩:=x;⟨o,k o e,r⟩
theorem SetIn.at {h h':Heap}(S:SetIn h a Z t ep) (k:∀o,h.get? a=some o->h'.get? a=some o):SetIn h' a Z t ep:=let ⟨⟨o,e,r⟩,wf,pl⟩:=S;⟨⟨o,k o e,r⟩,wf,pl⟩
theorem qCJ (hh:A.handled=none) (le:t.led=!byT w) (hne:a≠I) :
  Walks prog w A I [I,a] [I] Z.length (λ i v=>∃e,(wkO w a ep Z)[i]? = some e/\v=e.2) (λ i h=>ItAt h I a (wkS w Z i) i Z.length ep/\SetIn h a Z t ep) where
 sub:=λ b hb=>Qf.mpr (.inl (Qt.mp hb))
 frame:=λ i h h' st k=>And.intro (st.1.at λ o e=>k I (by simp) o e) (st.2.at λ o e=>k a (by simp) o e)
 item:=λ i s Q E hi st hQ=>by
  have hl:i<(wkO w a ep Z).length:=by rw[q6f];exact hi
  refine qH5 st.2 le st.1 (Ql hl) λ h' it' k=>hQ _ h' s.toks ⟨_,Ql hl,rfl⟩ ⟨it',st.2.at λ o e=>?_⟩ λ b o hb e=>?_
  ·rw[k.2 a hne];exact e
  ·rw[k.2 b (λ z=>hb (by simp[z]))];exact e
 done:=λ s Q E st hQ=>qK2 hh st.2 le st.1 λ h' k=>hQ h' s.toks λ b o hb e=>k b o (λ z=>hb (by simp[z])) e
 self:=λ i s Q E st hQ=>let ⟨o,ho,hc,_⟩:=st.1;qH6 ⟨o,ho,hc⟩ hQ
theorem qH7 (le:t.led=!byT w):KdlSrc prog w "set" a a Z.length (λ i v=>∃e,(wkO w a ep Z)[i]? = some e/\v=e.2) (λ h=>SetIn h a Z t ep) where
 type:=λ s S=>let ⟨o,ho,hx,_⟩:=S.obj;⟨o,ho,hx.1⟩
 there:=λ h S=>let ⟨o,ho,_⟩:=S.obj;⟨Heap.lt_size ho,Heap.lt_size ho⟩
 keep:=λ h h' S k=>S.at λ o e=>k a (.inl rfl) o e
 notList:=by decide
 notTuple:=by decide
 hint:=λ A E s Q S hq=>let ⟨o,ho,hx,_⟩:=S.obj;qEH ⟨o,ho,hx.1⟩ hq
 iter:=λ A s hh S=>by
  obtain⟨o,ho,hx,hd⟩:=S.obj;have e0:wkS w Z 0=0:=by unfold wkS;split<;>rfl
  refine⟨{cls:= .type "set_iterator",data:= .fields #[.int 0 0,.int 0 0,.ref a,.int Z.length 0,.int ep 0]},_,λ E Q hq=>qCI S hq,qCJ hh le (QH (Heap.lt_size ho)),⟨_,Heap.get?_push_size _ rfl,rfl,?_⟩,S.at λ o e=>Heap.get?_push_of_some _ e⟩;rw[e0];rfl
end
end Snd
namespace Snd
open PySem PySem.Spec PySem.W PyProof.Rows L2 Ev SetT
theorem q29:∀{l:List D}{d:D},q09 l=true->(d∈dedup l↔d∈l)
 |[],d,_=>by simp[dedup]
 |x::l,d,h=>by
  have hx:=q0Q.mp h;have hl:q09 l=true:=q0Q.mpr λ e he=>hx e (Qa _ he);unfold dedup;split
  ·rename_i c;obtain⟨y,hy,ey⟩:=Q1.mp c;have exy:=(q0Y (hx x Qb) (hx y (Qa _ hy))).mp ey;rw[q29 hl,Qf];exact⟨.inr,λ q=>q.elim (λ e=>by rw[e,exy];exact hy) id⟩
  ·rw[Qf,Qf,q29 hl]
theorem sub_len:∀{a b:List D},a.Nodup->(∀x∈a,x∈b)->a.length<=b.length
 |[],_,_,_=>QM _
 |x::a,b,nd,h=>by
  have nd':=QD.mp nd;obtain⟨b1,b2,rfl⟩:=List.append_of_mem (h x Qb);have:=sub_len (a:=a) (b:=b1++b2) nd'.2 λ y hy=>by
   have hne:y≠x:=λ q=>nd'.1 (q▸hy);have:=h y (Qa _ hy);simp only[Qm,Qf] at this |-;rcases this with q|q|q
   ·exact .inl q
   ·exact absurd q hne
   ·exact .inr q
  simp only[QA,Qo] at this |-;lia
theorem q5y:∀{a b:List D},a.Nodup->b.Nodup->(∀x,x∈a↔x∈b)->a.Perm b
 |[],b,_,_,h=>by
  cases b with
  |nil=>exact .nil
  |cons y b=>exact absurd ((h y).mpr Qb) (by simp)
 |x::a,b,na,nb,h=>by
  have na':=QD.mp na;obtain⟨b1,b2,rfl⟩:=List.append_of_mem ((h x).mp Qb);have pm:(b1++x::b2).Perm (x::(b1++b2)):=List.perm_middle;have nb':=QD.mp (pm.nodup_iff.mp nb);refine (List.Perm.cons x (q5y na'.2 nb'.2 λ y=>?_)).trans pm.symm;have hy:=h y;rw[pm.mem_iff,Qf,Qf] at hy;constructor
  ·intro q;exact (hy.mp (.inr q)).resolve_left λ e=>na'.1 (e▸q)
  ·intro q;exact (hy.mpr (.inr q)).resolve_left λ e=>nb'.1 (e▸q)
theorem SoOk.perm {a b:List D}(h:SoOk a) (p:b.Perm a):SoOk b:=by have m:∀d∈b,d∈a:=λ d hd=>p.mem_iff.mp hd;exact⟨by rw[p.length_eq];exact h.len,λ d hd=>h.hsh d (m d hd),λ d hd=>h.pln d (m d hd),λ x hx y hy=>h.cmp x (m x hx) y (m y hy),p.symm.pairwise h.dif λ e q=>e q.symm⟩
theorem qAe {a b:List D}(h:SoOk a) (p:b.Perm a):q21 b=q21 a:=by have m:∀d∈q21 b,d∈a:=λ d hd=>p.mem_iff.mp ((q18 b).mem_iff.mp hd);exact q42 (((q18 b).trans p).trans (q18 a).symm) (λ d hd=>h.hsh d (m d hd)) (λ x hx y hy=>h.cmp x (m x hx) y (m y hy)) (q24 (h.perm p).hsh) (q24 h.hsh)
theorem qCK {p:Pm}{Hf:Hp}{xs:List D}{vs:List V}{us:List Value}(r:RepL p Hf xs vs) (rv:Vals vs us):∀(P:List ((Int×Value)×D)),(∀q∈P,∃i:Nat,xs[i]? = some q.2/\us[i]? = some q.1.2)->
  ∃vs2,RepL p Hf (P.map (·.2)) vs2/\Vals vs2 (P.map (·.1.2))
 |[],_=>⟨[],rfl,.nil⟩
 |q::P,h=>by obtain⟨vs2,h1,h2⟩:=qCK r rv P λ x hx=>h x (Qa _ hx);obtain⟨i,e1,e2⟩:=h q Qb;obtain⟨v,e3,rp⟩:=r.get e1;obtain⟨u,e4,rl⟩:=rv.get e3;rw[e2] at e4;cases e4;exact⟨v::vs2,⟨v,vs2,rfl,rp,h1⟩,.cons rl h2⟩
end Snd
namespace Snd
open PySem PySem.Spec PySem.W PyProof.Rows L2 Ev SetT
section
variable {X:Cx}{p:Pm}{G:Nat->List D->R D}{sub:Nat->Nat->Bool}
theorem qK3 (hK:p.K=X.K) {pins:List (Addr×Obj)}{s:Shared}{σ:L2.St}{H:Hp}{O:List Addr}{d:D}{v:V}{u:Value}{xs:List D}(I:Inv X pins σ H s) (rv:RelV v u) (q:RepB p H (fz O H) d v) (hi:q1v d = .ok xs) :
  ∃l us vs ty St,u = .ref l/\Src X.prog X.w ty l us s.heap St/\RepL p (fz O H) xs vs/\Vals vs us/\vs.length<=sizeLine:=by
 cases d<;>first
  |(exfalso;simpa[q1v] using hi)
  |skip
 ·cases hi;obtain⟨a,vs,rfl,s1,z,r1⟩:=q;cases rv;obtain⟨its,rv,tp,hz⟩:=I.tuple (hK▸q0Z.sqT s1:SqT X.K H a vs);exact⟨a,its,vs,_,_,rfl,src_tuple tp,r1,rv,hz⟩
 ·cases hi;obtain⟨a,vs,rfl,s1,r1⟩:=q;cases rv;obtain⟨its,rv,pt,hz⟩:=I.list (hK▸s1:SqL X.K H a vs);exact⟨a,its,vs,_,_,rfl,src_list pt.isList,r1,rv,hz⟩
theorem qH8 (hK:p.K=X.K) (hc:X.calm=true) (hu:X.A.units+64<cLine) {E:Value->Shared->Prop}{pins:List (Addr×Obj)}{s:Shared}{σ:L2.St}{H:Hp}{os:List (List Addr)}{d r:D}{v:V}{u:Value}(I:Inv X pins σ H s) (t:Th os.flatten H) (rv:RelV v u) (q:RepB p H (fz os.flatten H) d v) (h:biD sub .sortedSet [d] = .ok r) :
  wpAny (model X.prog X.w) X.A (call (.type "set") [u]) (λ x s2=>wpAny (model X.prog X.w) X.A (call (.builtin "sorted") [x]) (EP (X.wish E) pins σ (Fin p os.flatten H r)) E s2) E s:=by
 cases hi:q1v d with
 |stuck=>exact absurd (show (q1v d).bind _ = .ok r from h) (by rw[hi];intro z;cases z)
 |err c=>exact absurd (show (q1v d).bind _ = .ok r from h) (by rw[hi];intro z;cases z)
 |ok xs =>
  have h':(if q09 xs&&plL xs&&decide (xs.length<=1000)&&q1h (dedup xs) then R.ok (D.lst (q21 (dedup xs))) else .stuck) = .ok r:=by rw[<-h];show _=(q1v d).bind _;rw[hi];rfl
  split at h'
  ·rename_i cs;cases h';simp only[Qd] at cs;obtain⟨⟨⟨c1,c2⟩,c3⟩,so⟩:=cs;obtain⟨sk,kd⟩:=qBn so;obtain⟨l,us,vs,ty,St,rfl,S,r1,rvs,hz⟩:=qK3 hK I rv q hi;have dx:DvL s.heap xs us:=(q2b hK I).2 xs vs us (r1.mono q0Z) rvs;have hA:=I.ok.hd hc;have hpl:∀d∈xs,plN 8 d=true:=λ d hd=>q1R.mp c2 d hd;have kn:Kin xs:=by
    rcases kd with kd|kd
    ·refine .inr λ d hd=>?_;have:=kd d ((q29 c1).mpr hd);cases d<;>first|exact⟨_,rfl⟩|cases this
    ·refine .inl λ d hd=>?_;have:=kd d ((q29 c1).mpr hd);cases d<;>first|exact⟨_,rfl⟩|cases this
   have hl:∀l:List D,l.Nodup->(∀d∈l,d∈xs)->l.length<64:=λ l nd hm=>Jc (sub_len nd λ d hd=>(q29 c1).mpr (hm d hd)) sk.len;refine qK1 S hA dx kn c1 hpl (by lia) hl λ h1 tk1 ⟨ds,SD,nd,mem⟩=>?_;obtain⟨⟨Z,tb,ep,P,Si,pr,e1,e2,tf,le,mm⟩,kp,nw⟩:=SD;obtain⟨P2,p1,p2⟩:=q5M (·.1) (e1▸q9s X.w s.heap.objs.size ep Z) P rfl;have I1:Inv X pins σ H {s with heap:=h1,toks:=tk1}:=I.kept kp;have pm:(P2.map (·.2)).Perm (dedup xs):=((p1.map (λ q=>q.2)).trans e2).trans (q5y nd sk.dif λ x=>(mem x).trans (q29 c1).symm);have sk2:=sk.perm pm;obtain⟨vs2,w1,w2⟩:=qCK r1 rvs P2 λ q hq=>mm q (p1.mem_iff.mp hq);have hz2:vs2.length<=sizeLine:=by have:=sk2.len;rw[<-w1.length,sizeLine_eq];lia
   have kd2:(∀d∈P2.map (·.2),q4X d=true)\/∀d∈P2.map (·.2),q32 d=true:=by
    rcases kd with kd|kd
    ·exact .inl λ d hd=>kd d (pm.mem_iff.mp hd)
    ·exact .inr λ d hd=>kd d (pm.mem_iff.mp hd)
   have hwl:(wkO X.w s.heap.objs.size ep Z).length=P2.length:=(by rw[<-p2];simp);have hZl:Z.length=P2.length:=(by rw[<-q6f (w:=X.w) (a:=s.heap.objs.size) (ep:=ep)];exact hwl);refine Srt.q7Z (s:={s with heap:=h1,toks:=tk1}) (Gv:=λ us'=>us'=P2.map (·.1.2)) sk2.len sk2.ord (λ us' e=>by rw[e];simp) (λ R hR=>?_) (λ us' e h2 h'' tk k=>?_) λ us' q D h'' tk e eu Pq U k nD g=>?_
   ·refine PySem.W.kdu_collect (A:=X.A.in1) (qH7 (t:=tb) (Z:=Z) (ep:=ep) le) (by simp[hA]) Si (by rw[hZl,sizeLine_eq];have:=sk2.len;simp at this;lia) λ h3 tk3 acc k3 it=>hR _ h3 tk3 ?_ k3;obtain⟨a1,a2⟩:=it;apply List.ext_getElem?;intro i;cases ea:acc.toList[i]? with
    |none =>
     have:P2.length<=i:=by have:=Q9.mp ea;rw[Array.length_toList,a1,hZl] at this;exact this
     rw[Jb (by simpa using this)]
    |some v' =>
     rw[Array.getElem?_toList] at ea;obtain⟨e',f1,f2⟩:=a2 i v' ea;rw[<-p2,Qs] at f1;rw[Qs];cases ep2:P2[i]? with
     |none=>rw[ep2] at f1;cases f1
     |some q'=>rw[ep2] at f1;cases f1;rw[f2];rfl
   ·subst e;exact qBo (s:={s with heap:=h'',toks:=tk}) (by show X.A.units+1+1+8<cLine;lia) sk2 kd2 ((q5B k).2 _ _ ((q2b hK I1).2 _ vs2 _ (w1.mono q0Z) w2)) h2
   ·subst eu;rw[<-qAe sk pm,<-q7a sk2 Pq U];exact q5C I1 t w1 w2 hz2 Pq rfl k nD g
  ·cases h'
end
end Snd
namespace Snd
open PySem PySem.Spec PySem.W PyProof.Rows L2 Ev SetT
theorem qCL:bootBuiltins "set" = some (.type "set"):=by kernel_rfl
theorem sset:SSet:=by
 intro X p G sub a la q q2 q3 pos hK hc hu m1 m2 ha oa g1 g2 pins s σ H ρ os I R hs;have hst:starEach [a] X.env=[(false,eval a X.env)]:=q0y oa;have hst2:starEach [.Call (.Name "set" q2) [a] [] q3] X.env=[(false,eval (.Call (.Name "set" q2) [a] [] q3) X.env)]:=q0y rfl;refine wpAny_Call_Name_kw (q1u I g1 m1 PyProof.Rows.boot_sorted ?_);refine PyProof.Rows.callWith_builtin1 ?_ hst2 rfl;rw[hst2];show wpAny _ _ (spliced ((false,eval (.Call (.Name "set" q2) [a] [] q3) X.env)::backTo pos [])) _ _ s;refine Calls.spliced_cons (wpAny_mono (Q:=λ x s2=>wpAny (model X.prog X.w) X.A (call (.builtin "sorted") [x]) (Gd X p pins σ os H (ev G sub (.bi .sortedSet [la]) ρ)) (Er X p pins σ H (ev G sub (.bi .sortedSet [la]) ρ)) s2) (E:=Er X p pins σ H (ev G sub (.bi .sortedSet [la]) ρ)) ?_ (λ x s2 h=>Calls.spliced_nil h) λ _ _ z=>z);refine wpAny_Call_Name_kw (q1u I g2 m2 qCL ?_);refine PyProof.Rows.callWith_type1 (q8h ha hst I R (q7V hs) (λ u s1 h=>?_) (λ _ _=>q7U)) hst rfl;obtain⟨d,v,H1,e1,I1,r1,x1,q1⟩:=h;have e0:ev G sub (.bi .sortedSet [la]) ρ=biD sub .sortedSet [d]:=by rw[q1P,q2G (f:=λ d=>biD sub .sortedSet [d]) la ρ _ (λ _=>rfl),e1];rfl
 rw[e0] at hs |-;rcases q6S sub .sortedSet [d] with z|⟨r,z⟩
 ·exact absurd z hs
 ·rw[z];exact wpAny_mono (qH8 hK hc hu (E:=Er X p pins σ H (.ok r)) I1 (R.ext x1).th r1 q1 z) (λ x s2 h2=>wpAny_mono h2 (λ w s3 h3=>qAY x1 rfl h3) λ _ _ z=>z) λ _ _ z=>z
end Snd
namespace Mk
open PySem Ev
def q4j (c:Int):Ev.L:= .op .add (.op .add (.op .add (.var 1) (.con (.int c))) (.op .mul (.con (.int 4)) (.var 5))) (.var 7)
def q4F:List Ev.S:=[.aug 2 .bor (.call 0 [(.var 3)]),.set 3 (.call 6 [(.var 0),(.var 2),(.var 1)])]
def qEI:List Ev.S:=[.set 6 (.op .bor (.var 4) (.op .shl (.con (.int 1)) (.var 5))),.ifs (.e (.cm .nmem (.var 6) (.bor 2))) [.put 2 (.var 6) (.con (.bl true)),.app 3 (.var 6)] []]
def q6g:List Ev.S:=[.pop 4 3,.forr 0 [5] (.e (.call 6 [(.var 0),(.var 4),(.var 1)])) qEI]
def q5N:List Ev.S:=[.ifs (.or (.not (.e (.call 9 [(.var 3)]))) (.or (.e (.cm .le (.var 3) (.var 2))) (.e (.cm .ge (.var 3) (.var 0))))) [.ret (.con (.bl false))] [],.set 2 (.var 3)]
def q5z:List Ev.S:=[.expr (.call 12 [(.var 1),(.var 3)])]
def q60:List Ev.S:=[.ifs (.e (.cm .ge (.idx (.var 2) (.op .sub (.var 4) (.con (.int 1)))) (.idx (.var 2) (.var 4)))) [.raise 1] []]
def q9u:Ev.S:= .ifs (.or (.not (.e (.bi .isTup [(.var 0)]))) (.e (.cm .ne (.bi .len [(.var 0)]) (.con (.int 2))))) [.raise 1] []
def q61:Ev.S:= .ifs (.or (.not (.e (.call 9 [(.var 1)]))) (.or (.e (.cm .lt (.var 1) (.con (.int 0)))) (.e (.cm .gt (.var 1) (.con (.int 10)))))) [.raise 1] []
def q9v:Ev.S:= .ifs (.or (.not (.e (.bi .isLst [(.var 2)]))) (.e (.cm .gt (.bi .len [(.var 2)]) (.con (.int 1300))))) [.raise 1] []
def qCM:List Ev.S:=[.app2 1 (.idx (.var 2) (.con (.int 0))) (.call 0 [(.idx (.var 2) (.con (.int 1)))])]
def qH9:Ev.L:= .comp 2 (.var 1) (.e (.idx (.var 0) (.con (.int 1)))) [(.and (.e (.cm .eq (.var 0) (.var 5))) (.e (.bi .all [(.comp 0 (.cm .mem (.var 0) (.var 4)) (.e (.var 1)) [])])))]
def qAf:List Ev.S:=[.set 4 qH9,.ifs (.and (.e (.cm .nmem (.var 3) (.var 1))) (.e (.cm .ne (.var 4) (.lst [])))) [.app 2 (.var 3)] []]
def qCN:Ev.L:= .comp 0 (.var 0) (.e (.var 2)) [(.e (.cm .ne (.var 0) (.var 4)))]
def qHA:Ev.T:= .and (.e (.cm .nmem (.var 2) (.bor 1))) (.and (.e (.cm .mem (.var 4) (.bor 1))) (.e (.cm .mem (.var 3) (.call 29 [(.var 0),(.var 4)]))))
def qEJ:List Ev.S:=[.set 4 (.bi .tuple [qCN]),.ifs qHA [.app 1 (.var 2)] []]
def qAg:List Ev.S:=[.forr 0 [3] (.e (.var 2)) qEJ]
def q4d:List Ev.L:=[(.con (.int 1)),(.con (.int 2)),(.con (.int 4)),(.con (.int 8)),(.con (.int 16)),(.con (.int 32)),(.con (.int 64))]
def qHB:Ev.S:= .set 8 (.call 26 [(.var 0),q4j 10,(.var 6)])
def qEK:Ev.S:= .ifs (.e (.cm .gt (.op .mod (.call 25 [(.var 0),q4j 40]) (.con (.int 3))) (.con (.int 0)))) [.set 8 (.sl 0 (.var 8) [] [(.op .add (.con (.int 1)) (.op .mod (.call 25 [(.var 0),q4j 41]) (.con (.int 2))))])] []
def qHC:Ev.S:= .app 4 (.tup [(.var 5),(.ite (.e (.cm .gt (.op .mod (.call 25 [(.var 0),(.op .add (.op .add (.var 1) (.con (.int 70))) (.var 5))]) (.con (.int 4))) (.con (.int 0)))) (.var 8) (.tup []))])
def q7v:List Ev.S:=[qHB,qEK,qHC]
def qHD:Ev.L:= .comp 0 (.var 0) (.rng [(.var 3)]) [(.e (.cm .ne (.var 0) (.var 6)))]
def qEL:Ev.L:= .idx (.lst [(.con (.int 1)),(.con (.int 1)),(.con (.int 2)),(.con (.int 2)),(.con (.int 3)),(.con (.int 0))]) (.op .mod (.call 25 [(.var 0),(.op .add (.op .add (.var 1) (.con (.int 1))) (.var 5))]) (.con (.int 6)))
def q4G:List Ev.S:=[.set 6 qHD,.forr 0 [7] (.rng [qEL]) q7v]
def qEM:Ev.S:= .set 3 (.op .mod (.call 25 [(.var 0),(.var 1)]) (.op .add (.var 2) (.con (.int 1))))
def q7w:List Ev.S:=[.set 1 (.con (.int 0)),.forr 0 [2] (.e (.var 0)) [.aug 1 .bor (.op .shl (.con (.int 1)) (.var 2))],.ret (.var 1)]
def q5O:List Ev.S:=[.ret (.bi .tuple [(.comp 0 (.var 0) (.rng [(.bi .bits [(.var 0)])]) [(.e (.call 2 [(.var 1),(.var 0)]))])])]
def qCO:List Ev.S:=[.ret (.cm .eq (.op .band (.op .shr (.var 0) (.var 1)) (.con (.int 1))) (.con (.int 1)))]
def q3p:List Ev.S:=[.ret (.op .sub (.op .shl (.con (.int 1)) (.var 0)) (.con (.int 1)))]
def q62:List Ev.S:=[.setE 1 (.idx (.var 0) (.con (.int 0))),.forr 0 [2] (.e (.idx (.var 0) (.con (.int 1)))) qCM,.retO 1]
noncomputable def q5P:List Ev.S:=[.ifs (.e (.call 2 [(.var 1),(.var 2)])) [.ret (.con (.bl false))] [],.forr 0 [3] (.e (.idx (.var 0) (.var 2))) [.ifs (.e (.cm .eq (.op .band (.var 3) (.var 1)) (.var 3))) [.ret (.con (.bl true))] []],.ret (.con (.bl false))]
def q3q:List Ev.S:=[.ret (.comp 0 (.var 0) (.e (.call 1 [(.var 2)])) [(.e (.call 5 [(.var 1),(.var 2),(.var 0)]))])]
def q3r:List Ev.S:=[.set 2 (.con (.int 0)),.set 3 (.call 6 [(.var 0),(.var 2),(.var 1)]),.whl (.e (.var 3)) q4F,.ret (.var 2)]
def q2i:List Ev.S:=[.setO 2 (.dct (.con (.int 0)) (.con (.bl true))),.setO 3 (.lst [(.con (.int 0))]),.whl (.e (.bor 3)) q6g,.retO 2]
def q2u:List Ev.S:=[.ret (.and (.bi .isInt [(.var 0)]) (.not (.bi .isBool [(.var 0)])))]
def q9w:List Ev.S:=[.ifs (.not (.e (.bi .isTup [(.var 1)]))) [.ret (.con (.bl false))] [],.set 2 (.neg (.con (.int 1))),.forr 0 [3] (.e (.var 1)) q5N,.ret (.con (.bl true))]
def q4e:List Ev.S:=[q9u,.set 1 (.idx (.var 0) (.con (.int 0))),.set 2 (.idx (.var 0) (.con (.int 1))),q61,q9v,.forr 0 [3] (.e (.var 2)) q5z,.forr 0 [4] (.rng [(.con (.int 1)),(.bi .len [(.var 2)])]) q60]
noncomputable def q1B:List Ev.S:=[.ifs (.or (.not (.e (.bi .isTup [(.var 1)]))) (.e (.cm .ne (.bi .len [(.var 1)]) (.con (.int 2))))) [.raise 1] [],.set 2 (.idx (.var 1) (.con (.int 0))),.set 3 (.idx (.var 1) (.con (.int 1))),.ifs (.or (.not (.e (.call 9 [(.var 2)]))) (.or (.e (.cm .lt (.var 2) (.con (.int 0)))) (.e (.cm .ge (.var 2) (.var 0))))) [.raise 1] [],.ifs (.not (.e (.call 10 [(.var 0),(.var 3)]))) [.raise 1] [],.ifs (.e (.cm .mem (.var 2) (.var 3))) [.raise 1] []]
def q2v:List Ev.S:=[.expr (.call 11 [(.var 0)]),.ifs (.not (.e (.call 10 [(.idx (.var 0) (.con (.int 0))),(.var 1)]))) [.raise 2] []]
def q0S:List Ev.S:=[.ifs (.not (.e (.call 16 [(.var 0),(.var 1)]))) [.raise 2] []]
def q1Z:List Ev.S:=[.expr (.call 13 [(.var 0),(.var 1)]),.ret (.call 6 [(.call 4 [(.var 0)]),(.call 0 [(.var 1)]),(.call 3 [(.idx (.var 0) (.con (.int 0)))])])]
def q1L:List Ev.S:=[.ret (.cm .eq (.call 17 [(.var 0),(.var 1)]) (.var 1))]
def q5Q:List Ev.S:=[.expr (.call 13 [(.var 0),(.var 1)]),.ret (.call 1 [(.call 7 [(.call 4 [(.var 0)]),(.call 0 [(.var 1)])])])]
def q0T:List Ev.S:=[.expr (.call 14 [(.var 0),(.var 1)]),.set 2 (.call 0 [(.var 1)]),.ret (.call 19 [(.call 8 [(.call 4 [(.var 0)]),(.var 2)]),(.var 2)])]
def q1y:List Ev.S:=[.ret (.comp 0 (.var 0) (.e (.call 1 [(.var 1)])) [(.e (.cm .mem (.op .bxor (.var 2) (.op .shl (.con (.int 1)) (.var 0))) (.var 1)))])]
noncomputable def q1z:List Ev.S:=[.expr (.call 11 [(.var 0)]),.set 3 (.call 4 [(.var 0)]),.set 4 (.call 3 [(.idx (.var 0) (.con (.int 0)))]),.set 5 (.call 8 [(.var 3),(.var 4)]),.set 6 (.bi .sortedSet [(.var 1)]),.set 7 (.bi .sortedSet [(.var 2)]),.forr 0 [8] (.e (.var 5)) [.ifs (.and (.e (.cm .eq (.call 19 [(.var 5),(.var 8)]) (.var 6))) (.e (.cm .eq (.call 6 [(.var 3),(.var 8),(.var 4)]) (.var 7)))) [.ret (.call 1 [(.var 8)])] []],.ret (.con .non)]
noncomputable def q38:List Ev.S:=[.expr (.call 14 [(.var 0),(.var 1)]),.expr (.call 14 [(.var 0),(.var 2)]),.set 3 (.call 4 [(.var 0)]),.set 4 (.call 0 [(.var 1)]),.set 5 (.call 0 [(.var 2)]),.setF 6 22 [(.var 3),(.var 4),(.op .bor (.var 4) (.var 5))],.extF 6 23 [(.var 3),(.op .bor (.var 4) (.var 5)),(.var 5)],.ret (.comp 0 (.call 1 [(.var 0)]) (.b 6) [])]
def q4r:List Ev.S:=[.setO 3 (.lst [(.var 1)]),.set 4 (.var 1),.whl (.e (.cm .ne (.var 4) (.var 2))) [.aug 4 .bor (.op .shl (.con (.int 1)) (.idx (.call 6 [(.var 0),(.var 4),(.var 2)]) (.con (.int 0)))),.app 3 (.var 4)],.retF 3]
noncomputable def q2w:List Ev.S:=[.set 3 (.call 8 [(.var 0),(.var 1)]),.setO 4 (.lst []),.set 5 (.var 1),.whl (.e (.cm .ne (.var 5) (.var 2))) [.set 6 (.comp 0 (.var 0) (.e (.call 19 [(.var 3),(.var 5)])) [(.not (.e (.call 2 [(.var 3),(.var 0)])))]),.aug 5 .bxor (.op .shl (.con (.int 1)) (.idx (.var 6) (.neg (.con (.int 1))))),.app 4 (.var 5)],.retF 4]
def q1f:List Ev.S:=[.ifs (.e (.var 0)) [.ret (.idx (.var 0) (.op .mod (.var 1) (.bi .len [(.var 0)])))] [],.ret (.con (.int 0))]
noncomputable def q2j:List Ev.S:=[.set 2 (.op .mod (.op .add (.call 24 [(.var 0),(.var 1)]) (.op .mul (.con (.int 104729)) (.op .add (.var 1) (.con (.int 1))))) (.con (.int 4294967291))),.set 2 (.op .mod (.op .mul (.var 2) (.con (.int 48271))) (.con (.int 4294967279))),.ret (.op .mod (.op .add (.op .mul (.op .fdiv (.var 2) (.con (.int 64))) (.con (.int 69621))) (.var 2)) (.con (.int 4294967231)))]
noncomputable def q20:List Ev.S:=[.set 3 (.op .fdiv (.call 25 [(.var 0),(.var 1)]) (.con (.int 8))),.ret (.bi .tuple [(.comp 0 (.idx (.var 3) (.var 0)) (.rng [(.bi .len [(.var 2)])]) [(.e (.cm .eq (.op .mod (.op .fdiv (.var 4) (.idx (.lst q4d) (.var 0))) (.con (.int 2))) (.con (.int 1))))])])]
def q1o:List Ev.S:=[qEM,.setO 4 (.lst []),.forr 0 [5] (.rng [(.var 3)]) q4G,.ret (.tup [(.var 3),(.bi .sortedSet [(.bor 4)])])]
noncomputable def q0u:List Ev.S:=[.set 1 (.lst [(.tup [])]),.forr 0 [2] (.rng [(.var 0)]) [.set 1 (.op .add (.var 1) (.comp 0 (.op .add (.var 0) (.tup [(.var 3)])) (.e (.var 1)) []))],.ret (.comp 2 (.var 1) (.e (.bi .sorted [(.comp 0 (.tup [(.bi .len [(.var 0)]),(.var 0)]) (.e (.var 1)) [])])) [])]
def q63:List Ev.S:=[.setO 2 (.lst []),.forr 0 [3] (.rng [(.idx (.var 0) (.con (.int 0)))]) qAf,.retO 2]
def q4f:List Ev.S:=[.setO 1 (.lst [(.tup [])]),.forr 0 [2] (.e (.sl 0 (.call 28 [(.idx (.var 0) (.con (.int 0)))]) [(.con (.int 1))] [])) qAg,.retO 1]
noncomputable def q1a:List Ev.S:=[.ifs (.e (.cm .isN (.var 0) (.con .non))) [.ret (.con (.str "ok"))] [],.set 1 (.lst [(.bi (.isExc 4) [(.var 0)]),(.bi (.isExc 1) [(.var 0)]),(.bi (.isExc 2) [(.var 0)])]),.set 1 (.op .add (.var 1) (.lst [(.bi (.isExc 5) [(.var 0)]),(.bi (.isExc 3) [(.var 0)])])),.ifs (.or (.e (.cm .ne (.bi .count [(.var 1),(.con (.bl true))]) (.con (.int 1)))) (.not (.e (.bi .isVal [(.var 0)])))) [.ret (.con (.str "wrong"))] [],.ret (.idx (.lst [(.con (.str "number")),(.con (.str "rules")),(.con (.str "state")),(.con (.str "text")),(.con (.str "unlike"))]) (.bi .index [(.var 1),(.con (.bl true))]))]
noncomputable def q1g:List Ev.S:=[.set 4 (.con .non),.set 5 (.con .non),.tryE [.set 5 (.ite (.e (.cm .eq (.var 0) (.con (.int 0)))) (.call 18 [(.var 1),(.var 2)]) (.call 21 [(.var 1),(.var 2),(.var 3)]))] 0 6 4,.ret (.ite (.e (.cm .isN (.var 4) (.con .non))) (.var 5) (.call 31 [(.var 4)]))]
def q2x:List Ev.S:=[.ret (.bi .tuple [(.comp 0 (.var 0) (.e (.var 0)) [(.e (.cm .ne (.var 0) (.var 2)))])])]
noncomputable def q2y:List Ev.S:=[.setO 3 (.lst [(.var 1)]),.whl (.e (.cm .ne (.var 1) (.var 2))) [.set 4 (.comp 0 (.var 0) (.e (.var 2)) [(.and (.e (.cm .nmem (.var 0) (.var 2))) (.e (.cm .mem (.bi .tuple [(.bi .sorted [(.op .add (.var 2) (.tup [(.var 0)]))])]) (.var 1))))]),.set 5 (.comp 0 (.var 0) (.e (.var 1)) [(.and (.e (.cm .nmem (.var 0) (.var 3))) (.e (.cm .mem (.call 33 [(.var 2),(.var 0)]) (.var 1))))]),.set 1 (.ite (.e (.var 4)) (.bi .tuple [(.bi .sorted [(.op .add (.var 1) (.tup [(.idx (.var 4) (.con (.int 0)))]))])]) (.call 33 [(.var 1),(.idx (.var 5) (.neg (.con (.int 1))))])),.app 3 (.var 1)],.retO 3]
noncomputable def qCP:List Ev.S:=[.set 1 (.call 27 [(.var 0),(.con (.int 0)),(.con (.int 4))]),.set 2 (.call 30 [(.var 1)]),.setO 3 (.lst []),.forr 0 [4] (.e (.var 2)) [.set 5 (.comp 0 (.var 0) (.e (.var 4)) [(.e (.cm .mem (.call 33 [(.var 5),(.var 0)]) (.var 3)))]),.set 6 (.call 15 [(.var 1),(.var 4)]),.ifs (.or (.e (.cm .ne (.call 32 [(.con (.int 0)),(.var 1),(.var 4),(.tup [])]) (.var 5))) (.e (.cm .mem (.tup [(.var 5),(.var 6)]) (.bor 3)))) [.ret (.con (.bl false))] [],.ifs (.e (.cm .ne (.call 20 [(.var 1),(.bi .list [(.var 5)]),(.bi .list [(.var 6)])]) (.var 4))) [.ret (.con (.bl false))] [],.app 3 (.tup [(.var 5),(.var 6)])],.set 5 (.bi .list [(.call 26 [(.var 0),(.con (.int 100)),(.lrng [(.idx (.var 1) (.con (.int 0)))])])]),.set 6 (.bi .list [(.call 26 [(.var 0),(.con (.int 101)),(.lrng [(.idx (.var 1) (.con (.int 0)))])])]),.ifs (.and (.e (.cm .nmem (.tup [(.var 5),(.var 6)]) (.bor 3))) (.e (.cm .notN (.call 20 [(.var 1),(.var 5),(.var 6)]) (.con .non)))) [.ret (.con (.bl false))] [],.set 7 (.idx (.var 2) (.op .mod (.call 25 [(.var 0),(.con (.int 102))]) (.bi .len [(.var 2)]))),.set 8 (.idx (.var 2) (.op .mod (.call 25 [(.var 0),(.con (.int 103))]) (.bi .len [(.var 2)]))),.set 9 (.call 32 [(.con (.int 1)),(.var 1),(.var 7),(.var 8)]),.set 10 (.bi .len [(.comp 0 (.var 0) (.rng [(.idx (.var 1) (.con (.int 0)))]) [(.e (.cm .ne (.cm .mem (.var 0) (.var 8)) (.cm .mem (.var 0) (.var 9))))])]),.ifs (.or (.e (.cm .ne (.var 9) (.call 34 [(.var 2),(.var 7),(.var 8)]))) (.or (.e (.cm .ne (.bi .len [(.var 9)]) (.op .add (.var 10) (.con (.int 1))))) (.not (.e (.bi .all [(.comp 0 (.cm .mem (.var 0) (.var 3)) (.e (.var 9)) [])]))))) [.ret (.con (.bl false))] [],.set 11 (.op .add (.comp 0 (.var 0) (.e (.call 28 [(.idx (.var 1) (.con (.int 0)))])) [(.e (.cm .nmem (.var 0) (.var 3)))]) (.lst [(.tup [(.idx (.var 1) (.con (.int 0)))])])),.set 12 (.idx (.var 11) (.op .mod (.call 25 [(.var 0),(.con (.int 104))]) (.bi .len [(.var 11)]))),.ret (.cm .eq (.lst [(.call 32 [(.con (.int 0)),(.var 1),(.var 12),(.tup [])]),(.call 32 [(.con (.int 1)),(.var 1),(.var 12),(.var 7)]),(.call 32 [(.con (.int 1)),(.var 1),(.var 7),(.var 12)])]) (.op .mul (.lst [(.con (.str "state"))]) (.con (.int 3))))]
def subC (a b:Nat):Bool:=a==b || b==0
noncomputable def dsM:List (Nat×Nat×List Ev.S×Bool):=[(1,3,q7w,false),(1,1,q5O,false),(2,2,qCO,false),(1,1,q3p,false),(1,3,q62,false),(3,4,q5P,false),(3,3,q3q,false),(2,4,q3r,false),(2,7,q2i,false),(1,1,q2u,false),(2,4,q9w,false),(1,5,q4e,false),(2,4,q1B,false),(2,2,q2v,false),(2,2,q0S,false),(2,2,q1Z,false),(2,2,q1L,false),(2,2,q5Q,false),(2,3,q0T,false),(2,2,q1y,false),(3,9,q1z,false),(3,7,q38,false),(3,5,q4r,true),(3,7,q2w,true),(2,2,q1f,false),(2,3,q2j,false),(3,4,q20,false),(3,9,q1o,false),(1,3,q0u,false),(2,5,q63,false),(1,5,q4f,false),(1,2,q1a,false),(4,7,q1g,false),(2,2,q2x,false),(3,6,q2y,false),(1,13,qCP,false)]
noncomputable def Gm:Nat->Nat->List D->R D
 |0,_,_=> .stuck
 |n+1,f,xs=>match dsM[f]? with
  |some d=>if xs.length=d.1 then (if d.2.2.2 then Ev.runF (Gm n) subC d.2.1 d.2.2.1 xs else Ev.run (Gm n) subC d.2.1 d.2.2.1 xs) else .stuck
  |none=> .stuck
end Mk
namespace Mk
open Ev
variable {a b k t n:Nat}
def ix:Ix:=⟨0,1,2,3,4,5,6,7,8,9,10,11,12,13,15,99,16,99,17,24,25,26,27,28,29,30,31,99,99⟩
theorem q7x (k:Nat) (ts:List Nat) (h:∀t∈ts,t<=1000) (d:D) (hd:d = .tup (nL ts)\/d = .lst (nL ts)):Gm (k+1) 0 [d] = .ok (nI (q03 0 ts)):=q8e ts h d hd
theorem q8q (k m t:Nat):Gm (k+1) 2 [nI m,nI t] = .ok (.bl (m.testBit t)):=qBP (G:=Gm k) (sub:=subC) m t
theorem q3s (k m:Nat) (h:m<2^62):Gm (k+2) 1 [nI m] = .ok (.tup (nL (q01 m))):=q6G (f:=ix) (λ m t=>q8q k m t) m h
theorem qK4 (k n:Nat) (h:n<=1000):Gm (k+1) 3 [nI n] = .ok (nI (2^n-1)):=q53 n h
theorem qLk (k:Nat) (nd:List (List Nat)) (m t:Nat) (h:t<nd.length):Gm (k+2) 5 [ndD nd,nI m,nI t] = .ok (.bl (mayL nd m t)):=q6H (f:=ix) (λ m t=>q8q k m t) nd m t h
theorem q5R (k:Nat) (nd:List (List Nat)) (m b:Nat) (hb:b<2^nd.length) (hn:nd.length<=60):Gm (k+3) 6 [ndD nd,nI m,nI b] = .ok (.lst (nL (q0G nd m b))) :=
 q54 (f:=ix) (λ m h=>q3s k m h) nd (λ m t h=>qLk k nd m t h) m b hb hn
def Sm (a b:Nat):Prop:=∀i,a.testBit i=true->b.testBit i=true
theorem q3I (a:Nat):Sm a a:=λ _ h=>h
theorem q2J {c:Nat}(h:Sm a b) (g:Sm b c):Sm a c:=λ i x=>g i (h i x)
theorem q6h (a:Nat):Sm 0 a:=λ i h=>by simp at h
theorem q4H {x:Nat}:x &&& k=x↔Sm x k:=by
 constructor
 ·intro h i hi;rw[<-h,Nat.testBit_and,Qd] at hi;exact hi.2
 ·intro h;refine QV λ i=>?_;rw[Nat.testBit_and];cases q:x.testBit i with
  |false=>rfl
  |true=>rw[h i q];rfl
theorem q1p (h:Sm a b) (g:Sm b a):a=b:=QV λ i=>QB.mpr ⟨h i,g i⟩
theorem qHE (h:Sm a b):a<=b:=by rw[<-q4H.mpr h];exact Nat.and_le_right
theorem q0b (k t i:Nat):(k ||| 1 <<< t).testBit i=(k.testBit i || decide (t=i)):=by rw[Nat.testBit_or,Ju,Nat.testBit_two_pow]
theorem q3t (ts:List Nat):∀(m i:Nat),(q03 m ts).testBit i=(m.testBit i || decide (i∈ts)):=by
 induction ts with
 |nil=>intro m i;simp[q03]
 |cons t ts ih =>
  intro m i;show (q03 (m ||| 1 <<< t) ts).testBit i=_;rw[ih,q0b,Bool.or_assoc];congr 1
  by_cases h:t=i
  ·subst h;simp
  ·have h':¬i=t:=λ e=>h e.symm;simp[h,h']
theorem q1b (ts:List Nat) (i:Nat):(q03 0 ts).testBit i=decide (i∈ts):=by rw[q3t];simp
theorem qHF {c:Nat}(h:Sm a c) (g:Sm b c):Sm (a ||| b) c:=λ i x=>by rw[Nat.testBit_or,Q6] at x;exact x.elim (h i) (g i)
theorem q4I (a b:Nat):Sm a (a ||| b):=λ i x=>by rw[Nat.testBit_or,x];rfl
theorem q9x (a b:Nat):Sm b (a ||| b):=λ i x=>by rw[Nat.testBit_or,x,Bool.or_true]
theorem qHG (h:k.testBit t=true):k ||| 1 <<< t=k:=QV λ i=>by
 rw[q0b]
 by_cases e:t=i
 ·subst e;simp[h]
 ·simp[e]
theorem q64 (h:a<2^n) (q:a.testBit t=true):t<n:=(Nat.pow_lt_pow_iff_right (by decide:1<2)).mp (Jc (Nat.ge_two_pow_of_testBit q) h)
theorem q65 (h:∀i,a.testBit i=true->i<n):a<2^n:=Nat.lt_pow_two_of_testBit _ λ i hi=>by
 cases q:a.testBit i with
 |false=>rfl
 |true=>exact absurd (h i q) (by lia)
theorem q2g:(2^n-1).testBit t=true↔t<n:=by rw[Nat.testBit_two_pow_sub_one];simp
theorem qFK:Sm a (2^n-1)↔a<2^n:=⟨λ h=>q65 λ i q=>q2g.mp (h i q),λ h i q=>q2g.mpr (q64 h q)⟩
inductive Rch (nd:List (List Nat)):Nat->Prop
 |z:Rch nd 0
 |s {k t:Nat}:Rch nd k->mayL nd k t=true->Rch nd (k ||| 1 <<< t)
variable {nd:List (List Nat)}
theorem q5S (h:mayL nd k t=true):t<nd.length:=by
 unfold mayL at h;rw[Qd] at h;refine Nat.lt_of_not_le λ g=>?_;have:nd.getD t []=[]:=by simp[Jm,g]
 rw[this] at h;simp at h
theorem q6i {j:Nat}(s:Sm j k) (h:mayL nd j t=true):k.testBit t=true\/mayL nd k t=true:=by
 cases q:k.testBit t with
 |true=>exact .inl rfl
 |false =>
  refine .inr ?_;unfold mayL at h |-;rw[Qd] at h;rw[q,Jq,Bool.true_and];obtain⟨x,hx,hj⟩:=Q1.mp h.2;refine Q1.mpr ⟨x,hx,?_⟩;rw[beq_iff_eq] at hj |-;exact q4H.mpr (q2J (q4H.mp hj) s)
theorem q1q (h:mayL nd k t=true):k.testBit t=false:=by unfold mayL at h;rw[Qd] at h;simpa using h.1
theorem q9y {j:Nat}(r:Rch nd k) (s:Sm j k) (h:mayL nd j t=true):Rch nd (k ||| 1 <<< t):=by
 rcases q6i s h with q|q
 ·rw[qHG q];exact r
 ·exact .s r q
theorem qFL (ha:Rch nd a) (hb:Rch nd b):Rch nd (a ||| b):=by
 induction hb with
 |z=>rw[Nat.or_zero];exact ha
 |s hk hm ih=>rw[<-Nat.or_assoc];exact q9y ih (q9x _ _) hm
theorem q9z {k:Nat}:∀(ts:List Nat) (m:Nat),Rch nd m->Sm k m->(∀t∈ts,mayL nd k t=true)->Rch nd (q03 m ts)
 |[],m,r,_,_=>r
 |t::ts,m,r,s,h=>q9z ts (m ||| 1 <<< t) (q9y r s (h t Qb)) (q2J s (q4I _ _)) λ u hu=>h u (Qa _ hu)
theorem q1H (h:Rch nd k):k<2^nd.length:=by
 refine q65 λ i=>?_
 induction h with
 |z=>simp
 |s hk hm ih =>
  intro q;rw[q0b,Q6] at q;rcases q with q|q
  ·exact ih q
  ·rw[<-of_decide_eq_true q];exact q5S hm
def q7y (nd:List (List Nat)) (b c:Nat):Prop:=Rch nd c/\Sm c b/\∀j,Rch nd j->Sm j b->Sm j c
theorem qA0 (r:Rch nd k) (s:Sm k b) (e:q0G nd k b=[]):q7y nd b k:=by
 refine⟨r,s,λ j hj=>?_⟩
 induction hj with
 |z=>exact λ _=>q6h _
 |@s j t hk hm ih =>
  intro hb;have h1:=ih (q2J (q4I _ _) hb);have h2:b.testBit t=true:=hb t (by rw[q0b];simp);refine qHF h1 λ i hi=>?_;rw[Ju,Nat.testBit_two_pow] at hi;have:t=i:=of_decide_eq_true hi;subst this;rcases q6i h1 hm with q|q
  ·exact q
  ·have:t∈q0G nd k b:=QG.mpr ⟨q06.mpr h2,q⟩;rw[e] at this;cases this
theorem q7z (K b:Nat) (hb:b<2^nd.length) (hn:nd.length<=60):∀(f k:Nat),b-k<f->Rch nd k->Sm k b->
  ∃c x,q7y nd b c/\q0x (tst (Gm (K+3)) subC (.e (.var 3))) (exs (Gm (K+3)) subC q4F) f [some (.val (ndD nd)),some (.val (nI b)),some (.val (nI k)),some (.val (.lst (nL (q0G nd k b))))] =
   .ok [some (.val (ndD nd)),some (.val (nI b)),some (.val (nI c)),x] .nx
 |0,k,h,_,_=>absurd h (by lia)
 |f+1,k,h,r,s=>by
  rw[q1e]
  by_cases e:q0G nd k b=[]
  ·refine⟨k,some (.val (.lst (nL (q0G nd k b)))),qA0 r s e,?_⟩;rw[e];simp[nL]
  ·have hm:∀t∈q0G nd k b,b.testBit t=true/\mayL nd k t=true:=λ t ht=>by obtain⟨h1,h2⟩:=QG.mp ht;exact⟨q06.mp h1,h2⟩
   generalize hq:q0G nd k b=ts at e hm;have r':Rch nd (q03 k ts):=q9z ts k r (q3I k) λ t ht=>(hm t ht).2;have s':Sm (q03 k ts) b:=λ i hi=>by
    rw[q3t,Q6] at hi;rcases hi with hi|hi
    ·exact s i hi
    ·exact (hm i (of_decide_eq_true hi)).1
   have hor:k ||| q03 0 ts=q03 k ts:=QV λ i=>by rw[Nat.testBit_or,q1b,q3t]
   have hlt:k<q03 k ts:=by
    obtain⟨t,ts',rfl⟩:∃t ts',ts=t::ts':=by
     cases ts with
     |nil=>exact absurd rfl e
     |cons t l=>exact⟨t,l,rfl⟩
    have hs:Sm k (q03 k (t::ts')):=λ i hi=>by rw[q3t,hi];rfl
    refine Nat.lt_of_le_of_ne (qHE hs) λ z=>?_;have h1:=q1q (hm t Qb).2;rw[z,q3t] at h1;simp at h1
   have hle:q03 k ts<=b:=qHE s';obtain⟨c,x,hc,hw⟩:=q7z K b hb hn f (q03 k ts) (by lia) r' s';refine⟨c,x,hc,Eq.trans ?_ hw⟩;have h1000:∀t∈ts,t<=1000:=λ t ht=>by have:=q5S (hm t ht).2;lia
   have e1:Gm (K+3) 0 [.lst (nL ts)] = .ok (nI (q03 0 ts)):=q7x (K+2) ts h1000 _ (.inr rfl);have e2:ts.isEmpty=false:=(by cases ts<;>simp at e |-);have e3:=q5R K nd (q03 k ts) b hb hn;have e4:(nL ts).isEmpty=false:=(by cases ts<;>simp at e |-);simp[q4F,e1,e3,hor,e4]
theorem qK5 (K b:Nat) (hb:b<2^nd.length) (hn:nd.length<=15):∃c,q7y nd b c/\Gm (K+4) 7 [ndD nd,nI b] = .ok (nI c):=by
 have h2:b<2^15:=Qp hb (QC (by decide) hn);obtain⟨c,x,hc,hw⟩:=q7z K b hb (by lia) 100000 0 (by lia) .z (q6h b);refine⟨c,hc,?_⟩;have e3:=q5R K nd 0 b hb (by lia);show Ev.run (Gm (K+3)) subC 4 [.set 2 (.con (.int 0)),.set 3 (.call 6 [(.var 0),(.var 2),(.var 1)]),.whl (.e (.var 3)) q4F,.ret (.var 2)] [ndD nd,nI b]=_;generalize hW:ex (Gm (K+3)) subC (.whl (.e (.var 3)) q4F)=W;have hw':W [some (.val (ndD nd)),some (.val (nI b)),some (.val (nI 0)),some (.val (.lst (nL (q0G nd 0 b))))] = .ok [some (.val (ndD nd)),some (.val (nI b)),some (.val (nI c)),x] .nx:=by rw[<-hW,q5i];exact hw
 have hex:∀ρ,ex (Gm (K+3)) subC (.whl (.e (.var 3)) q4F) ρ=W ρ:=λ ρ=>by rw[hW]
 simp only[Ev.run,q0s,q0L,hex];simp[num0,e3,hw']
end Mk
namespace Mk
open Ev
variable {nd:List (List Nat)}
theorem q1c:∀(N:Nat) (l:List Nat),l.Nodup->(∀x∈l,x<N)->l.length<=N
 |0,l,_,h=>by
  cases l with
  |nil=>simp
  |cons a l=>exact absurd (h a Qb) (by lia)
 |N+1,l,d,h=>by
  have h1:=q1c N (l.erase N) (d.erase N) λ x hx=>by have h2:=(d.mem_erase_iff).mp hx;have h3:=h x h2.2;have h4:=h2.1;lia
  by_cases m:N∈l
  ·rw[Jx m] at h1;lia
  ·rw[List.erase_of_not_mem m] at h1;lia
def newL (k:Nat):List Nat->List Nat->List Nat
 |_,[]=>[]
 |ks,t::ts=>if k ||| 1 <<< t∈ks then newL k ks ts else (k ||| 1 <<< t)::newL k (ks++[k ||| 1 <<< t]) ts
def trs (n:Nat):List D:=Qe n (.bl true)
theorem qCQ (i:Nat):∀(ks:List Nat),i∉ks->put (i:Int) (.bl true) (nL ks) (trs ks.length) = .ok (nL (ks++[i]),trs (ks++[i]).length)
 |[],_=>rfl
 |k::ks,h=>by
  have h1:¬((k:Int)=i):=λ e=>h (by have:k=i:=(by lia);subst this;exact Qb)
  have ih:=qCQ i ks λ g=>h (Qa _ g);show put (i:Int) (.bl true) (nI k::nL ks) (.bl true::trs ks.length)=_;unfold nI put;rw[if_neg h1,ih];rfl
theorem qCR (l:List Nat) (i:Nat):(nL l).any (λ y=>eqb y (nI i))=decide (i∈l):=by
 induction l with
 |nil=>simp
 |cons a l ih =>
  rw[q1J,Q0,ih,qLK]
  by_cases h:a=i
  ·subst h;simp
  ·have:¬i=a:=λ e=>h e.symm;simp[h,this]
theorem qA1 (l:List Nat) (v:List D) (i:Nat):cmD .nmem (nI i) (.dct (nL l) v) = .ok (.bl (!decide (i∈l))):=by have e:memD (nI i) (.dct (nL l) v) = .ok ((nL l).any λ y=>eqb y (nI i)):=rfl;have e2:cmD .nmem (nI i) (.dct (nL l) v)=(memD (nI i) (.dct (nL l) v)).bind λ r=> .ok (.bl (!r)):=rfl;rw[e2,e,qCR];rfl
theorem qA2 {G:Nat->List D->R D}(a b:Option Sl) (N k:Nat) (hN:N<=1000):∀(ts ks ws:List Nat) (x y:Option Sl),ks.Nodup->(∀z∈ks,z<N)->(∀t∈ts,t<=1000/\k ||| 1 <<< t<N)->ws.length<=ks.length->
  ∃x' y',q1D (exs G subC qEI) 0 [5] (nL ts) [a,b,some (.own (.dct (nL ks) (trs ks.length))),some (.own (.lst (nL ws))),some (.val (nI k)),x,y] =
   .ok [a,b,some (.own (.dct (nL (ks++newL k ks ts)) (trs (ks++newL k ks ts).length))),some (.own (.lst (nL (ws++newL k ks ts)))),some (.val (nI k)),x',y'] .nx
 |[],ks,ws,x,y,_,_,_,_=>⟨x,y,by simp[newL,q1k]⟩
 |t::ts,ks,ws,x,y,hd,hk,ht,hw=>by
  have ht1:=ht t Qb;have hlen:=q1c N ks hd hk;have ht':∀u∈ts,u<=1000/\k ||| 1 <<< u<N:=λ u hu=>ht u (Qa _ hu)
  rw[q1J,q0R]
  by_cases q:k ||| 1 <<< t∈ks
  ·obtain⟨x',y',e⟩:=qA2 (G:=G) a b N k hN ts ks ws (some (.val (nI t))) (some (.val (nI (k ||| 1 <<< t)))) hd hk ht' hw;refine⟨x',y',?_⟩;have e0:newL k ks (t::ts)=newL k ks ts:=(by rw[newL,if_pos q]);rw[e0,<-e];simp[qEI,num1,ht1.1,qA1,q]
  ·obtain⟨x',y',e⟩:=qA2 (G:=G) a b N k hN ts (ks++[k ||| 1 <<< t]) (ws++[k ||| 1 <<< t]) (some (.val (nI t))) (some (.val (nI (k ||| 1 <<< t))))
    (Qz.mpr ⟨hd,by simp,λ u hu v hv=>by rw[Qt] at hv;subst hv;exact λ z=>q (z▸hu)⟩)
    (λ z hz=>by
     rcases Qm.mp hz with h|h
     ·exact hk z h
     ·rw[Qt] at h;subst h;exact ht1.2) ht' (by simp;lia)
   refine⟨x',y',?_⟩;have e0:newL k ks (t::ts)=(k ||| 1 <<< t)::newL k (ks++[k ||| 1 <<< t]) ts:=(by rw[newL,if_neg q]);have e1:∀l:List Nat,l++newL k ks (t::ts)=(l++[k ||| 1 <<< t])++newL k (ks++[k ||| 1 <<< t]) ts:=λ l=>by rw[e0];simp
   rw[e1,e1,<-e];have e2:=qCQ (k ||| 1 <<< t) ks q;have b1:ks.length<big:=(by rw[q0K];lia);have b2:ws.length<big:=(by rw[q0K];lia);have e3:∀ρ:Env,ρ[2]? = some (some (.own (.dct (nL ks) (trs ks.length))))->ρ[6]? = some (some (.val (nI (k ||| 1 <<< t))))->ex G subC (.put 2 (.var 6) (.con (.bl true))) ρ =
     .ok (ρ.set 2 (some (.own (.dct (nL (ks++[k ||| 1 <<< t])) (trs (ks++[k ||| 1 <<< t]).length))))) .nx:=λ ρ h1 h2=>by
    rw[qEy,h1];simp only[q0I,q04,q1U,q9G,h2];show (if (nL ks).length<big then (put ((k ||| 1 <<< t:Nat):Int) (.bl true) (nL ks) (trs ks.length)).go ρ _ else _)=_;rw[q0X,if_pos b1,e2];rfl
   simp only[qEI,q0s,q0L,q4y];simp[-qEy,num1,ht1.1,qA1,q,e3,b2]
structure Inv (nd:List (List Nat)) (ks ws:List Nat):Prop where
 nodup:ks.Nodup
 rch:∀x∈ks,Rch nd x
 zero:0∈ks
 sub:∀x∈ws,x∈ks
 cl:∀x∈ks,x∈ws\/∀t,mayL nd x t=true->x ||| 1 <<< t∈ks
theorem q4s {k x:Nat}:∀(ts ks:List Nat),x∈newL k ks ts->∃t∈ts,x=k ||| 1 <<< t
 |[],ks,h=>by simp[newL] at h
 |t::ts,ks,h=>by
  unfold newL at h;split at h
  ·obtain⟨u,hu,e⟩:=q4s ts ks h;exact⟨u,Qa _ hu,e⟩
  ·rcases Qf.mp h with h|h
   ·exact⟨t,Qb,h⟩
   ·obtain⟨u,hu,e⟩:=q4s ts _ h;exact⟨u,Qa _ hu,e⟩
theorem q4t {k:Nat}:∀(ts ks:List Nat) (t:Nat),t∈ts->k ||| 1 <<< t∈ks++newL k ks ts
 |u::ts,ks,t,h=>by
  unfold newL;split
  ·rename_i q;rcases Qf.mp h with rfl|h
   ·exact Qv _ q
   ·exact q4t ts ks t h
  ·rcases Qf.mp h with rfl|h
   ·simp
   ·have:=q4t (k:=k) ts (ks++[k ||| 1 <<< u]) t h;simpa using this
theorem q2z {k:Nat}:∀(ts ks:List Nat),ks.Nodup->(ks++newL k ks ts).Nodup
 |[],ks,h=>by simpa[newL] using h
 |t::ts,ks,h=>by
  unfold newL;split
  ·exact q2z ts ks h
  ·rename_i q;have:=q2z (k:=k) ts (ks++[k ||| 1 <<< t]) (Qz.mpr ⟨h,by simp,λ u hu v hv=>by rw[Qt] at hv;subst hv;exact λ z=>q (z▸hu)⟩);simpa using this
theorem qA3 (n:Nat):∀t,t∈q01 (2^n-1)↔t<n:=λ t=>q06.trans q2g
theorem qCS (K:Nat) (hn:nd.length<=9):∀(f:Nat) (ks ws:List Nat) (x y z:Option Sl),Inv nd ks ws->ws.length<=ks.length->2^nd.length-ks.length+ws.length<f->
  ∃ks' x' y' z',Inv nd ks' []/\q0x (tst (Gm (K+3)) subC (.e (.bor 3))) (exs (Gm (K+3)) subC q6g) f [some (.val (ndD nd)),some (.val (nI (2^nd.length-1))),some (.own (.dct (nL ks) (trs ks.length))),some (.own (.lst (nL ws))),x,y,z] =
   .ok [some (.val (ndD nd)),some (.val (nI (2^nd.length-1))),some (.own (.dct (nL ks') (trs ks'.length))),some (.own (.lst [])),x',y',z'] .nx
 |0,ks,ws,x,y,z,_,_,h=>absurd h (by lia)
 |f+1,ks,ws,x,y,z,I,hl,h=>by
  rw[q1e];rcases List.eq_nil_or_concat ws with rfl|⟨ws,k,rfl⟩
  ·exact⟨ks,x,y,z,I,by simp⟩
  ·have hN:2^nd.length<=1000:=Qn (QC (by decide) hn) (by decide);have hkk:k∈ks:=I.sub k (by simp);have hk:=I.rch k hkk;have hlt:∀x∈ks,x<2^nd.length:=λ x hx=>q1H (I.rch x hx);generalize hts:q0G nd k (2^nd.length-1)=ts;have hmts:∀t∈ts,mayL nd k t=true:=λ t ht=>by rw[<-hts] at ht;exact (QG.mp ht).2
   have hallts:∀t,mayL nd k t=true->t∈ts:=λ t ht=>by rw[<-hts];exact QG.mpr ⟨(qA3 _ t).mpr (q5S ht),ht⟩
   have htt:∀t∈ts,t<=1000/\k ||| 1 <<< t<2^nd.length:=λ t ht=>⟨by have:=q5S (hmts t ht);lia,q1H (.s hk (hmts t ht))⟩
   have hl':ws.length<=ks.length:=(by simp at hl;lia);obtain⟨x',y',e⟩:=qA2 (G:=Gm (K+3)) (some (.val (ndD nd))) (some (.val (nI (2^nd.length-1)))) (2^nd.length) k hN ts ks ws y z I.nodup hlt htt hl';have hnd:=q2z (k:=k) ts ks I.nodup;have hrch:∀x∈ks++newL k ks ts,Rch nd x:=λ x hx=>by
    rcases Qm.mp hx with h|h
    ·exact I.rch x h
    ·obtain⟨t,ht,rfl⟩:=q4s ts ks h;exact .s hk (hmts t ht)
   have I':Inv nd (ks++newL k ks ts) (ws++newL k ks ts):=by
    refine⟨hnd,hrch,Qv _ I.zero,λ x hx=>?_,λ x hx=>?_⟩
    ·rcases Qm.mp hx with h|h
     ·exact Qv _ (I.sub x (by simp[h]))
     ·exact Qj _ h
    ·rcases Qm.mp hx with h|h
     ·by_cases q:x=k
      ·subst q;exact .inr λ t ht=>q4t ts ks t (hallts t ht)
      ·rcases I.cl x h with g|g
       ·refine .inl (Qv _ ?_);simp at g;exact g.resolve_right q
       ·exact .inr λ t ht=>Qv _ (g t ht)
     ·exact .inl (Qj _ h)
   have hlen:=q1c _ _ hnd λ x hx=>q1H (hrch x hx);obtain⟨ks',x2,y2,z2,I2,e2⟩:=qCS K hn f (ks++newL k ks ts) (ws++newL k ks ts) (some (.val (nI k))) x' y' I' (by simp;lia) (by simp at h hlen |-;lia);refine⟨ks',x2,y2,z2,I2,Eq.trans ?_ e2⟩;have e3:=q5R K nd k (2^nd.length-1) (by have:=Nat.one_le_two_pow (n:=nd.length);lia) (by lia);rw[hts] at e3;simp[q6g,e3,e]
theorem qHH {ks:List Nat}(I:Inv nd ks []) (x:Nat):x∈ks↔Rch nd x:=by
 refine⟨I.rch x,λ h=>?_⟩
 induction h with
 |z=>exact I.zero
 |s hk hm ih =>
  rcases I.cl _ ih with h|h
  ·cases h
  ·exact h _ hm
theorem qLl (K:Nat) (hn:nd.length<=9):∃ks:List Nat,ks.Nodup/\(∀x,x∈ks↔Rch nd x)/\Gm (K+4) 8 [ndD nd,nI (2^nd.length-1)] = .ok (.dct (nL ks) (trs ks.length)):=by
 have hN:2^nd.length<=1000:=Qn (QC (by decide) hn) (by decide);have h0:Inv nd [0] [0]:=⟨by simp,λ x hx=>by rw[Qt] at hx;subst hx;exact .z,by simp,λ x hx=>hx,λ x hx=> .inl hx⟩
 obtain⟨ks,x,y,z,I,e⟩:=qCS K hn 100000 [0] [0] none none none h0 (by simp) (by simp;lia);refine⟨ks,I.nodup,qHH I,?_⟩;show Ev.run (Gm (K+3)) subC 7 [.setO 2 (.dct (.con (.int 0)) (.con (.bl true))),.setO 3 (.lst [(.con (.int 0))]),.whl (.e (.bor 3)) q6g,.retO 2] [ndD nd,nI (2^nd.length-1)]=_;generalize hW:ex (Gm (K+3)) subC (.whl (.e (.bor 3)) q6g)=W;have hw':=congrFun hW [some (.val (ndD nd)),some (.val (nI (2^nd.length-1))),some (.own (.dct (nL [0]) (trs 1))),some (.own (.lst (nL [0]))),none,none,none];rw[q5i] at hw';replace hw':=e.symm.trans hw';simp only[Ev.run,q0s,q0L,hW];have hb:(1:Nat)<=big:=by decide
 simp[hb];rw[show (D.int 0)=nI 0 from rfl];have hw2:W [some (.val (ndD nd)),some (.val (nI (2^nd.length-1))),some (.own (.dct [nI 0] [.bl true])),some (.own (.lst [nI 0])),none,none,none]=_:=hw'.symm;rw[hw2];simp
end Mk
namespace Mk
open Ev
variable {nd:List (List Nat)}
def iL (zs:List Int):List D:=zs.map D.int
@[simp] theorem iL_nil:iL []=[]:=rfl
@[simp] theorem q8r (z:Int) (l:List Int):iL (z::l) = .int z::iL l:=rfl
@[simp] theorem qK6 (l:List Int):(iL l).length=l.length:=Qh _
theorem qK7 (l:List Nat):nL l=iL (l.map λ (a:Nat)=>(a:Int)):=by simp[nL,iL,nI]
@[simp] theorem plN_iL (k:Nat) (l:List Int):(iL l).all (plN k)=true:=by simp[iL]
@[simp] theorem pl_ti (l:List Int):pl (.tup (iL l))=true:=by unfold pl;simp
@[simp] theorem plL_i (l:List Int):plL (iL l)=true:=q1R.mpr λ d hd=>by obtain⟨a,_,rfl⟩:=Qq.mp hd;rfl
@[simp] theorem hshL_i (l:List Int):q09 (iL l)=true:=q0Q.mpr λ d hd=>by obtain⟨a,_,rfl⟩:=Qq.mp hd;simp[q02]
@[simp] theorem qHI (a b:Int):eqb (.int a) (.int b)=decide (a=b):=by simp[eqb]
theorem qLm (l:List Int) (i:Int):(iL l).any (λ y=>eqb y (.int i))=decide (i∈l):=by
 induction l with
 |nil=>simp
 |cons a l ih =>
  rw[q8r,Q0,ih,qHI]
  by_cases h:a=i
  ·subst h;simp
  ·have:¬i=a:=λ e=>h e.symm;simp[h,this]
theorem qK8 (i:Int) (l:List Int):cmD .mem (.int i) (.tup (iL l)) = .ok (.bl (decide (i∈l))):=by have e2:cmD .mem (.int i) (.tup (iL l))=(memD (.int i) (.tup (iL l))).bind λ r=> .ok (.bl r):=rfl;rw[e2,memD];simp[qLm]
@[simp] theorem le_i (a b:Int):cmD .le (.int a) (.int b) = .ok (.bl (decide (a<=b))):=rfl
@[simp] theorem gt_i (a b:Int):cmD .gt (.int a) (.int b) = .ok (.bl (decide (b<a))):=rfl
@[simp] theorem ge_i (a b:Int):cmD .ge (.int a) (.int b) = .ok (.bl (!decide (a<b))):=by simp[cmD,q02,q0r,ltb]
@[simp] theorem lt_i (a b:Int):cmD .lt (.int a) (.int b) = .ok (.bl (decide (a<b))):=by simp[cmD,q02,q0r,ltb]
theorem q5T (k:Nat) (i:Int):Gm (k+1) 9 [.int i] = .ok (.bl true):=by show Ev.run (Gm k) subC 1 q2u [.int i]=_;simp[Ev.run,q2u]
def q0l (c:Int):Int->List Int->Bool
 |_,[]=>true
 |a,t::ts=>decide (a<t)&&decide (t<c)&&q0l c t ts
theorem q4q (k:Nat) (c:Int) (x:Option Sl):∀(zs:List Int) (a:Int) (y:Option Sl),∃a' y',q1D (exs (Gm (k+1)) subC q5N) 0 [3] (iL zs) [some (.val (.int c)),x,some (.val (.int a)),y] =
  .ok [some (.val (.int c)),x,a',y'] (if q0l c a zs=true then .nx else .ret (.bl false))
 |[],a,y=>⟨some (.val (.int a)),y,rfl⟩
 |t::zs,a,y=>by
  obtain⟨a',y',e⟩:=q4q k c x zs t (some (.val (.int t)));rw[q8r,q0R]
  by_cases h1:a<t
  ·by_cases h2:t<c
   ·refine⟨a',y',?_⟩;have h3:¬t<=a:=(by lia);have e0:q0l c a (t::zs)=q0l c t zs:=(by simp[q0l,h1,h2]);rw[e0,<-e];simp[q5N,q5T,h3,h2]
   ·have h3:¬t<=a:=(by lia);exact⟨some (.val (.int a)),some (.val (.int t)),by simp[q5N,q5T,h3,h2,q0l]⟩
  ·have h3:t<=a:=(by lia);exact⟨some (.val (.int a)),some (.val (.int t)),by simp[q5N,q5T,h3,h1,q0l]⟩
theorem qCT (k:Nat) (c:Int) (zs:List Int):Gm (k+2) 10 [.int c,.tup (iL zs)] = .ok (.bl (q0l c (-1) zs)):=by obtain⟨a',y',e⟩:=q4q k c (some (.val (.tup (iL zs)))) zs (-1) none;show Ev.run (Gm (k+1)) subC 4 [.ifs (.not (.e (.bi .isTup [(.var 1)]))) [.ret (.con (.bl false))] [],.set 2 (.neg (.con (.int 1))),.forr 0 [3] (.e (.var 1)) q5N,.ret (.con (.bl true))] [.int c,.tup (iL zs)]=_;have e':q1D (exs (Gm (k+1)) subC q5N) 0 [3] (iL zs) [some (.val (.int c)),some (.val (.tup (iL zs))),some (.val (.int (-1))),none]=_:=e;cases q:q0l c (-1) zs<;>simp[Ev.run,e',q]
abbrev Wy:=Int×Option (List Int)
def wyD:Wy->D
 |(t,some zs)=> .tup [.int t,.tup (iL zs)]
 |(t,none)=> .tup [.int t]
def wyB (c:Int):Wy->Bool
 |(t,some zs)=>decide (0<=t)&&decide (t<c)&&q0l c (-1) zs&&!decide (t∈zs)
 |_=>false
theorem nth0 (a:D) (l:List D):nth (a::l) 0 = .ok a:=by simp[nth]
theorem nth1 (a b:D) (l:List D):nth (a::b::l) 1 = .ok b:=by simp[nth]
theorem idx0 (a:D) (l:List D):idxD (.tup (a::l)) (.int 0) = .ok a:=nth0 a l
theorem idx1 (a b:D) (l:List D):idxD (.tup (a::b::l)) (.int 1) = .ok b:=nth1 a b l
theorem qLn (k:Nat) (c:Int) (w:Wy):Gm (k+3) 12 [.int c,wyD w]=if wyB c w=true then .ok .non else .err 1:=by
 show Ev.run (Gm (k+2)) subC 4 q1B [.int c,wyD w]=_;obtain⟨t,_|zs⟩:=w
 ·simp[Ev.run,q1B,wyD,wyB,num2]
 ·have e1:=q5T (k+1) t;have e2:=qCT k c zs
  by_cases h1:t<0
  ·have:¬0<=t:=(by lia);simp[Ev.run,q1B,wyD,wyB,num2,idx0,idx1,e1,e2,h1,this]
  ·have h1':0<=t:=by lia
   by_cases h2:t<c
   ·cases q:q0l c (-1) zs
    ·simp[Ev.run,q1B,wyD,wyB,num2,idx0,idx1,e1,e2,h1,h1',h2,q]
    ·by_cases h3:t∈zs<;>simp[Ev.run,q1B,wyD,wyB,num2,idx0,idx1,e1,e2,h1,h1',h2,q,qK8,h3]
   ·simp[Ev.run,q1B,wyD,wyB,num2,idx0,idx1,e1,e2,h1,h1',h2]
theorem q80 (k:Nat) (c:Int) (a b e:Option Sl):∀(ws:List Wy) (x:Option Sl),∃x',q1D (exs (Gm (k+3)) subC q5z) 0 [3] (ws.map wyD) [a,some (.val (.int c)),b,x,e] =
  if ws.all (wyB c)=true then .ok [a,some (.val (.int c)),b,x',e] .nx else .err 1 [a,some (.val (.int c)),b,x',e]
 |[],x=>⟨x,rfl⟩
 |w::ws,x=>by
  have e1:=qLn k c w;rw[Qx,q0R];cases q:wyB c w
  ·refine⟨some (.val (wyD w)),?_⟩;simp[q5z,e1,q]
  ·obtain⟨x',e2⟩:=q80 k c a b e ws (some (.val (wyD w)));refine⟨x',?_⟩;rw[List.all_cons,q,Bool.true_and,<-e2];simp[q5z,e1,q]
theorem qFM:∀(a b:List Int),q0w (iL a) (iL b)=true
 |[],_=>by simp[q0w]
 |_::_,[]=>by simp[q0w]
 |a::l,b::m=>by
  simp only[q8r,q0w,qHI];split
  ·exact qFM l m
  ·simp[q0r]
def wyW:Wy->Bool
 |(_,some _)=>true
 |_=>false
theorem qK9 {c:Int}{w:Wy}(h:wyB c w=true):wyW w=true:=by
 obtain⟨t,_|zs⟩:=w
 ·simp[wyB] at h
 ·rfl
theorem qEN (w:Wy):pl (wyD w)=true:=by
 obtain⟨t,_|zs⟩:=w
 ·rfl
 ·unfold pl wyD;simp
theorem qCU (w:Wy):q02 (wyD w)=true:=by obtain⟨t,_|zs⟩:=w<;>simp[wyD,q02,q09]
theorem qFN (v w:Wy) (hv:wyW v=true) (hw:wyW w=true):q0r (wyD v) (wyD w)=true:=by
 obtain⟨t,_|zs⟩:=v
 ·cases hv
 obtain⟨u,_|ys⟩:=w
 ·cases hw
 simp only[wyD,q0r,q0w,qHI];split
 ·split
  ·rfl
  ·simp[q0r,qFM]
 ·simp[q0r]
theorem qLo (v w:Wy) (hv:wyW v=true) (hw:wyW w=true):cmD .ge (wyD v) (wyD w) = .ok (.bl (!ltb (wyD v) (wyD w))):=by
 have h:cmD .ge (wyD v) (wyD w)=if pl (wyD v)&&pl (wyD w)&&q02 (wyD v)&&q02 (wyD w)&&q0r (wyD v) (wyD w) then .ok (.bl (!ltb (wyD v) (wyD w))) else .stuck:=rfl
 rw[h,qEN,qEN,qCU,qCU,qFN v w hv hw];rfl
open Classical in
theorem q81 {G:Nat->List D->R D}(a b e:Option Sl) (ws:List Wy) (hw:∀w∈ws,wyW w=true):∀(ps:List Nat) (x:Option Sl),(∀p∈ps,p+1<ws.length)->∃x',q1D (exs G subC q60) 0 [4] (nL (ps.map (·+1))) [a,b,some (.val (.lst (ws.map wyD))),e,x] =
  if (∀p∈ps,∀v w,ws[p]? = some v->ws[p+1]? = some w->ltb (wyD v) (wyD w)=true) then .ok [a,b,some (.val (.lst (ws.map wyD))),e,x'] .nx else .err 1 [a,b,some (.val (.lst (ws.map wyD))),e,x']
 |[],x,_=>⟨x,by simp[q1k]⟩
 |p::ps,x,hp=>by
  have h1:=hp p Qb;obtain⟨v,hv⟩:∃v,ws[p]? = some v:=⟨_,Ql (by lia)⟩
  obtain⟨w,hw2⟩:∃w,ws[p+1]? = some w:=⟨_,Ql h1⟩
  have e1:idxD (.lst (ws.map wyD)) (nI p) = .ok (wyD v):=q7O _ _ _ (by rw[Qs,hv];rfl);have e2:idxD (.lst (ws.map wyD)) (nI (p+1)) = .ok (wyD w):=q7O _ _ _ (by rw[Qs,hw2];rfl);have e3:=qLo v w (hw v (Qk hv)) (hw w (Qk hw2));have e4:opD .sub (nI (p+1)) (nI 1) = .ok (nI p):=qIm _ _ (by lia);rw[Qx,q1J,q0R]
  by_cases q:ltb (wyD v) (wyD w)=true
  ·obtain⟨x',e5⟩:=q81 (G:=G) a b e ws hw ps (some (.val (nI (p+1)))) λ r hr=>hp r (Qa _ hr);refine⟨x',?_⟩;have e6:(∀r∈p::ps,∀v w,ws[r]? = some v->ws[r+1]? = some w->ltb (wyD v) (wyD w)=true)↔(∀r∈ps,∀v w,ws[r]? = some v->ws[r+1]? = some w->ltb (wyD v) (wyD w)=true):=by rw[Jf];exact⟨λ h=>h.2,λ h=>⟨λ v' w' a1 a2=>by rw[hv] at a1;rw[hw2] at a2;cases a1;cases a2;exact q,h⟩⟩
   simp only[e6];rw[<-e5];simp[q60,num1,e4,e1,e2,e3,q]
  ·refine⟨some (.val (nI (p+1))),?_⟩;rw[if_neg λ h=>q (h p Qb v w hv hw2)];simp[q60,num1,e4,e1,e2,e3,q]
def rulD (n:Int) (ws:List Wy):D:= .tup [.int n,.lst (ws.map wyD)]
def Rise (ws:List Wy):Prop:=∀p,p+1<ws.length->∀v w,ws[p]? = some v->ws[p+1]? = some w->ltb (wyD v) (wyD w)=true
theorem rng2 (l:Nat) (h:l<2^60):rngD [.int 1,nI l] = .ok (nL ((Qg (l-1)).map (·+1))):=by
 unfold rngD nI;simp only;rw[if_pos (by lia)];congr 1;have:((l:Int)-1).toNat=l-1:=by lia
 rw[this];simp only[nL,Jv];refine List.map_congr_left λ a _=>?_;simp only[Function.comp,nI];congr 1;lia
theorem len_eq (ws:List Wy):(ws.map wyD).length=ws.length:=Qh _
section
variable {G:Nat->List D->R D}
theorem qLp (a b:D) (ρ:Env):ex G subC q9u (some (.val (.tup [a,b]))::ρ) = .ok (some (.val (.tup [a,b]))::ρ) .nx:=by simp[q9u,num2]
theorem qLq (h9:∀i,G 9 [.int i] = .ok (.bl true)) (x:Option Sl) (n:Int) (ρ:Env):ex G subC q61 (x::some (.val (.int n))::ρ)=if 0<=n/\n<=10 then .ok (x::some (.val (.int n))::ρ) .nx else .err 1 (x::some (.val (.int n))::ρ):=by
 by_cases h0:n<0
 ·have:¬0<=n:=by lia
  simp[q61,h9,h0,this]
 have h0':0<=n:=by lia
 by_cases h1:10<n
 ·have:¬n<=10:=by lia
  simp[q61,h9,h0,h0',h1,this]
 have h1':n<=10:=by lia
 simp[q61,h9,h0,h0',h1,h1']
theorem qLr (x y:Option Sl) (l:List D) (ρ:Env) (h:l.length<=1300):ex G subC q9v (x::y::some (.val (.lst l))::ρ) = .ok (x::y::some (.val (.lst l))::ρ) .nx:=by
 have h3:decide ((1300:Int)<(l.length:Int))=false:=decide_eq_false (by lia);have e:cmD .gt (nI l.length) (.int 1300) = .ok (.bl false):=by rw[nI,gt_i,h3]
 simp[q9v,e]
end
open Classical in
theorem qKA {G:Nat->List D->R D}(a b e:Option Sl) (ws:List Wy) (hl:ws.length<=1300) (hw:∀w∈ws,wyW w=true):∃x',ex G subC (.forr 0 [4] (.rng [(.con (.int 1)),(.bi .len [(.var 2)])]) q60) [a,b,some (.val (.lst (ws.map wyD))),e,none] =
  if Rise ws then .ok [a,b,some (.val (.lst (ws.map wyD))),e,x'] .nx else .err 1 [a,b,some (.val (.lst (ws.map wyD))),e,x']:=by
 obtain⟨x2,e3⟩:=q81 (G:=G) a b e ws hw (Qg (ws.length-1)) none (λ p hp=>by rw[QE] at hp;lia);refine⟨x2,?_⟩;have e4:=rng2 ws.length (Jc hl (by decide));have e5:(∀p∈Qg (ws.length-1),∀v w,ws[p]? = some v->ws[p+1]? = some w->ltb (wyD v) (wyD w)=true)↔Rise ws :=
  ⟨λ h p hp=>h p (QE.mpr (by lia)),λ h p hp=>h p (by rw[QE] at hp;lia)⟩
 have e7:evi G subC (.rng [(.con (.int 1)),(.bi .len [(.var 2)])]) [a,b,some (.val (.lst (ws.map wyD))),e,none] = .ok (nL ((Qg (ws.length-1)).map (·+1))):=by have e8:evs G subC [(.con (.int 1)),(.bi .len [(.var 2)])] [a,b,some (.val (.lst (ws.map wyD))),e,none] = .ok [.int 1,nI (ws.map wyD).length]:=rfl;rw[q1Q,e8,q00,len_eq,e4]
 rw[q2E,e7,q04,e3]
 by_cases r:Rise ws
 ·rw[if_pos (e5.mpr r),if_pos r]
 ·rw[if_neg (λ g=>r (e5.mp g)),if_neg r]
open Classical in
theorem qKB (k:Nat) (n:Int) (ws:List Wy) (hl:ws.length<=1300):Gm (k+4) 11 [rulD n ws]=if (0<=n/\n<=10)/\ws.all (wyB n)=true/\Rise ws then .ok .non else .err 1:=by
 have e1:=q5T (k+2);show Ev.run (Gm (k+3)) subC 5 [q9u,.set 1 (.idx (.var 0) (.con (.int 0))),.set 2 (.idx (.var 0) (.con (.int 1))),q61,q9v,.forr 0 [3] (.e (.var 2)) q5z,.forr 0 [4] (.rng [(.con (.int 1)),(.bi .len [(.var 2)])]) q60] [rulD n ws]=_;have hl':(ws.map wyD).length<=1300:=by rw[len_eq];exact hl
 simp only[Ev.run,q0s,q0L,rulD,qBN,qDV,List.cons_append,List.nil_append,qLp,q5a,q0F,q25,q1U,q0I,q9G,List.getElem?_cons_zero,q00,idx0,idx1,q04,Qo,Q5,Qe,QY,QZ,Nat.reduceAdd,Nat.reduceSub,qLq e1]
 by_cases h:0<=n/\n<=10
 ·simp only[if_pos h,q5a,qLr _ _ _ _ hl'];obtain⟨x1,e2⟩:=q80 k n (some (.val (rulD n ws))) (some (.val (.lst (ws.map wyD)))) none ws none;unfold rulD at e2;have e8:ex (Gm (k+3)) subC (.forr 0 [3] (.e (.var 2)) q5z) [some (.val (.tup [.int n,.lst (ws.map wyD)])),some (.val (.int n)),some (.val (.lst (ws.map wyD))),none,none]=_:=e2;rw[e8];cases q:ws.all (wyB n)
  ·simp
  ·have hw:∀w∈ws,wyW w=true:=λ w hw=>qK9 (Qw.mp q w hw);obtain⟨x2,e3⟩:=qKA (G:=Gm (k+3)) (some (.val (rulD n ws))) (some (.val (.int n))) x1 ws hl hw;unfold rulD at e3;rw[if_pos rfl,q5a,e3]
   by_cases r:Rise ws
   ·rw[if_pos r,if_pos ⟨h,rfl,r⟩,q5a]
   ·rw[if_neg r,if_neg λ g=>r g.2.2,qEt]
 ·rw[if_neg h,if_neg λ g=>h g.1,qEt]
end Mk
namespace Mk
open Ev
abbrev Wn:=Nat×List Nat
def toW (w:Wn):Wy:=((w.1:Int),some (w.2.map λ (a:Nat)=>(a:Int)))
def wD (w:Wn):D:= .tup [nI w.1,.tup (nL w.2)]
theorem q4J (w:Wn):wyD (toW w)=wD w:=by unfold wyD toW wD;rw[qK7];rfl
theorem q8s (ws:List Wn):(ws.map toW).map wyD=ws.map wD:=by rw[Jv];exact List.map_congr_left λ w _=>q4J w
def rD (n:Nat) (ws:List Wn):D:= .tup [nI n,.lst (ws.map wD)]
theorem qLs (n:Nat) (ws:List Wn):rD n ws=rulD n (ws.map toW):=by unfold rD rulD;rw[q8s];rfl
structure Good (n:Nat) (ws:List Wn):Prop where
 n5:n<=5
 len:ws.length<=60
 ok:∀w∈ws,wyB n (toW w)=true
 rise:Rise (ws.map toW)
theorem q82 {c:Int}:∀{zs:List Int}{a:Int},q0l c a zs=true↔(a::zs).Pairwise (· < ·)/\∀z∈zs,z<c
 |[],a=>by simp[q0l]
 |t::zs,a=>by
  rw[q0l,Qd,Qd,q82 (zs:=zs) (a:=t),decide_eq_true_eq,decide_eq_true_eq];constructor
  ·rintro⟨⟨h1,h2⟩,h3,h4⟩;refine⟨QF.mpr ⟨λ z hz=>?_,h3⟩,λ z hz=>?_⟩
   ·rcases Qf.mp hz with rfl|hz
    ·exact h1
    ·exact Int.lt_trans h1 ((QF.mp h3).1 z hz)
   ·rcases Qf.mp hz with rfl|hz
    ·exact h2
    ·exact h4 z hz
  ·rintro⟨h1,h2⟩;have h3:=QF.mp h1;exact⟨⟨h3.1 t Qb,h2 t Qb⟩,h3.2,λ z hz=>h2 z (Qa _ hz)⟩
def Ris (n:Nat) (l:List Nat):Prop:=l.Pairwise (· < ·)/\∀x∈l,x<n
theorem qCV {n:Nat}{l:List Nat}:q0l n (-1) (l.map λ (a:Nat)=>(a:Int))=true↔Ris n l:=by
 rw[q82,QF,Jh];constructor
 ·rintro⟨⟨_,h1⟩,h2⟩;exact⟨h1.imp λ h=>by lia,λ x hx=>by have:=h2 x (Qq.mpr ⟨x,hx,rfl⟩);lia⟩
 ·rintro⟨h1,h2⟩;refine⟨⟨λ z hz=>?_,h1.imp λ h=>by lia⟩,λ z hz=>?_⟩
  ·obtain⟨x,hx,rfl⟩:=Qq.mp hz;show (-1:Int)<(x:Int);lia
  ·obtain⟨x,hx,rfl⟩:=Qq.mp hz;have:=h2 x hx;show (x:Int)<(n:Int);lia
theorem qEO {n:Nat}{w:Wn}:wyB n (toW w)=true↔w.1<n/\Ris n w.2/\w.1∉w.2:=by
 unfold wyB toW;simp only[Qd,qCV,decide_eq_true_eq,Bool.not_eq_true',decide_eq_false_iff_not,Qq];constructor
 ·rintro⟨⟨⟨h1,h2⟩,h3⟩,h4⟩;exact⟨by lia,h3,λ h=>h4 ⟨w.1,h,rfl⟩⟩
 ·rintro⟨h1,h2,h3⟩;refine⟨⟨⟨by lia,by lia⟩,h2⟩,λ⟨x,hx,e⟩=>h3 ?_⟩;have:x=w.1:=by lia
  exact this▸hx
section
variable {n:Nat}{ws:List Wn}(g:Good n ws)
include g
theorem q83 (k:Nat):Gm (k+4) 11 [rD n ws] = .ok .non:=by rw[qLs,qKB k n (ws.map toW) (by rw[Qh];have:=g.len;lia)];have:=g.n5;refine if_pos ⟨⟨by lia,by lia⟩,?_,g.rise⟩;rw[List.all_map];exact Qw.mpr λ w hw=>g.ok w hw
end
theorem q6j {n m:Nat}(h:m<2^n):Ris n (q01 m) :=
 ⟨List.Pairwise.filter _ Q2,λ x hx=>q64 h (q06.mp hx)⟩
theorem q2A (m:Nat):q03 0 (q01 m)=m:=QV λ i=>by
 rw[q1b];cases q:m.testBit i with
 |false=>exact decide_eq_false λ h=>by rw[q06,q] at h;cases h
 |true=>exact decide_eq_true (q06.mpr q)
theorem q6k {a b:Nat}(h:q01 a=q01 b):a=b:=by rw[<-q2A a,h,q2A]
def q4K (xss:List (List Nat)) (w:Wn):List (List Nat):=xss.set w.1 (xss.getD w.1 []++[q03 0 w.2])
def nds (n:Nat) (ws:List Wn):List (List Nat):=ws.foldl q4K (Qe n [])
theorem q5U (xss:List (List Nat)) (w:Wn):(q4K xss w).length=xss.length:=List.length_set
theorem q84:∀(ws:List Wn) (xss:List (List Nat)),(ws.foldl q4K xss).length=xss.length
 |[],_=>rfl
 |w::ws,xss=>by rw[List.foldl_cons,q84 ws,q5U]
theorem q0j (n:Nat) (ws:List Wn):(nds n ws).length=n:=by unfold nds;rw[q84,Q4]
theorem q85 (t x:Nat):∀(ws:List Wn) (xss:List (List Nat)),(∀w∈ws,w.1<xss.length)->(x∈(ws.foldl q4K xss).getD t []↔x∈xss.getD t []\/∃w∈ws,w.1=t/\x=q03 0 w.2)
 |[],xss,_=>by simp
 |w::ws,xss,h=>by
  have h1:=h w Qb;rw[List.foldl_cons,q85 t x ws (q4K xss w) λ v hv=>by rw[q5U];exact h v (Qa _ hv)];have e:x∈(q4K xss w).getD t []↔x∈xss.getD t []\/(w.1=t/\x=q03 0 w.2):=by
   unfold q4K
   by_cases q:w.1=t
   ·subst q;simp[Jm,h1]
   ·simp[Jm,Je q,q]
  rw[e];simp only[Qf,exists_eq_or_imp,or_assoc]
theorem qHJ {n:Nat}{ws:List Wn}(h:∀w∈ws,w.1<n) (k t:Nat):mayL (nds n ws) k t=(!k.testBit t&&ws.any λ w=>decide (w.1=t)&&w.2.all k.testBit):=by
 unfold mayL;congr 1;rw[QB,Q1,Q1];have hm:∀x,x∈(nds n ws).getD t []↔∃w∈ws,w.1=t/\x=q03 0 w.2:=λ x=>by
  unfold nds;rw[q85 t x ws _ λ w hw=>by rw[Q4];exact h w hw];have:(Qe n ([]:List Nat)).getD t []=[]:=by
   by_cases q:t<n<;>simp[Jm,q]
  rw[this];simp
 have hs:∀s:List Nat,Sm (q03 0 s) k↔s.all k.testBit=true:=λ s=>by rw[Qw];exact⟨λ g e he=>g e (by rw[q1b];exact decide_eq_true he),λ g i hi=>g i (by rw[q1b] at hi;exact of_decide_eq_true hi)⟩
 constructor
 ·rintro⟨x,hx,e⟩;obtain⟨w,hw,h1,h2⟩:=(hm x).mp hx;refine⟨w,hw,?_⟩;rw[beq_iff_eq,q4H,h2,hs] at e;simp[h1,e]
 ·rintro⟨w,hw,e⟩;rw[Qd,decide_eq_true_eq] at e;exact⟨q03 0 w.2,(hm _).mpr ⟨w,hw,e.1,rfl⟩,by rw[beq_iff_eq,q4H,hs];exact e.2⟩
theorem qCW {G:Nat->List D->R D}{ρ:Env}{i:Nat}{a b:L}{xss:List (List D)}{t:Nat}{ys:List D}{d:D}(h1:ρ[i]? = some (some (.own2 xss))) (h2:ev G subC a ρ = .ok (nI t)) (h3:xss[t]? = some ys) (h4:ev G subC b ρ = .ok d) (h5:ys.length<big) :
  ex G subC (.app2 i a b) ρ = .ok (ρ.set i (some (.own2 (xss.set t (ys++[d]))))) .nx:=by
 rw[qG5,h1];simp only[h2,q04];show (if 0<=(t:Int) then (match xss[((t:Int)).toNat]? with
       |some ys=>(ev G subC b ρ).go ρ λ d=>if ys.length<big then .ok (ρ.set i (some (.own2 (xss.set ((t:Int)).toNat (ys++[d]))))) .nx else .stuck
       |none=> .stuck) else .stuck)=_
 rw[if_pos (by lia)];simp only[Int.toNat_natCast,h3,h4,q04];rw[if_pos h5]
theorem qA4 (k:Nat) (x:Option Sl):∀(ws:List Wn) (xss:List (List Nat)) (y:Option Sl),(∀w∈ws,w.1<xss.length/\∀e∈w.2,e<=1000)->(∀l∈xss,l.length+ws.length<=1000)->
  ∃y',q1D (exs (Gm (k+1)) subC qCM) 0 [2] (ws.map wD) [x,some (.own2 (xss.map nL)),y] = .ok [x,some (.own2 ((ws.foldl q4K xss).map nL)),y'] .nx
 |[],xss,y,_,_=>⟨y,rfl⟩
 |w::ws,xss,y,h,hl=>by
  have h1:=h w Qb;have hg:xss.getD w.1 []=xss[w.1]'h1.1:=by simp[Jm,h1.1]
  have hm:xss.getD w.1 []∈xss:=by rw[hg];exact QW _
  have hl2:=hl _ hm;simp only[Qo] at hl hl2;obtain⟨y',e⟩:=qA4 k x ws (q4K xss w) (some (.val (wD w))) (λ v hv=>by rw[q5U];exact h v (Qa _ hv)) (λ l hm2=>by
   unfold q4K at hm2;rcases List.mem_or_eq_of_mem_set hm2 with q|q
   ·have:=hl l q;lia
   ·rw[q,QA,QN];lia)
  refine⟨y',?_⟩;rw[Qx,q0R,List.foldl_cons,<-e];have e1:=q7x k w.2 h1.2 (.tup (nL w.2)) (.inl rfl);have e2:=qCW (G:=Gm (k+1)) (ρ:=[x,some (.own2 (xss.map nL)),some (.val (wD w))]) (i:=1) (a:= .idx (.var 2) (.con (.int 0))) (b:= .call 0 [(.idx (.var 2) (.con (.int 1)))]) (xss:=xss.map nL) (t:=w.1) (ys:=nL (xss.getD w.1 [])) (d:=nI (q03 0 w.2)) rfl (by simp[wD,idx0]) (by rw[Qs,Ql h1.1,hg];rfl) (by simp[wD,idx1,e1]) (by rw[q0X,q0K];lia);have e3:(xss.map nL).set w.1 (nL (xss.getD w.1 [])++[nI (q03 0 w.2)])=(q4K xss w).map nL:=by unfold q4K;rw[List.map_set];simp
  rw[e3] at e2;simp only[qCM,q0s,q0L,QY,QZ] at e2 |-;rw[e2];rfl
section
variable {n:Nat}{ws:List Wn}(g:Good n ws)
include g
theorem qHK:∀w∈ws,w.1<n:=λ w hw=>(qEO.mp (g.ok w hw)).1
theorem q2B (k:Nat):Gm (k+2) 4 [rD n ws] = .ok (ndD (nds n ws)):=by
 have hn:=g.n5;obtain⟨y',e⟩:=qA4 k (some (.val (rD n ws))) ws (Qe n []) none (λ w hw=>by
  have h:=qEO.mp (g.ok w hw);rw[Q4];exact⟨h.1,λ e he=>by have:=h.2.1.2 e he;lia⟩) (λ l hl=>by
  rw[List.eq_of_mem_replicate hl];have:=g.len;simp;lia)
 have e0:((Qe n ([]:List Nat)).map nL)=Qe n []:=by rw[List.map_replicate];rfl
 rw[e0] at e;show Ev.run (Gm (k+1)) subC 3 [.setE 1 (.idx (.var 0) (.con (.int 0))),.forr 0 [2] (.e (.idx (.var 0) (.con (.int 1)))) qCM,.retO 1] [rD n ws]=_;have e1:ex (Gm (k+1)) subC (.setE 1 (.idx (.var 0) (.con (.int 0)))) [some (.val (rD n ws)),none,none] = .ok [some (.val (rD n ws)),some (.own2 (Qe n [])),none] .nx:=by
  have:ev (Gm (k+1)) subC (.idx (.var 0) (.con (.int 0))) [some (.val (rD n ws)),none,none] = .ok (nI n):=by simp[rD,idx0]
  rw[qG4,this,q04];show (if 0<=(n:Int)/\(n:Int)<=1000 then _ else _)=_;rw[if_pos (by lia)];rfl
 have e2:ex (Gm (k+1)) subC (.forr 0 [2] (.e (.idx (.var 0) (.con (.int 1)))) qCM) [some (.val (rD n ws)),some (.own2 (Qe n [])),none] = .ok [some (.val (rD n ws)),some (.own2 ((ws.foldl q4K (Qe n [])).map nL)),y'] .nx:=by
  have:evi (Gm (k+1)) subC (.e (.idx (.var 0) (.con (.int 1)))) [some (.val (rD n ws)),some (.own2 (Qe n [])),none] = .ok (ws.map wD):=by simp[rD,idx1]
  rw[q2E,this,q04,e]
 have e3:vals [rD n ws]++Qe (3 - [rD n ws].length) none=[some (.val (rD n ws)),none,none]:=rfl;simp only[Ev.run,q0s,q0L,e3,e1,e2,q5a];simp[nds,ndD]
theorem q4g (k:Nat) (zs:List Int):Gm (k+5) 13 [rD n ws,.tup (iL zs)]=if q0l n (-1) zs=true then .ok .non else .err 2:=by show Ev.run (Gm (k+4)) subC 2 q2v [rD n ws,.tup (iL zs)]=_;have e1:=q83 g k;have e2:=qCT (k+2) n zs;have e3:idxD (rD n ws) (.int 0) = .ok (.int n):=idx0 _ _;cases q:q0l n (-1) zs<;>simp[Ev.run,q2v,e1,e2,e3,q]
theorem qA5 (k m:Nat) (hm:m<2^n):Gm (k+5) 13 [rD n ws,.tup (nL (q01 m))] = .ok .non:=by rw[qK7,q4g g,if_pos (qCV.mpr (q6j hm))]
theorem q4L {m:Nat}(hm:m<2^n):∀t∈q01 m,t<=1000:=λ t ht=>by have:=q64 hm (q06.mp ht);have:=g.n5;lia
theorem qCX (k m:Nat) (hm:m<2^n):Gm (k+6) 15 [rD n ws,.tup (nL (q01 m))] = .ok (.lst (nL (q0G (nds n ws) m (2^n-1)))):=by have hn:=g.n5;show Ev.run (Gm (k+5)) subC 2 q1Z [rD n ws,.tup (nL (q01 m))]=_;have e1:=qA5 g k m hm;have e2:=q2B g (k+3);have e3:=q7x (k+4) (q01 m) (q4L g hm) _ (.inl rfl);rw[q2A] at e3;have e4:=qK4 (k+4) n (by lia);have e5:=q5R (k+2) (nds n ws) m (2^n-1) (by rw[q0j];have:=Nat.one_le_two_pow (n:=n);lia) (by rw[q0j];lia);have e6:idxD (rD n ws) (.int 0) = .ok (nI n):=idx0 _ _;simp[Ev.run,q1Z,e1,e2,e3,e4,e5,e6]
theorem qCY (k m:Nat) (hm:m<2^n):∃c,q7y (nds n ws) m c/\Gm (k+6) 17 [rD n ws,.tup (nL (q01 m))] = .ok (.tup (nL (q01 c))):=by have hn:=g.n5;obtain⟨c,hc,e5⟩:=qK5 (nd:=nds n ws) (k+1) m (by rw[q0j];exact hm) (by rw[q0j];lia);refine⟨c,hc,?_⟩;show Ev.run (Gm (k+5)) subC 2 q5Q [rD n ws,.tup (nL (q01 m))]=_;have e1:=qA5 g k m hm;have e2:=q2B g (k+3);have e3:=q7x (k+4) (q01 m) (q4L g hm) _ (.inl rfl);rw[q2A] at e3;have hc2:=q1H hc.1;rw[q0j] at hc2;have e4:=q3s (k+3) c (Qp hc2 (QC (by decide) (by lia)));simp[Ev.run,q5Q,e1,e2,e3,e4,e5]
theorem q4h (k m:Nat) (hm:m<2^n):∃c,q7y (nds n ws) m c/\Gm (k+7) 16 [rD n ws,.tup (nL (q01 m))] = .ok (.bl (decide (c=m))):=by
 obtain⟨c,hc,e⟩:=qCY g k m hm;refine⟨c,hc,?_⟩;show Ev.run (Gm (k+6)) subC 2 q1L [rD n ws,.tup (nL (q01 m))]=_;have e1:cmD .eq (.tup (nL (q01 c))) (.tup (nL (q01 m))) = .ok (.bl (decide (c=m))):=by
  have:cmD .eq (.tup (nL (q01 c))) (.tup (nL (q01 m)))=if pl (.tup (nL (q01 c)))&&pl (.tup (nL (q01 m))) then .ok (.bl (eqb (.tup (nL (q01 c))) (.tup (nL (q01 m))))) else .stuck:=by simp[cmD]
  rw[this,qDT,qDT,q7L];have:decide (q01 c=q01 m)=decide (c=m):=decide_eq_decide.mpr ⟨q6k,λ h=>by rw[h]⟩;rw[this];rfl
 simp[Ev.run,q1L,e,e1]
end
end Mk
namespace Mk
open Ev
variable {n:Nat}
noncomputable def q13:Nat->List Nat
 |0=>[0]
 |1=>[0,1]
 |2=>[0,1,2,3]
 |3=>[0,1,2,4,3,5,6,7]
 |4=>[0,1,2,4,8,3,5,9,6,10,12,7,11,13,14,15]
 |5=>[0,1,2,4,8,16,3,5,9,17,6,10,18,12,20,24,7,11,19,13,21,25,14,22,26,28,15,23,27,29,30,31]
 |_=>[]
def tD (m:Nat):D:= .tup (nL (q01 m))
theorem le5 {P:Nat->Prop}(h:n<=5) (h0:P 0) (h1:P 1) (h2:P 2) (h3:P 3) (h4:P 4) (h5:P 5):P n:=by
 match n,h with
 |0,_=>exact h0
 |1,_=>exact h1
 |2,_=>exact h2
 |3,_=>exact h3
 |4,_=>exact h4
 |5,_=>exact h5
theorem q2K (h:n<=5):∀m,m∈q13 n↔m<2^n:=by have a:∀x∈q13 n,x<2^n:=le5 (P:=λ n=>∀x∈q13 n,x<2^n) h (by decide) (by decide) (by decide) (by decide) (by decide) (by decide);have b:∀x,x<2^n->x∈q13 n:=le5 (P:=λ n=>∀x,x<2^n->x∈q13 n) h (by decide) (by decide) (by decide) (by decide) (by decide +kernel) (by decide +kernel);exact λ m=>⟨a m,b m⟩
theorem q2C (h:n<=5):(q13 n).Nodup :=
 le5 (P:=λ n=>(q13 n).Nodup) h (by decide) (by decide) (by decide) (by decide +kernel) (by decide +kernel) (by decide +kernel)
theorem qEP (h:n<=5):(q13 n).Pairwise λ a b=>¬b &&& a=b :=
 le5 (P:=λ n=>(q13 n).Pairwise λ a b=>¬b &&& a=b) h (by decide) (by decide) (by decide) (by decide +kernel) (by decide +kernel) (by decide +kernel)
theorem qCZ (h:n<=5):∃ms,q13 n=0::ms :=
 le5 (P:=λ n=>∃ms,q13 n=0::ms) h ⟨_,rfl⟩ ⟨_,rfl⟩ ⟨_,rfl⟩ ⟨_,rfl⟩ ⟨_,rfl⟩ ⟨_,rfl⟩
theorem qCa (G:Nat->List D->R D):Ev.run G subC 3 q0u [nI 0] = .ok (.lst ((q13 0).map tD)):=by kernel_rfl
theorem qCb (G:Nat->List D->R D):Ev.run G subC 3 q0u [nI 1] = .ok (.lst ((q13 1).map tD)):=by kernel_rfl
theorem qCc (G:Nat->List D->R D):Ev.run G subC 3 q0u [nI 2] = .ok (.lst ((q13 2).map tD)):=by kernel_rfl
theorem qCd (G:Nat->List D->R D):Ev.run G subC 3 q0u [nI 3] = .ok (.lst ((q13 3).map tD)):=by kernel_rfl
theorem qCe (G:Nat->List D->R D):Ev.run G subC 3 q0u [nI 4] = .ok (.lst ((q13 4).map tD)):=by kernel_rfl
theorem qCf (G:Nat->List D->R D):Ev.run G subC 3 q0u [nI 5] = .ok (.lst ((q13 5).map tD)):=by kernel_rfl
theorem q1S (k f:Nat) (xs:List D) (a b:Nat) (l:List S) (h:dsM[f]? = some (a,b,l,false)) (hl:xs.length=a):Gm (k+1) f xs=Ev.run (Gm k) subC b l xs:=by rw[Gm,h];exact (if_pos hl).trans (if_neg nofun)
theorem qFO (k:Nat) (h:n<=5):Gm (k+1) 28 [nI n] = .ok (.lst ((q13 n).map tD)):=by
 have e:Gm (k+1) 28 [nI n]=Ev.run (Gm k) subC 3 q0u [nI n]:=q1S k 28 _ 1 3 _ rfl rfl;refine e.trans ?_;clear e
 match n,h with
 |0,_=>exact qCa _
 |1,_=>exact qCb _
 |2,_=>exact qCc _
 |3,_=>exact qCd _
 |4,_=>exact qCe _
 |5,_=>exact qCf _
end Mk
namespace Mk
open Ev
variable {G:Nat->List D->R D}{l:List S}{ρ ρ':Env}
theorem q05 {s:S}(h:ex G subC s ρ = .ok ρ' .nx):exs G subC (s::l) ρ=exs G subC l ρ':=by rw[q0s,h,q5a]
theorem q0z {s:S}{d:D}(h:ex G subC s ρ = .ok ρ' (.ret d)):exs G subC (s::l) ρ = .ok ρ' (.ret d):=by rw[q0s,h,qIW]
theorem q1T {n:Nat}{ds:List D}{d:D}(h0:vals ds++Qe (n-ds.length) none=ρ) (h:exs G subC l ρ = .ok ρ' (.ret d)):Ev.run G subC n l ds = .ok d:=by unfold Ev.run;rw[h0,h]
theorem q0J {α:Type}{elt:Env->R D}{cond:Env->R Bool}{k:Nat}{ρ:Env}{f g:α->D}{us:α->List D}{p:α->Bool}:∀{xs:List α},
  (∀x∈xs,unp k (f x) = .ok (us x)/\cond (vals (us x)++ρ) = .ok (p x)/\(p x=true->elt (vals (us x)++ρ) = .ok (g x)))->q0O elt cond k ρ (xs.map f) = .ok ((xs.filter p).map g)
 |[],_=>rfl
 |x::xs,h=>by
  obtain⟨h1,h2,h3⟩:=h x Qb;have ih:=q0J (elt:=elt) (cond:=cond) (k:=k) (ρ:=ρ) (f:=f) (g:=g) (us:=us) (p:=p) (xs:=xs) λ e he=>h e (Qa _ he);rw[Qx,q0O,h1,q00,h2,q00];cases hp:p x with
  |true=>rw[if_pos rfl,h3 hp,q00,ih];simp[QS,hp]
  |false=>rw[if_neg (by simp),ih];simp[QS,hp]
theorem qCg (i:Nat) (l:List Nat):cmD .mem (nI i) (.tup (nL l)) = .ok (.bl (decide (i∈l))):=by have e2:cmD .mem (nI i) (.tup (nL l))=(memD (nI i) (.tup (nL l))).bind λ r=> .ok (.bl r):=rfl;rw[e2,memD];simp[qCR]
theorem qKC (i:Nat) (l:List Nat):cmD .mem (nI i) (.lst (nL l)) = .ok (.bl (decide (i∈l))):=by have e2:cmD .mem (nI i) (.lst (nL l))=(memD (nI i) (.lst (nL l))).bind λ r=> .ok (.bl r):=rfl;rw[e2,memD];simp[qCR]
theorem q8t (i:Nat) (l:List Nat):cmD .nmem (nI i) (.tup (nL l)) = .ok (.bl (!decide (i∈l))):=by have e2:cmD .nmem (nI i) (.tup (nL l))=(memD (nI i) (.tup (nL l))).bind λ r=> .ok (.bl (!r)):=rfl;rw[e2,memD];simp[qCR]
theorem q86 {α:Type}(f:α->Bool):∀l:List α,bools? (l.map λ x=>D.bl (f x))=some (l.map f)
 |[]=>rfl
 |x::l=>by simp[bools?,q86 f l]
theorem filter_tt {α:Type}(l:List α):l.filter (λ _=>true)=l:=List.filter_eq_self.mpr λ _ _=>rfl
theorem qKD (l:List Nat):nL l=l.map nI:=rfl
theorem qEQ (i j:Nat) (l s:List Nat) (hl:l.length<=1000) (h1:ρ[i]? = some (some (.val (.tup (nL l))))) (h2:ρ[j]? = some (some (.val (.tup (nL s))))) :
  ev G subC (.bi .all [(.comp 0 (.cm .mem (.var 0) (.var (j+1))) (.e (.var i)) [])]) ρ = .ok (.bl (l.all λ e=>decide (e∈s))):=by
 have e0:evi G subC (.e (.var i)) ρ = .ok (nL l):=by simp[h1]
 have e1:q0O (ev G subC (.cm .mem (.var 0) (.var (j+1)))) (tsts G subC []) 0 ρ (l.map nI) = .ok ((l.filter λ _=>true).map λ e=> .bl (decide (e∈s))) :=
  q0J (us:=λ e=>[nI e]) λ e _=>⟨rfl,rfl,λ _=>by simp[h2,qCg]⟩
 rw[filter_tt] at e1;have hb:(l.map λ e=>D.bl (decide (e∈s))).length<=big:=by rw[Qh,q0K];lia
 rw[q1P,q0D,q0i,e0,q00,qKD,e1,q0P,q00,if_pos hb,q00,q0n,q00,q00,qF4,q86];simp
variable {n:Nat}{ws:List Wn}
theorem qHL (g:Good n ws) (s:List Nat) (x y:Option Sl) (t:Nat):ev G subC qH9 [some (.val (rD n ws)),some (.val (.tup (nL s))),x,some (.val (nI t)),y] =
  .ok (.lst ((ws.filter λ w=>decide (w.1=t)&&w.2.all λ e=>decide (e∈s)).map λ w=> .tup (nL w.2))):=by
 have e0:evi G subC (.e (.idx (.var 0) (.con (.int 1)))) [some (.val (rD n ws)),some (.val (.tup (nL s))),x,some (.val (nI t)),y] = .ok (ws.map wD):=by simp[rD,idx1]
 have e1:q0O (ev G subC (.var 1)) (tsts G subC [(.and (.e (.cm .eq (.var 0) (.var 5))) (.e (.bi .all [(.comp 0 (.cm .mem (.var 0) (.var 4)) (.e (.var 1)) [])])))]) 2 [some (.val (rD n ws)),some (.val (.tup (nL s))),x,some (.val (nI t)),y] (ws.map wD) =
   .ok ((ws.filter λ w=>decide (w.1=t)&&w.2.all λ e=>decide (e∈s)).map λ w=> .tup (nL w.2)) :=
  q0J (us:=λ w=>[nI w.1,.tup (nL w.2)]) λ w hw=>by
   have h5:=g.n5;have hr:=(qEO.mp (g.ok w hw)).2.1;have hl:w.2.length<=1000:=by have:=q1c n w.2 (hr.1.imp λ h=>by lia) hr.2;lia
   have ha:=qEQ (G:=G) (ρ:=[some (.val (nI w.1)),some (.val (.tup (nL w.2))),some (.val (rD n ws)),some (.val (.tup (nL s))),x,some (.val (nI t)),y]) 1 3 w.2 s hl rfl rfl;refine⟨rfl,?_,λ _=>rfl⟩;show tsts G subC _ [some (.val (nI w.1)),some (.val (.tup (nL w.2))),some (.val (rD n ws)),some (.val (.tup (nL s))),x,some (.val (nI t)),y]=_;simp only[q0c,q15,q43,q7J];rw[ha];generalize (w.2.all λ e=>decide (e∈s))=bb
   by_cases q:w.1=t<;>cases bb<;>simp[q]
 have hb:=g.len;have hb2:((ws.filter λ w=>decide (w.1=t)&&w.2.all λ e=>decide (e∈s)).map λ w=>D.tup (nL w.2)).length<=big:=by rw[Qh,q0K];exact Qn (Qu _ _) (by lia)
 rw[qH9,q0i,e0,q00,e1,q0P,q00,if_pos hb2]
theorem ne_nil (l:List D) (h:plL l=true) (h2:∀d∈l,plN 7 d=true):cmD .ne (.lst l) (.lst []) = .ok (.bl (!l.isEmpty)):=by
 have h3:pl (.lst l)=true:=by unfold pl;rw[q3D];exact Qw.mpr h2
 have e:cmD .ne (.lst l) (.lst [])=if pl (.lst l)&&pl (.lst []) then .ok (.bl (!eqb (.lst l) (.lst []))) else .stuck:=rfl
 rw[e,h3];have:pl (.lst [])=true:=rfl;rw[this];cases l<;>simp[eqb,eqbL]
theorem q8u {G:Nat->List D->R D}(g:Good n ws) (m:Nat):∀(ts acc:List Nat) (x y:Option Sl),acc.length+ts.length<=1000->
  ∃x' y',q1D (exs G subC qAf) 0 [3] (nL ts) [some (.val (rD n ws)),some (.val (tD m)),some (.own (.lst (nL acc))),x,y] =
   .ok [some (.val (rD n ws)),some (.val (tD m)),some (.own (.lst (nL (acc++ts.filter (mayL (nds n ws) m))))),x',y'] .nx
 |[],acc,x,y,_=>⟨x,y,by simp[q1k]⟩
 |t::ts,acc,x,y,hl=>by
  simp only[Qo] at hl;have e1:=qHL (G:=G) g (q01 m) (some (.own (.lst (nL acc)))) y t;have hm:=qHJ (qHK g) m t;have hall:∀s:List Nat,s.all (λ e=>decide (e∈q01 m))=s.all m.testBit:=λ s=>by rw[QB];simp[Qw,q06]
  simp only[hall] at e1;have hn:decide (t∈q01 m)=m.testBit t:=by rw[QB,decide_eq_true_eq,q06]
  generalize hgl:(ws.filter λ w=>decide (w.1=t)&&w.2.all m.testBit)=gl at e1;have hany:(ws.any λ w=>decide (w.1=t)&&w.2.all m.testBit)=!gl.isEmpty:=by
   rw[<-hgl,QB,Q1];cases q:(ws.filter λ w=>decide (w.1=t)&&w.2.all m.testBit) with
   |nil =>
    simp only[List.isEmpty_nil,Bool.not_true,QL,iff_false];rintro⟨w,hw,h⟩;have:=(QG (p:=λ w:Wn=>decide (w.1=t)&&w.2.all m.testBit)).mpr ⟨hw,h⟩;rw[q] at this;cases this
   |cons w l =>
    have:w∈(ws.filter λ w=>decide (w.1=t)&&w.2.all m.testBit):=(by rw[q];exact Qb);have:=QG.mp this;simp only[List.isEmpty_cons,Jq,iff_true];exact⟨w,this.1,this.2⟩
  rw[hany] at hm;have e2:cmD .ne (.lst (gl.map λ w=>D.tup (nL w.2))) (.lst []) = .ok (.bl (!gl.isEmpty)):=by rw[ne_nil _ (q1R.mpr λ d hd=>by obtain⟨w,_,rfl⟩:=Qq.mp hd;exact qDT _) (λ d hd=>by obtain⟨w,_,rfl⟩:=Qq.mp hd;simp)];cases gl<;>rfl
  have e3:=q8t t (q01 m);rw[hn] at e3;have b1:acc.length<big:=by rw[q0K];lia
  rw[q1J,q0R];cases q:mayL (nds n ws) m t with
  |true =>
   obtain⟨x',y',e⟩:=q8u (G:=G) g m ts (acc++[t]) (some (.val (nI t))) (some (.val (.lst (gl.map λ w=>D.tup (nL w.2))))) (by simp;lia);refine⟨x',y',?_⟩;rw[QS,if_pos q];have:acc++t::ts.filter (mayL (nds n ws) m)=acc++[t]++ts.filter (mayL (nds n ws) m):=(by simp);rw[this,<-e];rw[q] at hm;have hm1:=hm.symm;rw[Qd] at hm1;unfold tD at *;simp only[qAf,q0s,q0L,q0F,QY,QZ,e1,q04,q5a];have hb:(0:Nat)<=big:=QM _;simp[e3,e2,hm1.1,hm1.2,b1]
  |false =>
   obtain⟨x',y',e⟩:=q8u (G:=G) g m ts acc (some (.val (nI t))) (some (.val (.lst (gl.map λ w=>D.tup (nL w.2))))) (by lia);refine⟨x',y',?_⟩;rw[QS,if_neg (by simp[q]),<-e];rw[q] at hm;have hb:(0:Nat)<=big:=QM _;unfold tD at *;simp only[qAf,q0s,q0L,q0F,QY,QZ,e1,q04,q5a];cases q1:m.testBit t with
   |true=>simp[e3,q1]
   |false =>
    have q2:gl.isEmpty=true:=(by rw[q1] at hm;simpa using hm.symm);simp[e3,q1,e2,q2]
theorem q4M:∀{l m:List Nat},l.Pairwise (· < ·)->m.Pairwise (· < ·)->(∀x,x∈l↔x∈m)->l=m
 |[],[],_,_,_=>rfl
 |[],b::m,_,_,h=>absurd ((h b).mpr Qb) Jo
 |a::l,[],_,_,h=>absurd ((h a).mp Qb) Jo
 |a::l,b::m,hl,hm,h=>by
  obtain⟨l1,l2⟩:=QF.mp hl;obtain⟨m1,m2⟩:=QF.mp hm;have e:a=b:=by
   have ha:=(h a).mp Qb;have hb:=(h b).mpr Qb;rcases Qf.mp ha with e|ha
   ·exact e
   ·rcases Qf.mp hb with e|hb
    ·exact e.symm
    ·have:=m1 a ha;have:=l1 b hb;lia
  subst e;rw[q4M l2 m2 λ x=>?_];have hx:=h x;simp only[Qf] at hx;constructor
  ·intro hxl;exact (hx.mp (.inr hxl)).resolve_left λ z=>by have:=l1 x hxl;lia
  ·intro hxm;exact (hx.mpr (.inr hxm)).resolve_left λ z=>by have:=m1 x hxm;lia
theorem q5V {l:List Nat}(h:l.Pairwise (· < ·)):q01 (q03 0 l)=l :=
 q4M (List.Pairwise.filter _ Q2) h λ x=>by rw[q06,q1b,decide_eq_true_eq]
theorem q87 (n:Nat):q01 (2^n-1)=Qg n :=
 q4M (List.Pairwise.filter _ Q2) Q2 λ x=>by rw[qA3,QE]
theorem qHM (g:Good n ws) (k m:Nat):Gm (k+1) 29 [rD n ws,tD m] = .ok (.lst (nL (q0G (nds n ws) m (2^n-1)))):=by
 have h5:=g.n5;obtain⟨x',y',e⟩:=q8u (G:=Gm k) g m (Qg n) [] none none (by simp;lia);have h0:=q1S k 29 [rD n ws,tD m] 2 5 [.setO 2 (.lst []),.forr 0 [3] (.rng [(.idx (.var 0) (.con (.int 0)))]) qAf,.retO 2] rfl rfl;rw[h0];unfold q0G;rw[q87];have e6:idxD (rD n ws) (.int 0) = .ok (nI n):=idx0 _ _;have e7:evi (Gm k) subC (.rng [(.idx (.var 0) (.con (.int 0)))]) [some (.val (rD n ws)),some (.val (tD m)),some (.own (.lst [])),none,none] = .ok (nL (Qg n)):=by
  have:evs (Gm k) subC [(.idx (.var 0) (.con (.int 0)))] [some (.val (rD n ws)),some (.val (tD m)),some (.own (.lst [])),none,none] = .ok [nI n]:=by simp[e6]
  rw[q1Q,this,q00,q4Y n (by lia)]
 have e8:ex (Gm k) subC (.forr 0 [3] (.rng [(.idx (.var 0) (.con (.int 0)))]) qAf) [some (.val (rD n ws)),some (.val (tD m)),some (.own (.lst [])),none,none] = .ok [some (.val (rD n ws)),some (.val (tD m)),some (.own (.lst (nL (List.filter (mayL (nds n ws) m) (Qg n))))),x',y'] .nx:=by rw[q2E,e7,q04];exact e
 have e9:vals [rD n ws,tD m]++Qe (5 - [rD n ws,tD m].length) none=[some (.val (rD n ws)),some (.val (tD m)),none,none,none]:=rfl;have hb:([]:List D).length<=big:=QM _;have e10:ex (Gm k) subC (.setO 2 (.lst [])) [some (.val (rD n ws)),some (.val (tD m)),none,none,none] = .ok [some (.val (rD n ws)),some (.val (tD m)),some (.own (.lst [])),none,none] .nx:=by rw[q3C,q7H,q0n,q00,if_pos hb,q04];rfl
 exact q1T e9 (by rw[q05 e10,q05 e8];exact q0z (by rw[q8a];rfl))
end Mk
namespace Mk
open Ev
variable {m:Nat}{G:Nat->List D->R D}
variable {n:Nat}{ws:List Wn}
noncomputable def rB (nd:List (List Nat)) (m:Nat):Bool:=@decide (Rch nd m) (JB _)
theorem q39 {nd:List (List Nat)}:rB nd m=true↔Rch nd m:=@decide_eq_true_iff _ (JB _)
noncomputable def due (n:Nat) (ws:List Wn):List Nat:=(q13 n).filter (rB (nds n ws))
def wo (m t:Nat):Nat:=q03 0 ((q01 m).filter λ e=>!decide (e=t))
theorem qCh (m t:Nat):q01 (wo m t)=(q01 m).filter λ e=>!decide (e=t) :=
 q5V (List.Pairwise.filter _ (List.Pairwise.filter _ Q2))
theorem q4i (m t i:Nat):(wo m t).testBit i=(m.testBit i&&!decide (i=t)):=by rw[wo,q1b,QB,decide_eq_true_eq,QG,q06,Qd]
theorem qCi {t:Nat}(h:m.testBit t=true):wo m t ||| 1 <<< t=m:=QV λ i=>by
 rw[q0b,q4i]
 by_cases e:t=i
 ·subst e;simp[h]
 ·have:¬i=t:=λ z=>e z.symm;simp[e,this]
theorem qKE {k t:Nat}(h:k.testBit t=false):wo (k ||| 1 <<< t) t=k:=QV λ i=>by
 rw[q4i,q0b]
 by_cases e:t=i
 ·subst e;simp[h]
 ·have:¬i=t:=λ z=>e z.symm;simp[e,this]
theorem qKF (m t:Nat):Sm (wo m t) m:=λ i hi=>by rw[q4i,Qd] at hi;exact hi.1
theorem qLt (l:List Nat) (i:Nat):(l.map tD).any (λ y=>eqb y (tD i))=decide (i∈l):=by
 induction l with
 |nil=>simp
 |cons a l ih =>
  have e:eqb (tD a) (tD i)=decide (a=i):=by unfold tD;rw[q7L];exact decide_eq_decide.mpr ⟨q6k,λ h=>by rw[h]⟩
  rw[Qx,Q0,ih,e]
  by_cases h:a=i
  ·subst h;simp
  ·have:¬i=a:=λ e=>h e.symm;simp[h,this]
theorem pl_t (m:Nat):pl (tD m)=true:=qDT _
theorem qLu (l:List Nat):plL (l.map tD)=true:=q1R.mpr λ d hd=>by obtain⟨a,_,rfl⟩:=Qq.mp hd;exact pl_t a
theorem qFP (i:Nat) (l:List Nat):memD (tD i) (.lst (l.map tD)) = .ok (decide (i∈l)):=by rw[memD,pl_t,qLu,qLt];rfl
theorem q88 (i:Nat) (l:List Nat):cmD .mem (tD i) (.lst (l.map tD)) = .ok (.bl (decide (i∈l))):=by have e2:cmD .mem (tD i) (.lst (l.map tD))=(memD (tD i) (.lst (l.map tD))).bind λ r=> .ok (.bl r):=rfl;rw[e2,qFP];rfl
theorem qCj (i:Nat) (l:List Nat):cmD .nmem (tD i) (.lst (l.map tD)) = .ok (.bl (!decide (i∈l))):=by have e2:cmD .nmem (tD i) (.lst (l.map tD))=(memD (tD i) (.lst (l.map tD))).bind λ r=> .ok (.bl (!r)):=rfl;rw[e2,qFP];rfl
theorem q16 (h:m<2^5):(q01 m).length<=5 :=
 q1c 5 _ ((q6j h).1.imp λ h=>by lia) (q6j h).2
theorem qHN (r f y:Option Sl) (m t:Nat) (hm:m<2^5):ex G subC (.set 4 (.bi .tuple [qCN])) [r,f,some (.val (tD m)),some (.val (nI t)),y] = .ok [r,f,some (.val (tD m)),some (.val (nI t)),some (.val (tD (wo m t)))] .nx:=by
 have e0:evi G subC (.e (.var 2)) [r,f,some (.val (tD m)),some (.val (nI t)),y] = .ok (nL (q01 m)):=rfl;have e1:=q1X (elt:=ev G subC (.var 0)) (cond:=tsts G subC [(.e (.cm .ne (.var 0) (.var 4)))]) (ρ:=[r,f,some (.val (tD m)),some (.val (nI t)),y]) (p:=λ e=>!decide (e=t)) (l:=q01 m)
  (λ a _=>by by_cases q:a=t<;>simp[q]) (λ a _=>rfl)
 have hb:(nL ((q01 m).filter λ e=>!decide (e=t))).length<=big:=by rw[q0X,q0K];exact Qn (Qu _ _) (Qn (q16 hm) (by decide))
 have e2:ev G subC qCN [r,f,some (.val (tD m)),some (.val (nI t)),y] = .ok (.lst (nL ((q01 m).filter λ e=>!decide (e=t)))):=by rw[qCN,q0i,e0,q00,e1,q0P,q00,if_pos hb]
 have e3:ev G subC (.bi .tuple [qCN]) [r,f,some (.val (tD m)),some (.val (nI t)),y] = .ok (tD (wo m t)):=by rw[q1P,q0D,e2,q00,q0n,q00,q00,q1w,<-qCh];rfl
 rw[q0F,e3,q04];rfl
theorem qER (g:Good n ws) (j t:Nat):decide (t∈q0G (nds n ws) j (2^n-1))=mayL (nds n ws) j t:=by rw[QB,decide_eq_true_eq];unfold q0G;rw[QG,q87,QE];exact⟨λ h=>h.2,λ h=>⟨by have:=q5S h;rwa [q0j] at this,h⟩⟩
theorem qHO (g:Good n ws) (m t:Nat) (fd:List Nat) (j:Nat) (e1:G 29 [rD n ws,tD j] = .ok (.lst (nL (q0G (nds n ws) j (2^n-1))))):tst G subC qHA [some (.val (rD n ws)),some (.own (.lst (fd.map tD))),some (.val (tD m)),some (.val (nI t)),some (.val (tD j))] =
  .ok (!decide (m∈fd)&&(decide (j∈fd)&&mayL (nds n ws) j t)):=by
 have e2:=qKC t (q0G (nds n ws) j (2^n-1));rw[qER g] at e2;have e3:=qCj m fd;have e4:=q88 j fd;rw[qHA]
 by_cases q1:m∈fd
 ·simp[e3,q1]
 ·by_cases q2:j∈fd
  ·cases q3:mayL (nds n ws) j t<;>rw[q3] at e2<;>simp[e3,q1,e4,q2,e1,e2]
  ·simp[e3,q1,e4,q2]
noncomputable def addS (nd:List (List Nat)) (m:Nat) (ts fd:List Nat):List Nat :=
 if m∈fd then fd else if ts.any (λ t=>decide (wo m t∈fd)&&mayL nd (wo m t) t)=true then fd++[m] else fd
theorem q6l (g:Good n ws) (k m:Nat) (hm:m<2^5):∀(ts fd:List Nat) (x y:Option Sl),(m∉fd->fd.length<1000)->
  ∃x' y',q1D (exs (Gm (k+1)) subC qEJ) 0 [3] (nL ts) [some (.val (rD n ws)),some (.own (.lst (fd.map tD))),some (.val (tD m)),x,y] =
   .ok [some (.val (rD n ws)),some (.own (.lst ((addS (nds n ws) m ts fd).map tD))),some (.val (tD m)),x',y'] .nx
 |[],fd,x,y,_=>⟨x,y,by simp[q1k,addS]⟩
 |t::ts,fd,x,y,hl=>by
  rw[q1J,q0R];have e1:=qHN (G:=Gm (k+1)) (some (.val (rD n ws))) (some (.own (.lst (fd.map tD)))) y m t hm;have e2:=qHO g m t fd (wo m t) (qHM g k (wo m t));simp only[QY,QZ,qEJ] at e1 |-;rw[q05 e1,q0s,q4y,e2,q04];cases q:(!decide (m∈fd)&&(decide (wo m t∈fd)&&mayL (nds n ws) (wo m t) t)) with
  |true =>
   have q0:=q;rw[Qd] at q0;have q1:m∉fd:=(by simpa using q0.1);obtain⟨x',y',e⟩:=q6l g k m hm ts (fd++[m]) (some (.val (nI t))) (some (.val (tD (wo m t)))) (λ h=>absurd (by simp) h);refine⟨x',y',?_⟩;have ea:addS (nds n ws) m (t::ts) fd=fd++[m]:=by unfold addS;rw[if_neg q1,Q0,q0.2];rfl
   have eb:addS (nds n ws) m ts (fd++[m])=fd++[m]:=(by unfold addS;rw[if_pos (by simp)]);rw[eb] at e;rw[ea,<-e];have b1:(fd.map tD).length<big:=(by rw[Qh,q0K];have:=hl q1;lia);have e5:exs (Gm (k+1)) subC [.app 1 (.var 2)] [some (.val (rD n ws)),some (.own (.lst (fd.map tD))),some (.val (tD m)),some (.val (nI t)),some (.val (tD (wo m t)))] = .ok [some (.val (rD n ws)),some (.own (.lst ((fd++[m]).map tD))),some (.val (tD m)),some (.val (nI t)),some (.val (tD (wo m t)))] .nx:=by rw[q05 (ρ':=[some (.val (rD n ws)),some (.own (.lst ((fd++[m]).map tD))),some (.val (tD m)),some (.val (nI t)),some (.val (tD (wo m t)))]),q0L];rw[q7K];show (if (fd.map tD).length<big then _ else _)=_;rw[if_pos b1,Jt];rfl
   rw[if_pos rfl,e5,q5a,q0L,q1i];rfl
  |false =>
   obtain⟨x',y',e⟩:=q6l g k m hm ts fd (some (.val (nI t))) (some (.val (tD (wo m t)))) hl;refine⟨x',y',?_⟩;have ea:addS (nds n ws) m (t::ts) fd=addS (nds n ws) m ts fd:=by
    unfold addS
    by_cases q1:m∈fd
    ·rw[if_pos q1,if_pos q1]
    ·have q2:(decide (wo m t∈fd)&&mayL (nds n ws) (wo m t) t)=false:=(by simpa[q1] using q);rw[if_neg q1,if_neg q1,Q0,q2,Bool.false_or]
   rw[ea,<-e,if_neg (by simp),q0L,q5a,q0L,q1i];rfl
theorem qHP (g:Good n ws) {pre ms:List Nat}(hs:q13 n=pre++m::ms) (h0:0∈pre) :
  addS (nds n ws) m (q01 m) (pre.filter (rB (nds n ws)))=(pre++[m]).filter (rB (nds n ws)):=by
 have hnd:=q2C g.n5;have hord:=qEP g.n5;rw[hs] at hnd hord;have hmp:m∉pre:=λ h=>(Qz.mp hnd).2.2 m h m Qb rfl;have hmf:m∉pre.filter (rB (nds n ws)):=λ h=>hmp (QG.mp h).1;unfold addS;rw[if_neg hmf,List.filter_append];have key:(q01 m).any (λ t=>decide (wo m t∈pre.filter (rB (nds n ws)))&&mayL (nds n ws) (wo m t) t)=true↔Rch (nds n ws) m:=by
  rw[Q1];constructor
  ·rintro⟨t,ht,h⟩;rw[Qd,decide_eq_true_eq] at h;have hr:=q39.mp (QG.mp h.1).2;have:=Rch.s hr h.2
   rwa [qCi (q06.mp ht)] at this
  ·intro h;cases h with
   |z=>exact absurd h0 hmp
   |@s j t hj ht =>
    have hjt:=q1q ht;refine⟨t,q06.mpr (by rw[q0b];simp),?_⟩;rw[qKE hjt,Qd,decide_eq_true_eq];refine⟨QG.mpr ⟨?_,q39.mpr hj⟩,ht⟩;have hlt:=q1H hj;rw[q0j] at hlt;have hin:=(q2K g.n5 j).mpr hlt;rw[hs] at hin;rcases Qm.mp hin with h|h
    ·exact h
    ·rcases Qf.mp h with h|h
     ·have:(j ||| 1 <<< t).testBit t=true:=(by rw[q0b];simp);rw[<-h,hjt] at this;cases this
     ·have h2:=(List.pairwise_append.mp hord).2.1;exact absurd (q4H.mpr (q4I j _)) ((QF.mp h2).1 j h)
 by_cases q:Rch (nds n ws) m
 ·rw[if_pos (key.mpr q)];have:rB (nds n ws) m=true:=q39.mpr q;simp[this]
 ·rw[if_neg λ h=>q (key.mp h)];have:rB (nds n ws) m=false:=by
   cases e:rB (nds n ws) m with
   |false=>rfl
   |true=>exact absurd (q39.mp e) q
  simp[this]
theorem qA6 (g:Good n ws) (k:Nat):∀(ms pre:List Nat) (x y z:Option Sl),q13 n=pre++ms->0∈pre->
  ∃x' y' z',q1D (exs (Gm (k+1)) subC qAg) 0 [2] (ms.map tD) [some (.val (rD n ws)),some (.own (.lst ((pre.filter (rB (nds n ws))).map tD))),x,y,z] =
   .ok [some (.val (rD n ws)),some (.own (.lst ((due n ws).map tD))),x',y',z'] .nx
 |[],pre,x,y,z,hs,_=>⟨x,y,z,by rw[List.map_nil,q1k,due,hs,QR]⟩
 |m::ms,pre,x,y,z,hs,h0=>by
  have hn:=g.n5;have hm:m<2^n:=(q2K hn m).mp (by rw[hs];simp);have hm5:m<2^5:=Qp hm (QC (by decide) hn);have hlen:(q13 n).length<=32:=Qn (q1c (2^n) _ (q2C hn) λ x hx=>(q2K hn x).mp hx) (Qn (QC (by decide) hn) (by decide));have hl:(pre.filter (rB (nds n ws))).length<1000:=by rw[hs,QA] at hlen;exact Jc (Qu _ _) (by lia)
  obtain⟨x1,y1,e1⟩:=q6l g k m hm5 (q01 m) (pre.filter (rB (nds n ws))) y z λ _=>hl;rw[qHP g hs h0] at e1;obtain⟨x2,y2,z2,e2⟩:=qA6 g k ms (pre++[m]) (some (.val (tD m))) x1 y1 (by rw[hs];simp) (by simp[h0]);refine⟨x2,y2,z2,?_⟩;rw[<-e2,Qx,q0R];have e3:ex (Gm (k+1)) subC (.forr 0 [3] (.e (.var 2)) qEJ) [some (.val (rD n ws)),some (.own (.lst ((pre.filter (rB (nds n ws))).map tD))),some (.val (tD m)),y,z] = .ok [some (.val (rD n ws)),some (.own (.lst (((pre++[m]).filter (rB (nds n ws))).map tD))),some (.val (tD m)),x1,y1] .nx:=by have:evi (Gm (k+1)) subC (.e (.var 2)) [some (.val (rD n ws)),some (.own (.lst ((pre.filter (rB (nds n ws))).map tD))),some (.val (tD m)),y,z] = .ok (nL (q01 m)):=rfl;rw[q2E,this,q04,e1]
  have e4:exs (Gm (k+1)) subC qAg [some (.val (rD n ws)),some (.own (.lst ((pre.filter (rB (nds n ws))).map tD))),some (.val (tD m)),y,z] = .ok [some (.val (rD n ws)),some (.own (.lst (((pre++[m]).filter (rB (nds n ws))).map tD))),some (.val (tD m)),x1,y1] .nx:=by rw[qAg,q05 e3,q0L]
  simp only[QY,QZ];rw[e4,q1i]
theorem qLv {y:Option Sl}{d:D}{ms:List Nat}(e1:G 28 [nI n] = .ok (.lst (d::ms.map tD))):evi G subC (.e (.sl 0 (.call 28 [(.idx (.var 0) (.con (.int 0)))]) [(.con (.int 1))] [])) [some (.val (rD n ws)),y,none,none,none] = .ok (ms.map tD):=by have e6:idxD (rD n ws) (.int 0) = .ok (nI n):=idx0 _ _;rw[q7I,qG3];simp[e6,e1,optI,slD,cutL,bnd,Jl]
theorem qCk (g:Good n ws) (k:Nat):Gm (k+2) 30 [rD n ws] = .ok (.lst ((due n ws).map tD)):=by
 have hn:=g.n5;obtain⟨ms,hz⟩:=qCZ hn;obtain⟨x,y,z,e⟩:=qA6 g k ms [0] none none none (by rw[hz];rfl) (by simp);have r0:rB (nds n ws) 0=true:=q39.mpr .z;have f0:[0].filter (rB (nds n ws))=[0]:=by simp[r0]
 rw[f0] at e;have e1:=qFO k hn;rw[hz,Qx] at e1;have e6:idxD (rD n ws) (.int 0) = .ok (nI n):=idx0 _ _;refine (q1S (k+1) 30 [rD n ws] 1 5 [.setO 1 (.lst [(.tup [])]),.forr 0 [2] (.e (.sl 0 (.call 28 [(.idx (.var 0) (.con (.int 0)))]) [(.con (.int 1))] [])) qAg,.retO 1] rfl rfl).trans ?_;have e2:ex (Gm (k+1)) subC (.setO 1 (.lst [(.tup [])])) [some (.val (rD n ws)),none,none,none,none] = .ok [some (.val (rD n ws)),some (.own (.lst ([0].map tD))),none,none,none] .nx:=by
  have b0:([]:List D).length<=big:=by decide
  have b1:([D.tup []]:List D).length<=big:=by decide
  rw[q3C,q7H,q0D,qBF,q0n,q00,if_pos b0,q00,q00,q00,if_pos b1,q04];rfl
 have e3:=qLv (G:=Gm (k+1)) (n:=n) (ws:=ws) (y:=some (.own (.lst ([0].map tD)))) e1;have e4:ex (Gm (k+1)) subC (.forr 0 [2] (.e (.sl 0 (.call 28 [(.idx (.var 0) (.con (.int 0)))]) [(.con (.int 1))] [])) qAg) [some (.val (rD n ws)),some (.own (.lst ([0].map tD))),none,none,none] = .ok [some (.val (rD n ws)),some (.own (.lst ((due n ws).map tD))),x,y,z] .nx:=by rw[q2E,e3,q04,e]
 exact q1T (ρ:=[some (.val (rD n ws)),none,none,none,none]) rfl (by rw[q05 e2,q05 e4];exact q0z (by rw[q8a];rfl))
end Mk
namespace Mk
open Ev
variable {n:Nat}{ws:List Wn}
theorem q6m:∀{l:List D},l.Pairwise (λ a b=>eqb a b=false)->dedup l=l
 |[],_=>rfl
 |x::l,h=>by
  obtain⟨h1,h2⟩:=QF.mp h;have:l.any (eqb x)=false:=by rw[List.any_eq_false];intro d hd;simp[h1 d hd]
  rw[dedup,this,q6m h2];rfl
theorem qHQ {l m:List Nat}(h1:l.Nodup) (h2:m.Nodup) (h:∀x,x∈l↔x∈m):l.Perm m:=(List.perm_ext_iff_of_nodup h1 h2).mpr h
theorem q0k (g:Good n ws) (m:Nat):m∈due n ws↔Rch (nds n ws) m:=by unfold due;rw[QG,q2K g.n5,q39];exact⟨λ h=>h.2,λ h=>⟨by have:=q1H h;rwa [q0j] at this,h⟩⟩
end Mk
namespace Mk
open Ev
theorem num3:D.int 3=nI 3:=rfl
theorem num4:D.int 4=nI 4:=rfl
theorem num5:D.int 5=nI 5:=rfl
theorem qLw:cmD .isN .non .non = .ok (.bl true):=rfl
theorem qLx (c:Nat):cmD .isN (.exc c) .non = .ok (.bl false):=rfl
theorem sub0 (c:Nat):subC c 0=true:=by simp[subC]
section
variable {G:Nat->List D->R D}{r th:D}
def onc (G:Nat->List D->R D) (i:Nat) (x:R D):Nat->List D->R D:=λ f xs=>cond (Nat.beq f i) x (G f xs)
def subD:Nat->Nat->Bool:=λ e c=>cond (Nat.beq c 0) true (subC e c)
theorem sub_eq:subC=subD:=by
 funext e c;cases c with
 |zero=>exact sub0 e
 |succ c=>rfl
theorem run2 {x z d:R D}{s:Nat->Nat->Bool}{n:Nat}{l:List S}{as:List D}(i:Nat) (e:Ev.run G s n l as=Ev.run (onc G i x) s n l as) (h:x=z) (f:Ev.run (onc G i z) s n l as=d):Ev.run G s n l as=d:=by subst h;exact e.trans f
theorem run1 {x z d:R D}{n:Nat}{l:List S}{as:List D}(i:Nat) (e:Ev.run G subC n l as=Ev.run (onc G i x) subC n l as) (h:x=z) (f:Ev.run (onc G i z) subC n l as=d):Ev.run G subC n l as=d:=by subst h;exact e.trans f
theorem e_18 {c:Nat}(h:G 17 [r,th] = .err c):Ev.run G subC 2 q1L [r,th] = .err c:=by simp[Ev.run,q1L,h]
theorem e_20 {c:Nat}(h:G 13 [r,th] = .err c):Ev.run G subC 2 q5Q [r,th] = .err c:=by simp[Ev.run,q5Q,h]
end
theorem q89 (G:Nat->List D->R D):Ev.run G subC 2 q1a [.exc 2] = .ok (.str (PySem.Str.ofString "state")):=by kernel_rfl
def q1W:D:= .str (PySem.Str.ofString "state")
theorem qCl (k:Nat):Gm (k+1) 31 [.exc 2] = .ok q1W:=(q1S k 31 [.exc 2] 1 2 q1a rfl rfl).trans (q89 _)
end Mk
namespace Mk
open Ev
variable {ρ:Env}
variable {n:Nat}{ws:List Wn}{G:Nat->List D->R D}
theorem q2L {xs:List L}{ds:List D}(h:evs G subC xs ρ = .ok ds) (hl:ds.length<=1000):ev G subC (.tup xs) ρ = .ok (.tup ds):=by rw[qBF,h,q00,if_pos (by rw[q0K];lia)]
theorem q22 {xs:List L}{ds:List D}(h:evs G subC xs ρ = .ok ds) (hl:ds.length<=1000):ev G subC (.lst xs) ρ = .ok (.lst ds):=by rw[q7H,h,q00,if_pos (by rw[q0K];lia)]
theorem evs2 {a b:L}{x y:D}(h1:ev G subC a ρ = .ok x) (h2:ev G subC b ρ = .ok y):evs G subC [a,b] ρ = .ok [x,y]:=by rw[q0D,h1,q00,q0D,h2,q00,q0n];rfl
theorem evs1 {a:L}{x:D}(h1:ev G subC a ρ = .ok x):evs G subC [a] ρ = .ok [x]:=by rw[q0D,h1,q00,q0n];rfl
end Mk
namespace Mk
open Ev
variable {n:Nat}{ws:List Wn}{G:Nat->List D->R D}
theorem qES (zs:List Int) (i:Nat):∃c:Int,Ev.run G subC 2 q1f [.lst (iL zs),nI i] = .ok (.int c):=by
 cases zs with
 |nil=>exact⟨0,by simp[Ev.run,q1f]⟩
 |cons z zs =>
  have hl:0<(z::zs).length:=by simp
  have hlt:=Nat.mod_lt i hl;have h1:opD .mod (nI i) (nI (z::zs).length) = .ok (nI (i % (z::zs).length)):=qBK _ _ hl;generalize hA:i % (z::zs).length=A at h1 hlt;refine⟨(z::zs)[A],?_⟩;have h2:idxD (.lst (iL (z::zs))) (nI A) = .ok (.int ((z::zs)[A])):=q7O _ _ _ (by unfold iL;rw[Qs,Ql hlt];rfl)
  have t:tst G subC (.e (.var 0)) [some (.val (.lst (iL (z::zs)))),some (.val (nI i))] = .ok true:=rfl;refine q1T (ρ:=[some (.val (.lst (iL (z::zs)))),some (.val (nI i))]) (ρ':=[some (.val (.lst (iL (z::zs)))),some (.val (nI i))]) rfl ?_;rw[q1f];refine q0z ?_;rw[q4y,t,q04,if_pos rfl];refine q0z ?_;have h3:biD subC .len [.lst (iL (z::zs))] = .ok (nI (z::zs).length):=by rw[q26,qK6]
  rw[q34,q25,q1U,q0m,q1U,q1P,q0D,q1U,q0n];show (((R.ok (D.lst (iL (z::zs)))).bind λ x=>((R.ok (nI i)).bind λ x=>((((R.ok (D.lst (iL (z::zs)))).bind λ x=>(R.ok ([]:List D)).bind λ xs=>R.ok (x::xs)).bind λ ds=>biD subC .len ds).bind λ y=>opD .mod x y)).bind λ y=>idxD x y).go _ _)=_;simp only[q00];rw[h3,q00,h1,q00,h2,q04]
theorem qHR (a b:Int):opD .add (.int a) (.int b) = .ok (.int (a+b)):=rfl
theorem qKG (a b:Int) (h:-(2^62)<a/\a<2^62):opD .mul (.int a) (.int b) = .ok (.int (a*b)):=by unfold opD;exact if_pos (.inl h)
theorem mul_r (a b:Int) (h:-(2^62)<b/\b<2^62):opD .mul (.int a) (.int b) = .ok (.int (a*b)):=by unfold opD;exact if_pos (.inr h)
theorem qHS (a b:Int) (h:0<b):∃N:Nat,opD .mod (.int a) (.int b) = .ok (.int N):=⟨(a % b).toNat,by have:=Int.emod_nonneg a (Int.ne_of_gt h);unfold opD;dsimp only[intD,opI];rw[if_pos h];congr 2;lia⟩
theorem qKH (a b:Int) (h:0<b/\b<1073741824):opD .fdiv (.int a) (.int b) = .ok (.int (a / b)):=by unfold opD;exact if_pos h
theorem qHT (s:D) (i:Nat) (hc:∃c:Int,G 24 [s,nI i] = .ok (.int c)):∃N:Nat,Ev.run G subC 3 q2j [s,nI i] = .ok (nI N):=by
 obtain⟨c,hc⟩:=hc;obtain⟨N1,e1⟩:=qHS (c+104729*((i:Int)+1)) 4294967291 (by decide);obtain⟨N2,e2⟩:=qHS ((N1:Int)*48271) 4294967279 (by decide);obtain⟨N3,e3⟩:=qHS ((N2:Int) / 64*69621+N2) 4294967231 (by decide);refine⟨N3,?_⟩;have a1:ev G subC (.op .mod (.op .add (.call 24 [(.var 0),(.var 1)]) (.op .mul (.con (.int 104729)) (.op .add (.var 1) (.con (.int 1))))) (.con (.int 4294967291))) [some (.val s),some (.val (nI i)),none] = .ok (nI N1):=by have v0:getV [some (.val s),some (.val (nI i)),none] 0 = .ok s:=rfl;have v1:getV [some (.val s),some (.val (nI i)),none] 1 = .ok (nI i):=rfl;rw[q0m,q0m,q0h,evs2 (G:=G) (by rw[q1U,v0]) (by rw[q1U,v1]),q00,hc,q00,q0m,q0I,q00,q0m,q1U,v1,q00,q0I,q00,nI,qHR,q00,qKG _ _ (by decide),q00,qHR,q00,q0I,q00,e1];rfl
 have a2:ev G subC (.op .mod (.op .mul (.var 2) (.con (.int 48271))) (.con (.int 4294967279))) [some (.val s),some (.val (nI i)),some (.val (nI N1))] = .ok (nI N2):=by have v2:getV [some (.val s),some (.val (nI i)),some (.val (nI N1))] 2 = .ok (.int N1):=rfl;rw[q0m,q0m,q1U,v2,q00,q0I,q00,mul_r _ _ (by decide),q00,q0I,q00,e2];rfl
 have a3:ev G subC (.op .mod (.op .add (.op .mul (.op .fdiv (.var 2) (.con (.int 64))) (.con (.int 69621))) (.var 2)) (.con (.int 4294967231))) [some (.val s),some (.val (nI i)),some (.val (nI N2))] = .ok (nI N3):=by have v2:getV [some (.val s),some (.val (nI i)),some (.val (nI N2))] 2 = .ok (.int N2):=rfl;rw[q0m,q0m,q0m,q0m,q1U,v2,q00,q0I,q00,qKH _ _ (by decide),q00,q0I,q00,mul_r _ _ (by decide),q00,q00,qHR,q00,q0I,q00,e3];rfl
 refine q1T (ρ:=[some (.val s),some (.val (nI i)),none]) (ρ':=[some (.val s),some (.val (nI i)),some (.val (nI N2))]) rfl ?_;rw[q2j,q05 (ρ':=[some (.val s),some (.val (nI i)),some (.val (nI N1))]) (by rw[q0F,a1,q04];rfl),q05 (ρ':=[some (.val s),some (.val (nI i)),some (.val (nI N2))]) (by rw[q0F,a2,q04];rfl)];exact q0z (by rw[q34,a3,q04])
theorem sub_sub (o:List Nat) (p:Nat->Bool):(((Qg o.length).filter p).map λ j=>o.getD j 0).Sublist o:=by
 have h:(Qg o.length).map (λ j=>o.getD j 0)=o:=by refine List.ext_getElem (by simp) λ i h1 h2=>?_;simp at h1;simp[Jm,h1]
 have:=(List.filter_sublist (p:=p) (l:=Qg o.length)).map λ j=>o.getD j 0
 rwa [h] at this
theorem qAh (s:D) (i:Nat) (o:List Nat) (ho:o.length<=7) (hm:∃N:Nat,G 25 [s,nI i] = .ok (nI N)):∃l:List Nat,l.Sublist o/\Ev.run G subC 4 q20 [s,nI i,.lst (nL o)] = .ok (.tup (nL l)):=by
 obtain⟨N,hm⟩:=hm;have a1:ev G subC (.op .fdiv (.call 25 [(.var 0),(.var 1)]) (.con (.int 8))) [some (.val s),some (.val (nI i)),some (.val (.lst (nL o))),none] = .ok (nI (N / 8)):=by have:opD .fdiv (nI N) (.int 8) = .ok (nI (N / 8)):=qF0 N 8 (by decide) (by decide);rw[q0m,q0h,evs2 (G:=G) (x:=s) (y:=nI i) rfl rfl,q00,hm,q00,q0I,q00,this]
 generalize N / 8=M at a1;have pw:∀j,j<7->∀ρ:Env,ρ[0]? = some (some (.val (nI j)))->∃P:Nat,0<P/\P<1073741824/\ev G subC (.idx (.lst q4d) (.var 0)) ρ = .ok (nI P):=λ j hj ρ hρ=>by
  have h1:ev G subC (.lst q4d) ρ = .ok (.lst (nL [1,2,4,8,16,32,64])):=q22 rfl (by simp);have h2:ev G subC (.var 0) ρ = .ok (nI j):=by rw[q1U,getV,hρ]
  have h3:∃P:Nat,0<P/\P<1073741824/\[1,2,4,8,16,32,64][j]? = some P:=by
   match j,hj with
   |0,_=>exact⟨1,by decide,by decide,rfl⟩
   |1,_=>exact⟨2,by decide,by decide,rfl⟩
   |2,_=>exact⟨4,by decide,by decide,rfl⟩
   |3,_=>exact⟨8,by decide,by decide,rfl⟩
   |4,_=>exact⟨16,by decide,by decide,rfl⟩
   |5,_=>exact⟨32,by decide,by decide,rfl⟩
   |6,_=>exact⟨64,by decide,by decide,rfl⟩
  obtain⟨P,p1,p2,p3⟩:=h3;refine⟨P,p1,p2,?_⟩;rw[q25,h1,q00,h2,q00];exact q7O _ _ _ (by unfold nL;rw[Qs,p3];rfl)
 have hp:∀j,j<7->∃b:Bool,tsts G subC [(.e (.cm .eq (.op .mod (.op .fdiv (.var 4) (.idx (.lst q4d) (.var 0))) (.con (.int 2))) (.con (.int 1))))] [some (.val (nI j)),some (.val s),some (.val (nI i)),some (.val (.lst (nL o))),some (.val (nI M))] = .ok b:=λ j hj=>by obtain⟨P,p1,p2,p3⟩:=pw j hj [some (.val (nI j)),some (.val s),some (.val (nI i)),some (.val (.lst (nL o))),some (.val (nI M))] rfl;have h4:ev G subC (.var 4) [some (.val (nI j)),some (.val s),some (.val (nI i)),some (.val (.lst (nL o))),some (.val (nI M))] = .ok (nI M):=rfl;have h5:opD .mod (nI (M / P)) (.int 2) = .ok (nI (M / P % 2)):=qBK _ 2 (by decide);have h6:cmD .eq (nI (M / P % 2)) (.int 1) = .ok (.bl (decide (M / P % 2=1))):=eq_n _ 1;refine⟨decide (M / P % 2=1),?_⟩;rw[q0c,q7J,qAU,q0m,q0m,h4,q00,p3,q00,qF0 M P p1 p2,q00,q0I,q00,h5,q00,q0I,q00,h6,q00,qDU,q00,q15];cases decide (M / P % 2=1)<;>rfl
 have hp2:∃p:Nat->Bool,∀j,j<7->tsts G subC [(.e (.cm .eq (.op .mod (.op .fdiv (.var 4) (.idx (.lst q4d) (.var 0))) (.con (.int 2))) (.con (.int 1))))] [some (.val (nI j)),some (.val s),some (.val (nI i)),some (.val (.lst (nL o))),some (.val (nI M))] = .ok (p j):=by refine⟨λ j=>if h:j<7 then (hp j h).choose else false,λ j hj=>?_⟩;simp only[hj,dif_pos];exact (hp j hj).choose_spec
 obtain⟨p,hp3⟩:=hp2;refine⟨_,sub_sub o p,?_⟩;have a2:q0O (ev G subC (.idx (.var 3) (.var 0))) (tsts G subC [(.e (.cm .eq (.op .mod (.op .fdiv (.var 4) (.idx (.lst q4d) (.var 0))) (.con (.int 2))) (.con (.int 1))))]) 0 [some (.val s),some (.val (nI i)),some (.val (.lst (nL o))),some (.val (nI M))] ((Qg o.length).map nI) = .ok (((Qg o.length).filter p).map λ j=>nI (o.getD j 0)) :=
  q0J (us:=λ j=>[nI j]) λ j hj=>by have hj2:=QE.mp hj;refine⟨rfl,hp3 j (by lia),λ _=>?_⟩;have h1:idxD (.lst (nL o)) (nI j) = .ok (nI (o.getD j 0)):=q7O _ _ _ (by unfold nL;rw[Qs,Ql hj2];simp[Jm,hj2]);exact h1
 have b1:(((Qg o.length).filter p).map λ j=>nI (o.getD j 0)).length<=big:=by rw[Qh,q0K];refine Qn (Qu _ _) ?_;rw[QK];lia
 have a3:evi G subC (.rng [(.bi .len [(.var 2)])]) [some (.val s),some (.val (nI i)),some (.val (.lst (nL o))),some (.val (nI M))] = .ok ((Qg o.length).map nI):=by
  have h1:evs G subC [(.bi .len [(.var 2)])] [some (.val s),some (.val (nI i)),some (.val (.lst (nL o))),some (.val (nI M))] = .ok [nI o.length]:=evs1 (by have:biD subC .len [.lst (nL o)] = .ok (nI o.length):=(by rw[q26,q0X]);rw[q1P,evs1 (G:=G) (x:= .lst (nL o)) rfl,q00,this])
  rw[q1Q,h1,q00,q4Y _ (by lia)];rfl
 have a4:ev G subC (.comp 0 (.idx (.var 3) (.var 0)) (.rng [(.bi .len [(.var 2)])]) [(.e (.cm .eq (.op .mod (.op .fdiv (.var 4) (.idx (.lst q4d) (.var 0))) (.con (.int 2))) (.con (.int 1))))]) [some (.val s),some (.val (nI i)),some (.val (.lst (nL o))),some (.val (nI M))] = .ok (.lst (nL (((Qg o.length).filter p).map λ j=>o.getD j 0))):=by rw[q0i,a3,q00,a2,q0P,q00,if_pos b1];unfold nL;rw[Jv];rfl
 refine q1T (ρ:=[some (.val s),some (.val (nI i)),some (.val (.lst (nL o))),none]) (ρ':=[some (.val s),some (.val (nI i)),some (.val (.lst (nL o))),some (.val (nI M))]) rfl ?_;show exs G subC [.set 3 (.op .fdiv (.call 25 [(.var 0),(.var 1)]) (.con (.int 8))),.ret (.bi .tuple [(.comp 0 (.idx (.var 3) (.var 0)) (.rng [(.bi .len [(.var 2)])]) [(.e (.cm .eq (.op .mod (.op .fdiv (.var 4) (.idx (.lst q4d) (.var 0))) (.con (.int 2))) (.con (.int 1))))])])] _=_;rw[q05 (ρ':=[some (.val s),some (.val (nI i)),some (.val (.lst (nL o))),some (.val (nI M))]) (by rw[q0F,a1,q04];rfl)];exact q0z (by rw[q34,q1P,evs1 a4,q00,q1w,q04])
end Mk
namespace Mk
open Ev
variable {s:D}{acc:List Wn}{t:Nat}{y:Option Sl}{ρ:Env}{a:L}
variable {n:Nat}{ws:List Wn}{G:Nat->List D->R D}{M:Nat}
theorem qLy (a b:Nat) (h:a<2^62):opD .mul (nI a) (nI b) = .ok (nI (a*b)):=by unfold nI;rw[qKG _ _ (by lia)];congr 2
def GoodW (n:Nat) (w:Wn):Prop:=w.1<n/\Ris n w.2/\w.1∉w.2
structure Draw (G:Nat->List D->R D) (s:D):Prop where
 mix:∀i:Nat,∃N:Nat,G 25 [s,nI i] = .ok (nI N)
 sub:∀(i:Nat) (o:List Nat),o.length<=7->∃l:List Nat,l.Sublist o/\G 26 [s,nI i,.lst (nL o)] = .ok (.tup (nL l))
noncomputable def ruE (M:Nat) (s:D) (n:Nat) (acc:List Wn) (t:Nat) (o:List Nat) (x y:Option Sl):Env :=
 [some (.val s),some (.val (nI 0)),some (.val (nI M)),some (.val (nI n)),some (.own (.lst (acc.map wD))),some (.val (nI t)),some (.val (.lst (nL o))),x,y]
theorem ev_k (c:Nat) {j:Nat}{o:List Nat}:ev G subC (q4j c) (ruE M s n acc t o (some (.val (nI j))) y) = .ok (nI (0+c+4*t+j)):=by have h1:opD .mul (.int 4) (nI t) = .ok (nI (4*t)):=qLy 4 t (by decide);have h2:opD .add (nI 0) (.int c) = .ok (nI (0+c)):=add_n 0 c;have v1:getV (ruE M s n acc t o (some (.val (nI j))) y) 1 = .ok (nI 0):=rfl;have v5:getV (ruE M s n acc t o (some (.val (nI j))) y) 5 = .ok (nI t):=rfl;have v7:getV (ruE M s n acc t o (some (.val (nI j))) y) 7 = .ok (nI j):=rfl;rw[q4j,q0m,q0m,q0m,q1U,v1,q00,q0I,q00,h2,q00,q0m,q0I,q00,q1U,v5,q00,h1,q00,add_n,q00,q1U,v7,q00,add_n]
theorem q0U {f:Nat}{b:L}{x y d:D}(h1:ev G subC a ρ = .ok x) (h2:ev G subC b ρ = .ok y) (h:G f [x,y] = .ok d):ev G subC (.call f [a,b]) ρ = .ok d:=by rw[q0h,evs2 h1 h2,q00,h]
theorem qA7 {N c:Nat}(hc:0<c) (h:ev G subC a ρ = .ok (nI N)):ev G subC (.op .mod a (.con (.int c))) ρ = .ok (nI (N % c)):=by rw[q0m,h,q00,q0I,q00];exact qBK N c hc
theorem qCm {N:Nat}(h:ev G subC a ρ = .ok (nI N)):tst G subC (.e (.cm .gt a (.con (.int 0)))) ρ = .ok (decide (0<N)):=by rw[q7J,qAU,h,q00,q0I,q00,num0,gt_n,q00,qDU]
theorem qHU (d:Draw G s) {j:Nat}{o:List Nat}(ho:o.length<=7) (hon:∀l:List Nat,l.Sublist o->GoodW n (t,l)) (hl:acc.length<1000) :
  ∃(w:Wn) (y':Option Sl),GoodW n w/\exs G subC q7v (ruE M s n acc t o (some (.val (nI j))) y) = .ok (ruE M s n (acc++[w]) t o (some (.val (nI j))) y') .nx:=by
 obtain⟨l,hlo,e23⟩:=d.sub (0+10+4*t+j) o ho;obtain⟨N1,m1⟩:=d.mix (0+40+4*t+j);obtain⟨N2,m2⟩:=d.mix (0+41+4*t+j);obtain⟨N3,m3⟩:=d.mix (0+70+t);have e1:ex G subC qHB (ruE M s n acc t o (some (.val (nI j))) y) = .ok (ruE M s n acc t o (some (.val (nI j))) (some (.val (.tup (nL l))))) .nx:=by
  have h3:evs G subC [(.var 0),q4j 10,(.var 6)] (ruE M s n acc t o (some (.val (nI j))) y) = .ok [s,nI (0+10+4*t+j),.lst (nL o)]:=by have k10:=ev_k (M:=M) (G:=G) (n:=n) 10 (s:=s) (acc:=acc) (t:=t) (j:=j) (o:=o) (y:=y);have v0:ev G subC (.var 0) (ruE M s n acc t o (some (.val (nI j))) y) = .ok s:=rfl;have v6:ev G subC (.var 6) (ruE M s n acc t o (some (.val (nI j))) y) = .ok (.lst (nL o)):=rfl;rw[q0D,v0,q00,q0D];rw[show q4j 10=q4j ((10:Nat):Int) from rfl,k10,q00,evs1 v6];rfl
  rw[qHB,q0F,q0h,h3,q00,e23,q04];rfl
 have e2:∃l2:List Nat,l2.Sublist o/\ex G subC qEK (ruE M s n acc t o (some (.val (nI j))) (some (.val (.tup (nL l))))) = .ok (ruE M s n acc t o (some (.val (nI j))) (some (.val (.tup (nL l2))))) .nx:=by
  have k40:=ev_k (M:=M) (G:=G) (n:=n) 40 (s:=s) (acc:=acc) (t:=t) (j:=j) (o:=o) (y:=some (.val (.tup (nL l))));have k41:=ev_k (M:=M) (G:=G) (n:=n) 41 (s:=s) (acc:=acc) (t:=t) (j:=j) (o:=o) (y:=some (.val (.tup (nL l))));have v0:ev G subC (.var 0) (ruE M s n acc t o (some (.val (nI j))) (some (.val (.tup (nL l))))) = .ok s:=rfl;have t1:=qCm (qA7 (c:=3) (by decide) (q0U v0 k40 m1))
  by_cases q:0<N1 % 3
  ·rw[decide_eq_true q] at t1;refine⟨l.take (1+N2 % 2),(List.take_sublist _ _).trans hlo,?_⟩;have c1:=qA7 (c:=2) (by decide) (q0U v0 k41 m2);have c2:ev G subC (.op .add (.con (.int 1)) (.op .mod (.call 25 [(.var 0),q4j 41]) (.con (.int 2)))) (ruE M s n acc t o (some (.val (nI j))) (some (.val (.tup (nL l))))) = .ok (nI (1+N2 % 2)):=by rw[q0m,q0I,q00];refine (congrArg (λ z:R D=>z.bind λ y=>opD .add (.int 1) y) c1).trans ?_;exact add_n 1 _
   have v8:ev G subC (.var 8) (ruE M s n acc t o (some (.val (nI j))) (some (.val (.tup (nL l))))) = .ok (.tup (nL l)):=rfl;have a6:optI [nI (1+N2 % 2)] = .ok (some ((1+N2 % 2:Nat):Int)):=rfl;have a8:optI [] = .ok none:=rfl;have a4:slD 0 none (some ((1+N2 % 2:Nat):Int)) (.tup (nL l)) = .ok (.tup (nL (l.take (1+N2 % 2)))):=by
    generalize 1+N2 % 2=A;have:¬((A:Int)<0):=(by lia);simp only[slD,cutL,bnd,if_true,if_neg this,Int.toNat_natCast,List.drop_zero,Nat.sub_zero];congr 2;unfold nL;rw[List.map_take,Qh];rcases Nat.le_total A l.length with h|h
    ·rw[Nat.min_eq_left h]
    ·rw[Nat.min_eq_right h,Jl (by simp),Jl (by simp;lia)]
   have c3:ev G subC (.sl 0 (.var 8) [] [(.op .add (.con (.int 1)) (.op .mod (.call 25 [(.var 0),q4j 41]) (.con (.int 2))))]) (ruE M s n acc t o (some (.val (nI j))) (some (.val (.tup (nL l))))) = .ok (.tup (nL (l.take (1+N2 % 2)))):=by rw[qG3,v8,q00,q0n,q00,evs1 c2,q00,a8,q00,a6,q00,a4]
   have t1':tst G subC (.e (.cm .gt (.op .mod (.call 25 [(.var 0),q4j 40]) (.con (.int 3))) (.con (.int 0)))) (ruE M s n acc t o (some (.val (nI j))) (some (.val (.tup (nL l))))) = .ok true:=t1;rw[qEK,q4y,t1',q04,if_pos rfl,q05 (ρ':=ruE M s n acc t o (some (.val (nI j))) (some (.val (.tup (nL (l.take (1+N2 % 2))))))) (by rw[q0F,c3,q04];rfl),q0L]
  ·rw[decide_eq_false q] at t1;have t1':tst G subC (.e (.cm .gt (.op .mod (.call 25 [(.var 0),q4j 40]) (.con (.int 3))) (.con (.int 0)))) (ruE M s n acc t o (some (.val (nI j))) (some (.val (.tup (nL l))))) = .ok false:=t1;exact⟨l,hlo,by rw[qEK,q4y,t1',q04,if_neg (by simp),q0L]⟩
 obtain⟨l2,hl2,e2⟩:=e2;have e3:∃l3:List Nat,l3.Sublist o/\ex G subC qHC (ruE M s n acc t o (some (.val (nI j))) (some (.val (.tup (nL l2))))) = .ok (ruE M s n (acc++[(t,l3)]) t o (some (.val (nI j))) (some (.val (.tup (nL l2))))) .nx:=by
  have v0:ev G subC (.var 0) (ruE M s n acc t o (some (.val (nI j))) (some (.val (.tup (nL l2))))) = .ok s:=rfl;have v5:ev G subC (.var 5) (ruE M s n acc t o (some (.val (nI j))) (some (.val (.tup (nL l2))))) = .ok (nI t):=rfl;have v1:ev G subC (.var 1) (ruE M s n acc t o (some (.val (nI j))) (some (.val (.tup (nL l2))))) = .ok (nI 0):=rfl;have v8:ev G subC (.var 8) (ruE M s n acc t o (some (.val (nI j))) (some (.val (.tup (nL l2))))) = .ok (.tup (nL l2)):=rfl;have k70:ev G subC (.op .add (.op .add (.var 1) (.con (.int 70))) (.var 5)) (ruE M s n acc t o (some (.val (nI j))) (some (.val (.tup (nL l2))))) = .ok (nI (0+70+t)):=by have h2:opD .add (nI 0) (.int 70) = .ok (nI (0+70)):=add_n 0 70;rw[q0m,q0m,v1,q00,q0I,q00,h2,q00,v5,q00,add_n]
  have t1:=qCm (qA7 (c:=4) (by decide) (q0U v0 k70 m3));have key:∃l3:List Nat,l3.Sublist o/\ev G subC (.ite (.e (.cm .gt (.op .mod (.call 25 [(.var 0),(.op .add (.op .add (.var 1) (.con (.int 70))) (.var 5))]) (.con (.int 4))) (.con (.int 0)))) (.var 8) (.tup [])) (ruE M s n acc t o (some (.val (nI j))) (some (.val (.tup (nL l2))))) = .ok (.tup (nL l3)):=by
   by_cases q:0<N3 % 4
   ·rw[decide_eq_true q] at t1;have t1':tst G subC (.e (.cm .gt (.op .mod (.call 25 [(.var 0),(.op .add (.op .add (.var 1) (.con (.int 70))) (.var 5))]) (.con (.int 4))) (.con (.int 0)))) (ruE M s n acc t o (some (.val (nI j))) (some (.val (.tup (nL l2))))) = .ok true:=t1;exact⟨l2,hl2,by rw[q9F,t1',q00,if_pos rfl,v8]⟩
   ·rw[decide_eq_false q] at t1;have t1':tst G subC (.e (.cm .gt (.op .mod (.call 25 [(.var 0),(.op .add (.op .add (.var 1) (.con (.int 70))) (.var 5))]) (.con (.int 4))) (.con (.int 0)))) (ruE M s n acc t o (some (.val (nI j))) (some (.val (.tup (nL l2))))) = .ok false:=t1;exact⟨[],List.nil_sublist _,by rw[q9F,t1',q00,if_neg (by simp)];exact q2L (q0n _) (by simp)⟩
  obtain⟨l3,hl3,key⟩:=key;refine⟨l3,hl3,?_⟩;have b1:(acc.map wD).length<big:=by rw[Qh,q0K];lia
  rw[qHC,q7K];show (ev G subC _ _).go _ _=_;rw[q2L (evs2 v5 key) (by simp),q04];show (if (acc.map wD).length<big then _ else _)=_;rw[if_pos b1];unfold ruE;rw[Jt];rfl
 obtain⟨l3,hl3,e3⟩:=e3;exact⟨(t,l3),_,hon l3 hl3,by rw[q7v,q05 e1,q05 e2,q05 e3,q0L]⟩
theorem qA8 {s:D}(d:Draw G s) {t:Nat}{o:List Nat}(ho:o.length<=7) (hon:∀l:List Nat,l.Sublist o->GoodW n (t,l)):∀(js:List Nat) (acc:List Wn) (x y:Option Sl),acc.length+js.length<=1000->
  ∃(vs:List Wn) (x' y':Option Sl),(∀w∈vs,GoodW n w)/\vs.length=js.length/\q1D (exs G subC q7v) 0 [7] (nL js) (ruE M s n acc t o x y) = .ok (ruE M s n (acc++vs) t o x' y') .nx
 |[],acc,x,y,_=>⟨[],x,y,by simp,rfl,by simp[q1k]⟩
 |j::js,acc,x,y,hl=>by simp only[Qo] at hl;obtain⟨w,y1,hw,e1⟩:=qHU d (j:=j) (y:=y) ho hon (acc:=acc) (by lia);obtain⟨vs,x2,y2,hv,hvl,e2⟩:=qA8 d ho hon js (acc++[w]) (some (.val (nI j))) y1 (by simp;lia);refine⟨w::vs,x2,y2,Jf.mpr ⟨hw,hv⟩,by simp[hvl],?_⟩;rw[q1J,q0R];have:List.set (ruE M s n acc t o x y) 7 (some (.val (nI j)))=ruE M s n acc t o (some (.val (nI j))) y:=rfl;rw[this,e1,q1i,e2];simp
def ruE2 (M:Nat) (s:D) (n:Nat) (acc:List Wn) (t:Option Sl) (o x y:Option Sl):Env :=
 [some (.val s),some (.val (nI 0)),some (.val (nI M)),some (.val (nI n)),some (.own (.lst (acc.map wD))),t,o,x,y]
theorem qHV (d:Draw G s) (hn:n<=5) (ht:t<n) {o x:Option Sl}(hl:acc.length+3<=1000) :
  ∃(vs:List Wn) (o' x' y':Option Sl),(∀w∈vs,GoodW n w)/\vs.length<=3/\exs G subC q4G (ruE2 M s n acc (some (.val (nI t))) o x y) = .ok (ruE2 M s n (acc++vs) (some (.val (nI t))) o' x' y') .nx:=by
 generalize ho:(Qg n).filter (λ e=>!decide (e=t))=os;have hol:os.length<=7:=by rw[<-ho];refine Qn (Qu _ _) ?_;rw[QK];lia
 have hon:∀l:List Nat,l.Sublist os->GoodW n (t,l):=λ l h=>by
  have hm:∀x∈l,x<n/\¬x=t:=λ x hx=>by have:=h.subset hx;rw[<-ho] at this;simpa using this
  refine⟨ht,⟨?_,λ x hx=>(hm x hx).1⟩,λ h=>(hm t h).2 rfl⟩;refine List.Pairwise.sublist h ?_;rw[<-ho];exact List.Pairwise.filter _ Q2
 have e1:ex G subC (.set 6 qHD) (ruE2 M s n acc (some (.val (nI t))) o x y) = .ok (ruE M s n acc t os x y) .nx:=by
  have a1:=q1X (elt:=ev G subC (.var 0)) (cond:=tsts G subC [(.e (.cm .ne (.var 0) (.var 6)))]) (ρ:=ruE2 M s n acc (some (.val (nI t))) o x y) (p:=λ e=>!decide (e=t)) (l:=Qg n)
   (λ a _=>by have v0:ev G subC (.var 0) (some (.val (nI a))::ruE2 M s n acc (some (.val (nI t))) o x y) = .ok (nI a):=rfl;have v6:ev G subC (.var 6) (some (.val (nI a))::ruE2 M s n acc (some (.val (nI t))) o x y) = .ok (nI t):=rfl;rw[q0c,q7J,qAU,v0,q00,v6,q00,ne_n,q00,qDU,q00,q15];cases !decide (a=t)<;>rfl) (λ a _=>rfl)
  have a2:evi G subC (.rng [(.var 3)]) (ruE2 M s n acc (some (.val (nI t))) o x y) = .ok (nL (Qg n)):=by rw[q1Q,evs1 (G:=G) (x:=nI n) rfl,q00,q4Y n (by lia)]
  have b1:(nL os).length<=big:=by rw[q0X,q0K];lia
  rw[ho] at a1;rw[qHD,q0F,q0i,a2,q00,a1,q0P,q00,if_pos b1,q04];rfl
 obtain⟨N,m⟩:=d.mix (0+1+t);have e2:∃c:Nat,c<=3/\ev G subC qEL (ruE M s n acc t os x y) = .ok (nI c):=by
  have v0:ev G subC (.var 0) (ruE M s n acc t os x y) = .ok s:=rfl;have v5:ev G subC (.var 5) (ruE M s n acc t os x y) = .ok (nI t):=rfl;have v1:ev G subC (.var 1) (ruE M s n acc t os x y) = .ok (nI 0):=rfl;have k1:ev G subC (.op .add (.op .add (.var 1) (.con (.int 1))) (.var 5)) (ruE M s n acc t os x y) = .ok (nI (0+1+t)):=by have h2:opD .add (nI 0) (.int 1) = .ok (nI (0+1)):=add_n 0 1;rw[q0m,q0m,v1,q00,q0I,q00,h2,q00,v5,q00,add_n]
  have c1:=qA7 (c:=6) (by decide) (q0U v0 k1 m);have h1:ev G subC (.lst [(.con (.int 1)),(.con (.int 1)),(.con (.int 2)),(.con (.int 2)),(.con (.int 3)),(.con (.int 0))]) (ruE M s n acc t os x y) = .ok (.lst (nL [1,1,2,2,3,0])):=q22 rfl (by simp);have h3:∃P:Nat,P<=3/\[1,1,2,2,3,0][N % 6]? = some P:=by
   have h6:N % 6<6:=Nat.mod_lt _ (by decide)
   match N % 6,h6 with
   |0,_=>exact⟨1,by decide,rfl⟩
   |1,_=>exact⟨1,by decide,rfl⟩
   |2,_=>exact⟨2,by decide,rfl⟩
   |3,_=>exact⟨2,by decide,rfl⟩
   |4,_=>exact⟨3,by decide,rfl⟩
   |5,_=>exact⟨0,by decide,rfl⟩
  obtain⟨P,p1,p3⟩:=h3;refine⟨P,p1,?_⟩;rw[qEL,q25,h1,q00];refine (congrArg (λ z:R D=>z.bind λ y=>idxD (.lst (nL [1,1,2,2,3,0])) y) c1).trans ?_;exact q7O _ _ _ (by unfold nL;rw[Qs,p3];rfl)
 obtain⟨c,hc,e2⟩:=e2;obtain⟨vs,x2,y2,hv,hvl,e3⟩:=qA8 d hol hon (Qg c) acc x y (by rw[QK];lia);refine⟨vs,some (.val (.lst (nL os))),x2,y2,hv,by rw[hvl,QK];lia,?_⟩;have e4:ex G subC (.forr 0 [7] (.rng [qEL]) q7v) (ruE M s n acc t os x y) = .ok (ruE M s n (acc++vs) t os x2 y2) .nx:=by rw[q2E,q1Q,evs1 e2,q00,q4Y c (by lia),q04,e3]
 rw[q4G,q05 e1,q05 e4,q0L];rfl
theorem qA9 {s:D}(d:Draw G s) (hn:n<=5):∀(ts:List Nat) (acc:List Wn) (t o x y:Option Sl),(∀u∈ts,u<n)->acc.length+3*ts.length<=1000->
  ∃(vs:List Wn) (t' o' x' y':Option Sl),(∀w∈vs,GoodW n w)/\vs.length<=3*ts.length/\q1D (exs G subC q4G) 0 [5] (nL ts) (ruE2 M s n acc t o x y) = .ok (ruE2 M s n (acc++vs) t' o' x' y') .nx
 |[],acc,t,o,x,y,_,_=>⟨[],t,o,x,y,by simp,by simp,by simp[q1k]⟩
 |u::ts,acc,t,o,x,y,hu,hl=>by
  simp only[Qo] at hl;obtain⟨vs,o1,x1,y1,hv,hvl,e1⟩:=qHV d hn (hu u Qb) (acc:=acc) (o:=o) (x:=x) (y:=y) (by lia);obtain⟨vs2,t2,o2,x2,y2,hv2,hvl2,e2⟩:=qA9 d hn ts (acc++vs) (some (.val (nI u))) o1 x1 y1 (λ v hv=>hu v (Qa _ hv)) (by simp;lia);refine⟨vs++vs2,t2,o2,x2,y2,λ w hw=>?_,by simp;lia,?_⟩
  ·rcases Qm.mp hw with h|h
   ·exact hv w h
   ·exact hv2 w h
  ·rw[q1J,q0R];have:List.set (ruE2 M s n acc t o x y) 5 (some (.val (nI u)))=ruE2 M s n acc (some (.val (nI u))) o x y:=rfl;rw[this,e1,q1i,e2,Jw]
end Mk
namespace Mk
open Ev
variable {n:Nat}{ws:List Wn}{G:Nat->List D->R D}
theorem q3u:∀{l:List D}{d:D},d∈dedup l->d∈l
 |[],_,h=>h
 |x::l,d,h=>by
  rw[dedup] at h;split at h
  ·exact Qa _ (q3u h)
  ·rcases Qf.mp h with rfl|h
   ·exact Qb
   ·exact Qa _ (q3u h)
theorem q6n:∀{l:List D},(dedup l).Pairwise λ a b=>eqb a b=false
 |[]=>List.Pairwise.nil
 |x::l=>by
  rw[dedup];split
  ·exact q6n
  ·rename_i h;refine QF.mpr ⟨λ d hd=>?_,q6n⟩;cases q:eqb x d with
   |false=>rfl
   |true=>exact absurd (Q1.mpr ⟨d,q3u hd,q⟩) h
theorem q8A:∀l:List D,(dedup l).length<=l.length
 |[]=>Qi _
 |x::l=>by
  have:=q8A l;rw[dedup];split
  ·simp;lia
  ·simp;lia
theorem qKI (w:Wn):q02 (wD w)=true:=by rw[<-q4J];exact qCU _
theorem qFQ {n:Nat}:∀{l:List D},(∀d∈l,∃w,GoodW n w/\d=wD w)->∃ws:List Wn,(∀w∈ws,GoodW n w)/\l=ws.map wD
 |[],_=>⟨[],by simp,rfl⟩
 |d::l,h=>by obtain⟨w,hw,rfl⟩:=h d Qb;obtain⟨ws,hws,rfl⟩:=qFQ λ e he=>h e (Qa _ he);exact⟨w::ws,Jf.mpr ⟨hw,hws⟩,rfl⟩
theorem qFR {α:Type}{R:α->α->Prop}:∀{l:List α},l.Pairwise R->∀(p:Nat) (a b:α),l[p]? = some a->l[p+1]? = some b->R a b
 |[],_,p,a,b,h,_=>by simp at h
 |x::l,h,0,a,b,h1,h2=>by obtain⟨h3,_⟩:=QF.mp h;simp at h1;subst h1;rw[List.getElem?_cons_succ] at h2;exact h3 b (Qk h2)
 |x::l,h,p+1,a,b,h1,h2=>by obtain⟨_,h4⟩:=QF.mp h;rw[List.getElem?_cons_succ] at h1 h2;exact qFR h4 p a b h1 h2
theorem qET (hn:n<=5) {acc:List Wn}(h:∀w∈acc,GoodW n w) (hl:acc.length<=60):∃ws:List Wn,Good n ws/\biD subC .sortedSet [.lst (acc.map wD)] = .ok (.lst (ws.map wD)):=by
 generalize hd:dedup (acc.map wD)=dd;have hdm:∀d∈dd,∃w,GoodW n w/\d=wD w:=λ d hx=>by rw[<-hd] at hx;obtain⟨w,hw,rfl⟩:=Qq.mp (q3u hx);exact⟨w,h w hw,rfl⟩
 have hp:=q18 dd;have hhd:∀d∈dd,q02 d=true:=λ d hx=>by obtain⟨w,_,rfl⟩:=hdm d hx;exact qKI w
 have hcd:∀a∈dd,∀b∈dd,q0r a b=true:=λ a ha b hb=>by obtain⟨v,_,rfl⟩:=hdm a ha;obtain⟨w,_,rfl⟩:=hdm b hb;rw[<-q4J,<-q4J];exact qFN _ _ rfl rfl
 have hpw:dd.Pairwise λ a b=>eqb a b=false:=by rw[<-hd];exact q6n
 have hnd:dd.Nodup:=by refine List.Pairwise.imp_of_mem (λ {a b} ha hb hab e=>?_) hpw;subst e;rw[(q0Y (hhd a ha) (hhd a ha)).mpr rfl] at hab;cases hab
 have hlen:dd.length<=60:=by rw[<-hd];exact Qn (q8A _) (by rw[Qh];exact hl)
 obtain⟨ws,hws,hwe⟩:=qFQ (l:=q21 dd) λ d hx=>hdm d (hp.mem_iff.mp hx);have hrise:(ws.map wD).Pairwise λ a b=>ltb a b=true:=by
  rw[<-hwe];have h1:(q21 dd).Nodup:=hp.nodup_iff.mpr hnd;have h2:=q24 hhd;refine List.Pairwise.imp_of_mem (λ {a b} ha hb hab=>?_) (List.Pairwise.and h1 h2);rcases q8X (hhd a (hp.mem_iff.mp ha)) (hhd b (hp.mem_iff.mp hb)) (hcd a (hp.mem_iff.mp ha) b (hp.mem_iff.mp hb)) with t|t|t
  ·exact t
  ·exact absurd t hab.1
  ·rw[hab.2] at t;cases t
 refine⟨ws,⟨hn,?_,λ w hw=>qEO.mpr (hws w hw),λ p hpl v w h1 h2=>?_⟩,?_⟩
 ·have:(ws.map wD).length=dd.length:=by rw[<-hwe];exact hp.length_eq
  rw[Qh] at this;lia
 ·refine qFR hrise p (wyD v) (wyD w) ?_ ?_
  ·rw[<-q8s,Qs,h1];rfl
  ·rw[<-q8s,Qs,h2];rfl
 ·have s1:q09 (acc.map wD)=true:=q0Q.mpr λ d hx=>by obtain⟨w,_,rfl⟩:=Qq.mp hx;exact qKI w
  have s2:plL (acc.map wD)=true:=q1R.mpr λ d hx=>by obtain⟨w,_,rfl⟩:=Qq.mp hx;rw[<-q4J];exact qEN _
  have s3:decide ((acc.map wD).length<=1000)=true:=decide_eq_true (by rw[Qh];lia);have t1:q09 dd=true:=q0Q.mpr hhd;have t2:plL dd=true:=q1R.mpr λ d hx=>by obtain⟨w,_,rfl⟩:=hdm d hx;rw[<-q4J];exact qEN _
  have t3:q3V q0r dd=true:=Qw.mpr λ a ha=>Qw.mpr λ b hb=>hcd a ha b hb;have t4:dedup dd=dd:=q6m hpw;have t5:dd.all q32=true:=Qw.mpr λ d hx=>by obtain⟨w,_,rfl⟩:=hdm d hx;rfl
  have t6:decide (dd.length<64)=true:=decide_eq_true (by lia);have s4:q1h dd=true:=by unfold q1h qDO;rw[t1,t2,t3,t4,t5,t6];simp
  rw[q4Z,qAV,q00,s1,s2,s3,hd,s4,<-hwe];rfl
theorem qHW (k:Nat) (zs:List Int) (i:Nat):∃N:Nat,Gm (k+2) 25 [.lst (iL zs),nI i] = .ok (nI N):=by obtain⟨c,hc⟩:=qES (G:=Gm k) zs i;obtain⟨N,h⟩:=qHT (G:=Gm (k+1)) (.lst (iL zs)) i ⟨c,(q1S k 24 _ 2 2 q1f rfl rfl).trans hc⟩;exact⟨N,(q1S (k+1) 25 _ 2 3 q2j rfl rfl).trans h⟩
theorem qFS (k:Nat) (zs:List Int):Draw (Gm (k+3)) (.lst (iL zs)):=by refine⟨λ i=>qHW (k+1) zs i,λ i o ho=>?_⟩;obtain⟨l,hl,h⟩:=qAh (G:=Gm (k+2)) (.lst (iL zs)) i o ho (qHW k zs i);exact⟨l,hl,(q1S (k+2) 26 _ 3 4 q20 rfl rfl).trans h⟩
end Mk
namespace Mk
open Ev
variable {l:List D}{x d:D}{ρ:Env}{a:L}
variable {n:Nat}{ws:List Wn}{G:Nat->List D->R D}
theorem qEU (h:l.getLast? = some x):idxD (.lst l) (.int (-1)) = .ok x:=by
 have hne:l≠[]:=λ e=>by subst e;simp at h
 have hl:0<l.length:=List.length_pos_iff.mpr hne;rw[List.getLast?_eq_getElem?] at h;show nth l (-1)=_;unfold nth;rw[if_neg (by lia),if_pos (by lia)];have:((-1:Int)+(l.length:Int)).toNat=l.length-1:=by lia
 rw[this,h]
theorem qCn (h:pl d=true) (h2:eqb d d=true):cmD .ne d d = .ok (.bl false):=by
 have:cmD .ne d d=if pl d&&pl d then .ok (.bl (!eqb d d)) else .stuck:=rfl
 rw[this,h,h2];rfl
theorem qHX (h:pl d=true) (h2:eqb d d=true):cmD .eq d d = .ok (.bl true):=by
 have:cmD .eq d d=if pl d&&pl d then .ok (.bl (eqb d d)) else .stuck:=rfl
 rw[this,h,h2];rfl
theorem q8B (h:∀d∈l,eqb d d=true):eqbL l l=true:=by
 induction l with
 |nil=>simp[eqbL]
 |cons a l ih=>rw[eqbL,h a Qb,ih λ d hd=>h d (Qa _ hd)];rfl
theorem qLz (m:Nat):eqb (tD m) (tD m)=true:=by unfold tD;rw[q7L];simp
theorem qM0 (l:List Nat):pl (.lst (l.map tD))=true:=by unfold pl;rw[q3D];exact Qw.mpr λ d hd=>by obtain⟨a,_,rfl⟩:=Qq.mp hd;simp[tD]
theorem qKJ (l:List Nat):eqb (.lst (l.map tD)) (.lst (l.map tD))=true:=by rw[eqb];exact q8B λ d hd=>by obtain⟨a,_,rfl⟩:=Qq.mp hd;exact qLz a
theorem qKK (l:List Nat):eqb (.lst (nL l)) (.lst (nL l))=true:=by rw[eqb];exact q8B λ d hd=>by obtain⟨a,_,rfl⟩:=Qq.mp hd;simp
theorem qHY (g:Good n ws):(due n ws).length<=32:=by have hn:=g.n5;refine Qn (Qu _ _) ?_;exact Qn (q1c (2^n) _ (q2C hn) λ x hx=>(q2K hn x).mp hx) (Qn (QC (by decide) hn) (by decide))
theorem qCo (g:Good n ws) {m:Nat}(h:m∈due n ws):m<32:=by have:=q1H ((q0k g m).mp h);rw[q0j] at this;exact Qp this (QC (by decide) g.n5:2^n<=2^5)
theorem q2M {f:Nat}{b c:L}{y z:D}(h1:ev G subC a ρ = .ok x) (h2:ev G subC b ρ = .ok y) (h3:ev G subC c ρ = .ok z) (h:G f [x,y,z] = .ok d):ev G subC (.call f [a,b,c]) ρ = .ok d:=by rw[q0h,q0D,h1,q00,evs2 h2 h3,q00,q00,h]
theorem q0e {o:Cm}{b:L}{y:D}{r:R D}(h1:ev G subC a ρ = .ok x) (h2:ev G subC b ρ = .ok y) (h:cmD o x y=r):ev G subC (.cm o a b) ρ=r:=by rw[qAU,h1,q00,h2,q00,h]
theorem q0p {b:Bool}(h:ev G subC a ρ = .ok (.bl b)):tst G subC (.e a) ρ = .ok b:=by rw[q7J,h,q00,qDU]
theorem qHZ {a b:T}(h1:tst G subC a ρ = .ok false) (h2:tst G subC b ρ = .ok false):tst G subC (.or a b) ρ = .ok false:=by rw[qEx,h1,q00,if_neg (by simp),h2]
theorem qCp {c:T}{l:List S}(h:tst G subC c ρ = .ok false):ex G subC (.ifs c l []) ρ = .ok ρ .nx:=by rw[q4y,h,q04,if_neg (by simp),q0L]
theorem qHa (ρ:Env):ev G subC (.neg (.con (.int 1))) ρ = .ok (.int (-1)):=rfl
theorem q5W {i:Nat}(h:ev G subC (.var i) ρ = .ok (.lst l)) (hx:l.getLast? = some x):ev G subC (.idx (.var i) (.neg (.con (.int 1)))) ρ = .ok x:=by rw[q25,h,q00,qHa,q00,qEU hx]
theorem q66:∀(l:List Nat),bools? (l.map λ _=>D.bl true)=some (l.map λ _=>true)
 |[]=>rfl
 |x::l=>by simp[bools?,q66 l]
def badZ (n:Nat):Nat->List Int
 |0=>[n]
 |1=>[-1]
 |2=>[0,0]
 |_=>[1,0]
theorem qEV (n i:Nat):q0l n (-1) (badZ n i)=false:=by
 match i with
 |0=>simp[badZ,q0l]
 |1=>simp[badZ,q0l]
 |2=>simp[badZ,q0l]
 |i+3=>simp[badZ,q0l]
theorem qCq {α:Type}{l:List α}{f:α->D}{x:L}{it:I}(h1:evi G subC it ρ = .ok (l.map f)) (h2:∀a∈l,ev G subC x (some (.val (f a))::ρ) = .ok d) (hl:l.length<=1000):ev G subC (.comp 0 x it []) ρ = .ok (.lst (l.map λ _=>d)):=by
 have a2:q0O (ev G subC x) (tsts G subC []) 0 ρ (l.map f) = .ok ((l.filter λ _=>true).map λ _=>d) :=
  q0J (us:=λ a=>[f a]) λ a ha=>⟨rfl,rfl,λ _=>h2 a ha⟩
 rw[filter_tt] at a2;rw[q0i,h1,q00,a2,q0P,q00,if_pos (by rw[Qh,q0K];lia)]
end Mk
namespace Mk
open Ev
variable {k t:Nat}
variable {nd:List (List Nat)}{b:Nat}
theorem q4N (m:Nat):(q01 m).Nodup:=(Jn).filter _
theorem bits_add (h:k.testBit t=false):(q01 (k ||| 1 <<< t)).length=(q01 k).length+1:=by
 have p:(q01 (k ||| 1 <<< t)).Perm (t::q01 k):=by
  refine qHQ (q4N _) (QD.mpr ⟨λ g=>?_,q4N k⟩) λ x=>?_
  ·rw[q06,h] at g;cases g
  ·rw[q06,q0b,Q6,decide_eq_true_eq,Qf,q06];exact⟨λ g=>g.elim .inr λ e=> .inl e.symm,λ g=>g.elim (λ e=> .inr e.symm) .inl⟩
 rw[p.length_eq];rfl
theorem q2N (m:Nat):(q01 m).Pairwise (· < ·):=List.pairwise_lt_range.filter _
theorem bits_sub (h:Sm k b):(q01 k).length<=(q01 b).length:=by
 have e:q01 k=(q01 b).filter k.testBit:=q4M (q2N k) ((q2N b).filter _) λ x=>by rw[QG,q06,q06];exact⟨λ g=>⟨h x g,g⟩,λ g=>g.2⟩
 rw[e];exact Qu _ _
theorem q8v (h:Sm k b) (hne:k≠b):(q01 k).length<(q01 b).length:=by
 obtain⟨t,h1,h2⟩:∃t,b.testBit t=true/\k.testBit t=false:=by
  refine QJ λ g=>hne (q1p h λ i hi=>?_);cases q:k.testBit i with
  |true=>rfl
  |false=>exact absurd ⟨i,hi,q⟩ g
 have s:Sm (k ||| 1 <<< t) b:=λ i hi=>by rw[q0b,Q6] at hi;exact hi.elim (h i) λ e=>(of_decide_eq_true e)▸h1
 have:=bits_sub s;rw[bits_add h2] at this;exact this
def remB (b k:Nat):Nat:=(q01 b).length-(q01 k).length
theorem qAA:remB b b=0:=Nat.sub_self _
theorem q1N:t∈q0G nd k b↔b.testBit t=true/\mayL nd k t=true:=by unfold q0G;rw[QG,q06]
theorem q6o (s:Sm k b) (h:t∈q0G nd k b):Sm (k ||| 1 <<< t) b:=λ i hi=>by rw[q0b,Q6] at hi;exact hi.elim (s i) λ e=>(of_decide_eq_true e)▸(q1N.mp h).1
theorem qAB (s:Sm k b) (h:t∈q0G nd k b):remB b k=remB b (k ||| 1 <<< t)+1:=by have h1:=bits_add (q1q (q1N.mp h).2);have h2:=bits_sub (q6o s h);unfold remB;lia
theorem q8C (hb:Rch nd b) (r:Rch nd k) (s:Sm k b) (hne:k≠b):q0G nd k b≠[]:=λ e =>
 hne (q1p s ((qA0 r s e).2.2 b hb (q3I b)))
theorem qCr (r:List Nat) (t m:Nat):q03 m (r++[t])=q03 m r ||| 1 <<< t:=by unfold q03;rw[List.foldl_append];rfl
end Mk
namespace Mk
open Ev
variable {nd:List (List Nat)}{b:Nat}
structure InvB (nd:List (List Nat)) (b:Nat) (ks ws:List Nat):Prop where
 nodup:ks.Nodup
 rch:∀x∈ks,Rch nd x/\Sm x b
 zero:0∈ks
 sub:∀x∈ws,x∈ks
 cl:∀x∈ks,x∈ws\/∀t∈q0G nd x b,x ||| 1 <<< t∈ks
theorem qAC (K:Nat) (hn:nd.length<=9) (hb:b<2^nd.length):∀(f:Nat) (ks ws:List Nat) (x y z:Option Sl),InvB nd b ks ws->ws.length<=ks.length->2^nd.length-ks.length+ws.length<f->
  ∃ks' x' y' z',InvB nd b ks' []/\q0x (tst (Gm (K+3)) subC (.e (.bor 3))) (exs (Gm (K+3)) subC q6g) f [some (.val (ndD nd)),some (.val (nI b)),some (.own (.dct (nL ks) (trs ks.length))),some (.own (.lst (nL ws))),x,y,z] =
   .ok [some (.val (ndD nd)),some (.val (nI b)),some (.own (.dct (nL ks') (trs ks'.length))),some (.own (.lst [])),x',y',z'] .nx
 |0,ks,ws,x,y,z,_,_,h=>absurd h (by lia)
 |f+1,ks,ws,x,y,z,I,hl,h=>by
  rw[q1e];rcases List.eq_nil_or_concat ws with rfl|⟨ws,k,rfl⟩
  ·exact⟨ks,x,y,z,I,by simp⟩
  ·have hN:2^nd.length<=1000:=Qn (QC (by decide) hn) (by decide);have hkk:k∈ks:=I.sub k (by simp);obtain⟨hk,hkb⟩:=I.rch k hkk;have hlt:∀x∈ks,x<2^nd.length:=λ x hx=>q1H (I.rch x hx).1;generalize hts:q0G nd k b=ts;have hmts:∀t∈ts,mayL nd k t=true:=λ t ht=>by rw[<-hts] at ht;exact (QG.mp ht).2
   have hallts:∀t∈q0G nd k b,t∈ts:=λ t ht=>by rw[<-hts];exact ht
   have htt:∀t∈ts,t<=1000/\k ||| 1 <<< t<2^nd.length:=λ t ht=>⟨by have:=q5S (hmts t ht);lia,q1H (.s hk (hmts t ht))⟩
   have hl':ws.length<=ks.length:=(by simp at hl;lia);obtain⟨x',y',e⟩:=qA2 (G:=Gm (K+3)) (some (.val (ndD nd))) (some (.val (nI b))) (2^nd.length) k hN ts ks ws y z I.nodup hlt htt hl';have hnd:=q2z (k:=k) ts ks I.nodup;have hrch:∀x∈ks++newL k ks ts,Rch nd x/\Sm x b:=λ x hx=>by
    rcases Qm.mp hx with h|h
    ·exact I.rch x h
    ·obtain⟨t,ht,rfl⟩:=q4s ts ks h;exact⟨.s hk (hmts t ht),q6o hkb (hts.symm▸ht)⟩
   have I':InvB nd b (ks++newL k ks ts) (ws++newL k ks ts):=by
    refine⟨hnd,hrch,Qv _ I.zero,λ x hx=>?_,λ x hx=>?_⟩
    ·rcases Qm.mp hx with h|h
     ·exact Qv _ (I.sub x (by simp[h]))
     ·exact Qj _ h
    ·rcases Qm.mp hx with h|h
     ·by_cases q:x=k
      ·subst q;exact .inr λ t ht=>q4t ts ks t (hallts t ht)
      ·rcases I.cl x h with g|g
       ·refine .inl (Qv _ ?_);simp at g;exact g.resolve_right q
       ·exact .inr λ t ht=>Qv _ (g t ht)
     ·exact .inl (Qj _ h)
   have hlen:=q1c _ _ hnd λ x hx=>q1H (hrch x hx).1;obtain⟨ks',x2,y2,z2,I2,e2⟩:=qAC K hn hb f (ks++newL k ks ts) (ws++newL k ks ts) (some (.val (nI k))) x' y' I' (by simp;lia) (by simp at h hlen |-;lia);refine⟨ks',x2,y2,z2,I2,Eq.trans ?_ e2⟩;have e3:=q5R K nd k b hb (by lia);rw[hts] at e3;simp[q6g,e3,e]
theorem qEW {ks:List Nat}(I:InvB nd b ks []) (x:Nat):x∈ks↔Rch nd x/\Sm x b:=by
 refine⟨I.rch x,λ h=>?_⟩;obtain⟨h,s⟩:=h
 induction h with
 |z=>exact I.zero
 |@s k t hk hm ih =>
  rcases I.cl _ (ih (q2J (q4I _ _) s)) with h|h
  ·cases h
  ·exact h _ (q1N.mpr ⟨s t (by rw[q0b];simp),hm⟩)
theorem qKL (K:Nat) (hn:nd.length<=9) (hb:b<2^nd.length):∃ks:List Nat,ks.Nodup/\(∀x,x∈ks↔Rch nd x/\Sm x b)/\Gm (K+4) 8 [ndD nd,nI b] = .ok (.dct (nL ks) (trs ks.length)):=by
 have hN:2^nd.length<=1000:=Qn (QC (by decide) hn) (by decide);have h0:InvB nd b [0] [0]:=⟨by simp,λ x hx=>by rw[Qt] at hx;subst hx;exact⟨.z,q6h _⟩,by simp,λ x hx=>hx,λ x hx=> .inl hx⟩
 obtain⟨ks,x,y,z,I,e⟩:=qAC K hn hb 100000 [0] [0] none none none h0 (by simp) (by simp;lia);refine⟨ks,I.nodup,qEW I,?_⟩;show Ev.run (Gm (K+3)) subC 7 [.setO 2 (.dct (.con (.int 0)) (.con (.bl true))),.setO 3 (.lst [(.con (.int 0))]),.whl (.e (.bor 3)) q6g,.retO 2] [ndD nd,nI b]=_;generalize hW:ex (Gm (K+3)) subC (.whl (.e (.bor 3)) q6g)=W;have hw':=congrFun hW [some (.val (ndD nd)),some (.val (nI b)),some (.own (.dct (nL [0]) (trs 1))),some (.own (.lst (nL [0]))),none,none,none];rw[q5i] at hw';replace hw':=e.symm.trans hw';simp only[Ev.run,q0s,q0L,hW];have hb:(1:Nat)<=big:=by decide
 simp[hb];rw[show (D.int 0)=nI 0 from rfl];have hw2:W [some (.val (ndD nd)),some (.val (nI b)),some (.own (.dct [nI 0] [.bl true])),some (.own (.lst [nI 0])),none,none,none]=_:=hw'.symm;rw[hw2];simp
end Mk
namespace Mk
open Ev
variable {ks:List Nat}{ρ:Env}
theorem qFT (h:ks.Nodup) (hl:ks.length<64):q1h (nL ks)=true:=by
 have h3:q3V q0r (nL ks)=true:=by unfold q3V;refine Qw.mpr λ a ha=>Qw.mpr λ b hb=>?_;obtain⟨x,_,rfl⟩:=Qq.mp ha;obtain⟨y,_,rfl⟩:=Qq.mp hb;simp[nI,q0r]
 have h4:dedup (nL ks)=nL ks:=q6m (Jh.mpr (h.imp λ {a b} hab=>by
  cases q:eqb (nI a) (nI b) with
  |false=>rfl
  |true=>exact absurd ((qBJ a b).mp ((q0Y (q8c a) (q8c b)).mp q)) hab))
 have h5:(nL ks).all q4X=true:=Qw.mpr λ d hd=>by obtain⟨a,_,rfl⟩:=Qq.mp hd;rfl
 unfold q1h qDO;rw[qBL,qIo,h3,h4,h5,q0X];simp[hl]
theorem comp_map {G:Nat->List D->R D}{α:Type}{l:List α}{f g:α->D}{x:L}{it:I}(h1:evi G subC it ρ = .ok (l.map f)) (h2:∀a∈l,ev G subC x (some (.val (f a))::ρ) = .ok (g a)) (hl:l.length<=1000):ev G subC (.comp 0 x it []) ρ = .ok (.lst (l.map g)):=by
 have c:q0O (ev G subC x) (tsts G subC []) 0 ρ (l.map f) = .ok ((l.filter λ _=>true).map g):=q0J (us:=λ a=>[f a]) λ a ha=>⟨rfl,rfl,λ _=>h2 a ha⟩
 rw[q0i,h1,q00,c,q0P,q00,filter_tt,if_pos (by rw[Qh,q0K];lia)]
variable {n:Nat}{ws:List Wn}{G:Nat->List D->R D}
theorem qKM:∀(l:List D),(∀d∈l,∃a:Nat,d=nI a)->∃ss:List Nat,l=nL ss
 |[],_=>⟨[],rfl⟩
 |d::l,h=>by obtain⟨a,rfl⟩:=h d Qb;obtain⟨ss,rfl⟩:=qKM l λ d hd=>h d (Qa _ hd);exact⟨a::ss,rfl⟩
theorem qCs (h:ks.Nodup):q21 (nL ks)=nL (q01 (q03 0 ks)):=by
 have h1:Srt (q21 (nL ks)):=q24 λ d hd=>q0Q.mp (qBL ks) d hd;have h2:=q18 (nL ks);obtain⟨ss,hm⟩:∃ss:List Nat,q21 (nL ks)=nL ss:=qKM (q21 (nL ks)) λ d hd=>by obtain⟨a,_,rfl⟩:=Qq.mp (h2.mem_iff.mp hd);exact⟨a,rfl⟩
 have hp:ss.Perm ks:=by
  rw[hm] at h2;have:=h2.map λ d=>match d with|D.int i=>i.toNat|_=>0
  unfold nL at this;rw[Jv,Jv] at this;simpa[Function.comp_def,nI] using this
 have asc:ss.Pairwise (· < ·):=by
  have h3:(nL ss).Pairwise (λ a b=>ltb b a=false):=by rw[<-hm];exact h1
  unfold nL at h3;rw[Jh] at h3;refine (h3.and (hp.symm.nodup h)).imp λ {a b} hab=>?_;have e:ltb (nI b) (nI a)=decide ((b:Int)<a):=by simp[nI,ltb]
  have:=hab.1;rw[e] at this;have:=of_decide_eq_false this;have:=hab.2;lia
 rw[hm];congr 1;refine q4M asc (q2N _) λ x=>?_;rw[q06,q1b,decide_eq_true_eq];exact hp.mem_iff
theorem qEX (h:ks.Nodup) (hl:ks.length<64):biD subC .sorted [.lst (nL ks)] = .ok (.lst (nL (q01 (q03 0 ks)))):=by rw[qBO,q3X,q00,qFT h hl,if_pos rfl,qCs h]
def ddN:List Nat->List Nat
 |[]=>[]
 |x::l=>if x∈l then ddN l else x::ddN l
theorem q6p:∀{l:List Nat}{x:Nat},x∈ddN l↔x∈l
 |[],x=>Iff.rfl
 |y::l,x=>by
  unfold ddN
  by_cases h:y∈l
  ·rw[if_pos h,q6p,Qf];exact⟨.inr,λ g=>g.elim (λ e=>e▸h) id⟩
  ·rw[if_neg h,Qf,Qf,q6p]
theorem q3v:∀l:List Nat,(ddN l).Nodup
 |[]=>Jp
 |y::l=>by
  unfold ddN
  by_cases h:y∈l
  ·rw[if_pos h];exact q3v l
  ·rw[if_neg h];exact QD.mpr ⟨λ g=>h (q6p.mp g),q3v l⟩
theorem qCt:∀l:List Nat,(ddN l).length<=l.length
 |[]=>Qi _
 |y::l=>by
  unfold ddN;have:=qCt l
  by_cases h:y∈l
  ·rw[if_pos h,Qo];lia
  ·rw[if_neg h,Qo,Qo];lia
theorem q8w:∀l:List Nat,dedup (nL l)=nL (ddN l)
 |[]=>rfl
 |y::l=>by
  have e:(nL l).any (eqb (nI y))=decide (y∈l):=by
   rw[QB,Q1,decide_eq_true_eq];constructor
   ·rintro⟨d,hd,he⟩;obtain⟨a,ha,rfl⟩:=Qq.mp hd;rw[(qBJ y a).mp ((q0Y (q8c y) (q8c a)).mp he)];exact ha
   ·intro h;exact⟨nI y,Qq.mpr ⟨y,h,rfl⟩,(q0Y (q8c y) (q8c y)).mpr rfl⟩
  rw[q1J,dedup,e,ddN]
  by_cases h:y∈l
  ·rw[decide_eq_true h,if_pos rfl,if_pos h];exact q8w l
  ·rw[decide_eq_false h,if_neg (by simp),if_neg h,q1J,q8w l]
theorem q5X (l:List Nat) (hl:l.length<64):biD subC .sortedSet [.lst (nL l)] = .ok (.lst (nL (q01 (q03 0 l)))):=by
 have e:q03 0 (ddN l)=q03 0 l:=QV λ i=>by rw[q1b,q1b,QB,decide_eq_true_eq,decide_eq_true_eq,q6p]
 have h:=qCt l;rw[q4Z];show (R.ok (nL l)).bind _=_;rw[q00,qBL,qIo,q8w,qFT (q3v l) (by lia),q0X,decide_eq_true (by lia),qCs (q3v l),e];rfl
theorem qEY {nd:List (List Nat)}{b:Nat}(hb:b<32) (k:Nat):(q0G nd k b).length<=5:=Qn (Qu _ _) (q16 hb)
theorem qAi {s:D}{M:Nat}(hM:M<=5) (d:Draw G s):∃(n:Nat) (ws:List Wn),Good n ws/\Ev.run G subC 9 q1o [s,nI 0,nI M] = .ok (rD n ws):=by
 obtain⟨N,m⟩:=d.mix 0;have hn:N % (M+1)<=5:=by have:=Nat.mod_lt N (Nat.succ_pos M);lia
 generalize hN:N % (M+1)=n at hn;obtain⟨vs,t,o,x,y,hv,hvl,e⟩:=qA9 (M:=M) (n:=n) d hn (Qg n) [] none none none none (λ u hu=>QE.mp hu) (by simp;lia);rw[QK] at hvl;obtain⟨ws,hg,es⟩:=qET hn hv (by lia);refine⟨n,ws,hg,?_⟩;have e1:ex G subC qEM [some (.val s),some (.val (nI 0)),some (.val (nI M)),none,none,none,none,none,none] = .ok [some (.val s),some (.val (nI 0)),some (.val (nI M)),some (.val (nI n)),none,none,none,none,none] .nx:=by
  have v0:ev G subC (.var 0) [some (.val s),some (.val (nI 0)),some (.val (nI M)),none,none,none,none,none,none] = .ok s:=rfl;have v1:ev G subC (.var 1) [some (.val s),some (.val (nI 0)),some (.val (nI M)),none,none,none,none,none,none] = .ok (nI 0):=rfl;have v2:ev G subC (.var 2) [some (.val s),some (.val (nI 0)),some (.val (nI M)),none,none,none,none,none,none] = .ok (nI M):=rfl;have h2:opD .add (nI M) (.int 1) = .ok (nI (M+1)):=add_n M 1;have h3:opD .mod (nI N) (nI (M+1)) = .ok (nI n):=by rw[qBK N (M+1) (Nat.succ_pos M),hN]
  rw[qEM,q0F,q0m,q0U v0 v1 m,q00,q0m,v2,q00,q0I,q00,h2,q00,h3,q04];rfl
 have e2:ex G subC (.setO 4 (.lst [])) [some (.val s),some (.val (nI 0)),some (.val (nI M)),some (.val (nI n)),none,none,none,none,none] = .ok (ruE2 M s n [] none none none none) .nx:=by rw[q3C,q22 (q0n _) (by simp),q04];rfl
 have e3:ex G subC (.forr 0 [5] (.rng [(.var 3)]) q4G) (ruE2 M s n [] none none none none) = .ok (ruE2 M s n vs t o x y) .nx:=by rw[q2E,q1Q,evs1 (G:=G) (x:=nI n) rfl,q00,q4Y n (by lia),q04,e];rfl
 have e4:ex G subC (.ret (.tup [(.var 3),(.bi .sortedSet [(.bor 4)])])) (ruE2 M s n vs t o x y) = .ok (ruE2 M s n vs t o x y) (.ret (rD n ws)):=by have v3:ev G subC (.var 3) (ruE2 M s n vs t o x y) = .ok (nI n):=rfl;have v4:ev G subC (.bor 4) (ruE2 M s n vs t o x y) = .ok (.lst (vs.map wD)):=rfl;rw[q34,q2L (evs2 v3 (by rw[q1P,evs1 v4,q00,es])) (by simp),q04];rfl
 refine q1T (ρ:=[some (.val s),some (.val (nI 0)),some (.val (nI M)),none,none,none,none,none,none]) (ρ':=ruE2 M s n vs t o x y) rfl (l:=q1o) ?_;show exs G subC [qEM,.setO 4 (.lst []),.forr 0 [5] (.rng [(.var 3)]) q4G,.ret (.tup [(.var 3),(.bi .sortedSet [(.bor 4)])])] _=_;rw[q05 e1,q05 e2,q05 e3];exact q0z e4
theorem qEZ (k:Nat) {M:Nat}(hM:M<=5) (zs:List Int):∃(n:Nat) (ws:List Wn),Good n ws/\Gm (k+4) 27 [.lst (iL zs),nI 0,nI M] = .ok (rD n ws):=by obtain⟨n,ws,hg,h⟩:=qAi hM (qFS k zs);exact⟨n,ws,hg,(q1S (k+3) 27 _ 3 9 q1o rfl rfl).trans h⟩
section
variable {r h w N a b d:D}{c:Nat}
theorem qKN {t:Bool}(e:G 16 [r,h] = .ok (.bl t)):Ev.run G subC 2 q0S [r,h]=if t=true then .ok .non else .err 2:=by cases t<;>simp[Ev.run,q0S,e]
theorem qKO (e:G 16 [r,h] = .err c):Ev.run G subC 2 q0S [r,h] = .err c:=by simp[Ev.run,q0S,e]
end
section
variable (g:Good n ws)
include g
theorem q3w (k:Nat) {m:Nat}(hm:m∈due n ws):Gm (k+8) 14 [rD n ws,tD m] = .ok .non:=by have hr:=(q0k g m).mp hm;have hlt:=q1H hr;rw[q0j] at hlt;obtain⟨c,hc,e⟩:=q4h g k m hlt;have:c=m:=q1p hc.2.1 (hc.2.2 m hr (q3I m));rw[this,decide_eq_true rfl] at e;exact (q1S (k+7) 14 _ 2 2 q0S rfl rfl).trans ((qKN e).trans (if_pos rfl))
theorem qEa (k:Nat) {m:Nat}(hlt:m<2^n) (hm:m∉due n ws):Gm (k+8) 14 [rD n ws,tD m] = .err 2:=by obtain⟨c,hc,e⟩:=q4h g k m hlt;have:¬c=m:=λ z=>hm ((q0k g m).mpr (z▸hc.1));rw[decide_eq_false this] at e;exact (q1S (k+7) 14 _ 2 2 q0S rfl rfl).trans ((qKN e).trans (if_neg (by simp)))
theorem qCu (k:Nat) {zs:List Int}(hz:q0l n (-1) zs=false):Gm (k+8) 14 [rD n ws,.tup (iL zs)] = .err 2:=by
 have h12:Gm (k+5) 13 [rD n ws,.tup (iL zs)] = .err 2:=by rw[q4g g,hz];rfl
 have h15:Gm (k+6) 17 [rD n ws,.tup (iL zs)] = .err 2:=(q1S (k+5) 17 _ 2 2 q5Q rfl rfl).trans (e_20 h12);have h14:Gm (k+7) 16 [rD n ws,.tup (iL zs)] = .err 2:=(q1S (k+6) 16 _ 2 2 q1L rfl rfl).trans (e_18 h15);exact (q1S (k+7) 14 _ 2 2 q0S rfl rfl).trans (qKO h14)
end
theorem q3x {f:Nat}{a b c e:L}{x y z w d:D}(h1:ev G subC a ρ = .ok x) (h2:ev G subC b ρ = .ok y) (h3:ev G subC c ρ = .ok z) (h4:ev G subC e ρ = .ok w) (h:G f [x,y,z,w] = .ok d):ev G subC (.call f [a,b,c,e]) ρ = .ok d:=by rw[q0h,q0D,h1,q00,q0D,h2,q00,evs2 h3 h4,q00,q00,q00,h]
theorem q8x {s:D}{i j c:Nat}{l:List D}(hs:ev G subC (.var i) ρ = .ok s) (hl:ev G subC (.var j) ρ = .ok (.lst l)) (hne:l≠[]) (hm:∃N:Nat,G 25 [s,nI c] = .ok (nI N)) :
  ∃d∈l,ev G subC (.idx (.var j) (.op .mod (.call 25 [(.var i),(.con (.int c))]) (.bi .len [(.var j)]))) ρ = .ok d:=by
 obtain⟨N,hm⟩:=hm;have hlen:0<l.length:=List.length_pos_iff.mpr hne;have hlt:=Nat.mod_lt N hlen;refine⟨l[N % l.length],QW _,?_⟩;have e1:ev G subC (.call 25 [(.var i),(.con (.int c))]) ρ = .ok (nI N):=q0U hs (y:=nI c) rfl hm;have e2:ev G subC (.bi .len [(.var j)]) ρ = .ok (nI l.length):=by rw[q1P,evs1 hl,q00,q26]
 rw[q25,hl,q00,q0m,e1,q00,e2,q00,qBK N _ hlen,q00];exact q7O _ _ _ (Ql hlt)
end Mk
namespace Mk
open Ev
variable {j k a t e:Nat}
variable {nd:List (List Nat)}
theorem q6q (r:Rch nd j) (h:¬Sm j k):∃t,j.testBit t=true/\mayL nd k t=true:=by
 induction r with
 |z=>exact absurd (q6h k) h
 |@s j t hj hm ih =>
  by_cases g:Sm j k
  ·refine⟨t,by rw[q0b];simp,?_⟩;rcases q6i g hm with q|q
   ·refine absurd (qHF g λ i hi=>?_) h;rw[Ju,Nat.testBit_two_pow] at hi;exact (of_decide_eq_true hi)▸q
   ·exact q
  ·obtain⟨u,h1,h2⟩:=ih g;exact⟨u,by rw[q0b,h1];rfl,h2⟩
theorem qAD (hj:Rch nd j) (ha:j<2^a) (h:∀t,t∈q0G nd k (2^a-1)->t∈q0G nd j (2^a-1)):Sm j k:=by refine QJ λ g=>?_;obtain⟨t,h1,h2⟩:=q6q hj g;have:=h t (q1N.mpr ⟨q2g.mpr (q64 ha h1),h2⟩);have:=q1q (q1N.mp this).2;rw[h1] at this;cases this
theorem qAE (hj:Rch nd j) (hk:Rch nd k) (ha:j<2^a) (hb:k<2^a) (h:q0G nd j (2^a-1)=q0G nd k (2^a-1)):j=k :=
 q1p (qAD hj ha λ t ht=>by rw[h];exact ht) (qAD hk hb λ t ht=>by rw[<-h];exact ht)
theorem qHb (h:Rch nd (k ||| 1 <<< t)) (q:k.testBit t=false):mayL nd k t=true:=by
 obtain⟨u,h1,h2⟩:=q6q (k:=k) h λ s=>by have:=s t (by rw[q0b];simp);rw[q] at this;cases this
 rw[q0b,q1q h2,Bool.false_or] at h1;exact (of_decide_eq_true h1)▸h2
noncomputable def q0v (nd:List (List Nat)) (m:Nat):List Nat:=(q01 m).filter λ t=>rB nd (wo m t)
theorem qEb {m:Nat}:t∈q0v nd m↔m.testBit t=true/\Rch nd (wo m t):=by unfold q0v;rw[QG,q06,q39]
theorem qFU {m:Nat}(h:m.testBit t=true):m ^^^ 1 <<< t=wo m t:=QV λ i=>by
 rw[q4i,Nat.testBit_xor,Ju,Nat.testBit_two_pow]
 by_cases e:t=i
 ·subst e;rw[h];simp
 ·have:¬i=t:=λ z=>e z.symm;simp[e,this]
theorem q8D {k:Nat}(hk:Rch nd k):∀(f:Nat) {e:Nat},remB k e=f->Rch nd e->Sm e k->e≠k->∃t,k.testBit t=true/\e.testBit t=false/\Rch nd (wo k t)
 |0,e,hf,_,s,hne=>by have:=q8v s hne;unfold remB at hf;lia
 |f+1,e,hf,he,s,hne=>by
  obtain⟨t,ht⟩:=List.exists_mem_of_ne_nil _ (q8C hk he s hne);have hm:=(q1N.mp ht)
  by_cases z:e ||| 1 <<< t=k
  ·exact⟨t,hm.1,q1q hm.2,by rw[<-z,qKE (q1q hm.2)];exact he⟩
  ·have:=qAB s ht;obtain⟨u,h1,h2,h3⟩:=q8D hk f (e:=e ||| 1 <<< t) (by lia) (.s he hm.2) (q6o s ht) z;rw[q0b,Bool.or_eq_false_iff] at h2;exact⟨u,h1,h2.1,h3⟩
def q1r (nd:List (List Nat)) (k e:Nat):List Nat:=(q01 e).filter (mayL nd k)
noncomputable def fewL (nd:List (List Nat)) (k e:Nat):List Nat:=(q0v nd k).filter λ t=>!e.testBit t
noncomputable def stp (nd:List (List Nat)) (e k:Nat):Nat:=match (q1r nd k e).head? with
 |some t=>k ||| 1 <<< t
 |none=>match (fewL nd k e).getLast? with
  |some t=>wo k t
  |none=>k
theorem q3y:t∈q1r nd k e↔e.testBit t=true/\mayL nd k t=true:=q1N
theorem qCv (s:Sm a k):q0G nd k (a ||| e)=q1r nd k e:=by refine q4M ((q2N _).filter _) ((q2N _).filter _) λ t=>?_;rw[q1N,q3y,Nat.testBit_or,Q6];refine⟨λ h=>⟨h.1.elim (λ g=>?_) id,h.2⟩,λ h=>⟨.inr h.1,h.2⟩⟩;have:=q1q h.2;rw[s t g] at this;cases this
theorem qEc (he:Rch nd e) (h:q1r nd k e=[]):Sm e k:=by refine QJ λ g=>?_;obtain⟨t,h1,h2⟩:=q6q he g;have:t∈q1r nd k e:=q3y.mpr ⟨h1,h2⟩;rw[h] at this;cases this
theorem q8y:t∈fewL nd k e↔k.testBit t=true/\e.testBit t=false/\Rch nd (wo k t):=by unfold fewL;rw[QG,qEb,Bool.not_eq_true'];exact⟨λ h=>⟨h.1.1,h.2,h.1.2⟩,λ h=>⟨⟨h.1,h.2.2⟩,h.2.1⟩⟩
theorem qAF (hk:Rch nd k) (he:Rch nd e) (s:Sm e k) (hne:e≠k):fewL nd k e≠[]:=λ z=>by obtain⟨t,h⟩:=q8D hk _ rfl he s hne;have:=q8y.mpr h;rw[z] at this;cases this
theorem qEd (s:Sm e k):q1r nd k e=[]:=by refine List.eq_nil_iff_forall_not_mem.mpr λ t ht=>?_;have h:=q3y.mp ht;have:=q1q h.2;rw[s t h.1] at this;cases this
inductive Step (nd:List (List Nat)) (e k:Nat):Prop
 |up (t:Nat) (l:List Nat) (h:q1r nd k e=t::l) (g:stp nd e k=k ||| 1 <<< t):Step nd e k
 |down (t:Nat) (s:Sm e k) (h:q1r nd k e=[]) (f:(fewL nd k e).getLast? = some t) (g:stp nd e k=wo k t):Step nd e k
theorem qCw (hk:Rch nd k) (he:Rch nd e) (hne:k≠e):Step nd e k:=by
 cases h:q1r nd k e with
 |cons t l=>exact .up t l h (by unfold stp;rw[h];rfl)
 |nil =>
  have s:=qEc he h;have f:=qAF hk he s λ z=>hne z.symm;obtain⟨t,ft⟩:∃t,(fewL nd k e).getLast? = some t:=⟨_,List.getLast?_eq_some_getLast f⟩
  exact .down t s h ft (by unfold stp;rw[h,List.head?_nil,ft])
inductive Road (nd:List (List Nat)) (e:Nat):Nat->List Nat->Prop
 |nil:Road nd e e []
 |cons {k:Nat}{l:List Nat}:k≠e->Road nd e (stp nd e k) l->Road nd e k (stp nd e k::l)
theorem road_eq {l m:List Nat}(h:Road nd e k l) (g:Road nd e k m):l=m:=by
 induction h generalizing m with
 |nil=>cases g with
  |nil=>rfl
  |cons a _=>exact absurd rfl a
 |cons hne _ ih=>cases g with
  |nil=>exact absurd rfl hne
  |cons _ q=>rw[ih q]
def dst (n a b:Nat):Nat:=((Qg n).filter λ t=>!(a.testBit t==b.testBit t)).length
theorem q8z {p q:Nat->Bool}{t:Nat}:∀{l:List Nat},l.Nodup->t∈l->p t=true->q t=false->(∀x,x≠t->p x=q x)->(l.filter p).length=(l.filter q).length+1
 |[],_,h,_,_,_=>by cases h
 |x::l,nd,h,hp,hq,he=>by
  obtain⟨n1,n2⟩:=QD.mp nd
  by_cases e:x=t
  ·subst e;have:l.filter p=l.filter q:=List.filter_congr λ y hy=>he y λ z=>n1 (z▸hy);rw[QS,if_pos hp,QS,if_neg (by rw[hq];simp),this];rfl
  ·have ih:=q8z n2 ((Qf.mp h).resolve_left λ z=>e z.symm) hp hq he;rw[QS,QS,he x e];cases q x with
   |true=>rw[if_pos rfl,if_pos rfl,Qo,ih,Qo]
   |false=>rw[if_neg (by simp),if_neg (by simp),ih]
theorem q6r {n:Nat}(hk:Rch nd k) (he:Rch nd e) (hn:nd.length=n) (hne:k≠e):Rch nd (stp nd e k)/\dst n k e=dst n (stp nd e k) e+1:=by
 cases qCw hk he hne with
 |up t l h g =>
  obtain⟨h1,h2⟩:=q3y.mp (h▸Qb:t∈q1r nd k e);rw[g];refine⟨.s hk h2,q8z Jn (t:=t) (QE.mpr (hn▸q5S h2)) (by rw[q1q h2,h1];rfl) (by rw[q0b,h1];simp) λ x hx=>?_⟩;rw[q0b,decide_eq_false (λ z=>hx z.symm),Bool.or_false]
 |down t s h f g =>
  obtain⟨h1,h2,h3⟩:=q8y.mp (List.mem_of_getLast? f);rw[g];refine⟨h3,q8z Jn (t:=t) (QE.mpr (hn▸q64 (q1H hk) h1)) (by rw[h1,h2];rfl) (by rw[q4i,h2];simp) λ x hx=>?_⟩;rw[q4i,decide_eq_false hx,Jq,Bool.and_true]
theorem qEe (n k:Nat):dst n k k=0:=by unfold dst;rw[JA,List.filter_eq_nil_iff];intro t _;simp
end Mk
namespace Mk
open Ev
variable {m c:Nat}{ks la lb:List Nat}{v:List D}{r h:D}
variable {n:Nat}{ws:List Wn}{G:Nat->List D->R D}{nd:List (List Nat)}
theorem qHc (l:List Nat) (v:List D) (i:Nat):cmD .mem (nI i) (.dct (nL l) v) = .ok (.bl (decide (i∈l))):=by have e:memD (nI i) (.dct (nL l) v) = .ok ((nL l).any λ y=>eqb y (nI i)):=rfl;have e2:cmD .mem (nI i) (.dct (nL l) v)=(memD (nI i) (.dct (nL l) v)).bind λ r=> .ok (.bl r):=rfl;rw[e2,e,qCR];rfl
theorem qCx (a b:List Nat):eqb (.lst (nL a)) (.lst (nL b))=decide (a=b):=by have:=q7L a b;simpa only [eqb] using this
theorem qKP (a b:List Nat):cmD .eq (.lst (nL a)) (.lst (nL b)) = .ok (.bl (decide (a=b))):=by unfold cmD;dsimp only;rw[qG6,qG6,qCx];rfl
theorem qKQ {ρ:Env}{i t:Nat}(h:ev G subC (.var i) ρ = .ok (nI t)) (ht:t<=1000):ev G subC (.op .shl (.con (.int 1)) (.var i)) ρ = .ok (nI (1 <<< t)):=by rw[q0m,q0I,q00,h,q00];exact qIk 1 t (by decide) ht
theorem qHd {t:Nat}(hm:m<32) (h:m.testBit t=true):t<5:=q64 (n:=5) hm h
theorem qKR (e1:G 1 [nI m] = .ok (tD m)) (hm:m<32):Ev.run G subC 2 q1y [.dct (nL ks) v,nI m] = .ok (.lst (nL ((q01 m).filter λ t=>decide (wo m t∈ks)))):=by
 generalize hρ:([some (.val (.dct (nL ks) v)),some (.val (nI m))]:Env)=ρ;have v1:ev G subC (.var 1) ρ = .ok (nI m):=by rw[<-hρ];rfl
 have it:evi G subC (.e (.call 1 [(.var 1)])) ρ = .ok ((q01 m).map nI):=by rw[q7I,q0h,evs1 v1,q00,e1,q00];rfl
 have c:q0O (ev G subC (.var 0)) (tsts G subC [(.e (.cm .mem (.op .bxor (.var 2) (.op .shl (.con (.int 1)) (.var 0))) (.var 1)))]) 0 ρ ((q01 m).map nI) = .ok (((q01 m).filter λ t=>decide (wo m t∈ks)).map nI) :=
  q0J (us:=λ x=>[nI x]) λ t ht=>by have hb:=q06.mp ht;refine⟨rfl,?_,λ _=>rfl⟩;have u2:ev G subC (.var 2) (some (.val (nI t))::ρ) = .ok (nI m):=(by rw[<-hρ];rfl);have u1:ev G subC (.var 1) (some (.val (nI t))::ρ) = .ok (.dct (nL ks) v):=(by rw[<-hρ];rfl);have s:=qKQ (G:=G) (ρ:=some (.val (nI t))::ρ) (i:=0) (t:=t) rfl (by have:=qHd hm hb;lia);have x:ev G subC (.op .bxor (.var 2) (.op .shl (.con (.int 1)) (.var 0))) (some (.val (nI t))::ρ) = .ok (nI (wo m t)):=(by rw[q0m,u2,q00,s,q00,qEz,qFU hb]);show tsts G subC _ (some (.val (nI t))::ρ)=_;rw[q0c,q0p (q0e x u1 (qHc ks v _)),q00,q15];cases decide (wo m t∈ks)<;>rfl
 have hl:(q01 m).length<=5:=q16 hm;refine q1T (ρ:=ρ) (ρ':=ρ) (by rw[<-hρ];rfl) (q0z ?_);rw[q34,q0i,it,q00,c,q0P,q00,if_pos (by rw[Qh,q0K];have:=Qu (λ t=>decide (wo m t∈ks)) (q01 m);lia),q04];rfl
theorem qCy {b:Nat}(k:Nat) (hm:m<32) (s:Sm m b) (hk:∀x,x∈ks↔Rch nd x/\Sm x b):Gm (k+3) 19 [.dct (nL ks) v,nI m] = .ok (.lst (nL (q0v nd m))):=by
 refine (q1S (k+2) 19 _ 2 2 q1y rfl rfl).trans ?_;rw[qKR (q3s k m (by lia)) hm];have:((q01 m).filter λ t=>decide (wo m t∈ks))=q0v nd m:=List.filter_congr λ t _=>by rw[QB,decide_eq_true_eq,hk,q39];exact⟨λ h=>h.1,λ h=>⟨h,q2J (qKF m t) s⟩⟩
 rw[this]
theorem qM1 {N d e:D}{c:Nat}(e14:G 14 [r,h] = .ok .non) (e0:G 0 [h] = .ok N) (e4:G 4 [r] = .ok d) (e8:G 8 [d,N] = .ok e) (x:D) (e19:G 19 [e,N] = .ok x):Ev.run G subC 3 q0T [r,h] = .ok x:=by simp[Ev.run,q0T,e14,e0,e4,e8,e19]
theorem qKS (e14:G 14 [r,h] = .err c):Ev.run G subC 3 q0T [r,h] = .err c:=by simp[Ev.run,q0T,e14]
theorem qAj (g:Good n ws) (h:m∈due n ws):m<2^n:=by
 have:=q1H ((q0k g m).mp h)
 rwa [q0j] at this
theorem q90 (g:Good n ws) (k:Nat) (h:m<2^n):Gm (k+1) 0 [tD m] = .ok (nI m):=by rw[tD,q7x k (q01 m) (q4L g h) _ (.inl rfl),q2A]
theorem qHe (g:Good n ws) (k:Nat) (hm:m∈due n ws):Gm (k+9) 18 [rD n ws,tD m] = .ok (.lst (nL (q0v (nds n ws) m))):=by have hn:=g.n5;have hlt:=qAj g hm;obtain⟨ks,_,hks,e8⟩:=qKL (nd:=nds n ws) (b:=m) (k+4) (by rw[q0j];lia) (by rw[q0j];exact hlt);refine (q1S (k+8) 18 _ 2 3 q0T rfl rfl).trans ?_;exact qM1 (c:=0) (q3w g k hm) (q90 g (k+7) hlt) (q2B g (k+6)) e8 _ (qCy (nd:=nds n ws) (k+5) (qCo g hm) (q3I m) hks)
theorem qHf (k:Nat) (e:Gm (k+8) 14 [r,h] = .err c):Gm (k+9) 18 [r,h] = .err c:=(q1S (k+8) 18 _ 2 3 q0T rfl rfl).trans (qKS e)
def bf_b:List S:=[.ifs (.and (.e (.cm .eq (.call 19 [(.var 5),(.var 8)]) (.var 6))) (.e (.cm .eq (.call 6 [(.var 3),(.var 8),(.var 4)]) (.var 7)))) [.ret (.call 1 [(.var 8)])] []]
noncomputable def bfE (r la lb:D) (nd:List (List Nat)) (a:Nat) (f:D) (A B:List Nat) (x:Option Sl):Env:=[some (.val r),some (.val la),some (.val lb),some (.val (ndD nd)),some (.val (nI a)),some (.val f),some (.val (.lst (nL A))),some (.val (.lst (nL B))),x]
def fndF:Option Nat->F
 |some y=> .ret (tD y)
 |none=> .nx
theorem qCz (r la lb f:D) (a:Nat) (A B:List Nat) {LA NX:Nat->List Nat}:∀(xs:List Nat) (x:Option Sl),(∀y∈xs,G 19 [f,nI y] = .ok (.lst (nL (LA y)))/\G 6 [ndD nd,nI y,nI a] = .ok (.lst (nL (NX y)))/\G 1 [nI y] = .ok (tD y))->
  ∃x',q1D (exs G subC bf_b) 0 [8] (nL xs) (bfE r la lb nd a f A B x) = .ok (bfE r la lb nd a f A B x') (fndF (xs.find? λ y=>decide (LA y=A)&&decide (NX y=B)))
 |[],x,_=>⟨x,rfl⟩
 |y::xs,x,h=>by
  obtain⟨h1,h2,h3⟩:=h y Qb;rw[q1J,q0R];generalize hρ:bfE r la lb nd a f A B (some (.val (nI y)))=ρ;have e0:(bfE r la lb nd a f A B x).set 8 (some (.val (nI y)))=ρ:=by rw[<-hρ];rfl
  have v8:ev G subC (.var 8) ρ = .ok (nI y):=by rw[<-hρ];rfl
  have c1:ev G subC (.call 19 [(.var 5),(.var 8)]) ρ = .ok (.lst (nL (LA y))):=q0U (x:=f) (by rw[<-hρ];rfl) v8 h1;have c2:ev G subC (.call 6 [(.var 3),(.var 8),(.var 4)]) ρ = .ok (.lst (nL (NX y))):=q2M (x:=ndD nd) (z:=nI a) (by rw[<-hρ];rfl) v8 (by rw[<-hρ];rfl) h2;have t:tst G subC (.and (.e (.cm .eq (.call 19 [(.var 5),(.var 8)]) (.var 6))) (.e (.cm .eq (.call 6 [(.var 3),(.var 8),(.var 4)]) (.var 7)))) ρ = .ok (decide (LA y=A)&&decide (NX y=B)):=by rw[q43,q0p (q0e c1 (y:= .lst (nL A)) (by rw[<-hρ];rfl) (qKP _ _)),q00,q0p (q0e c2 (y:= .lst (nL B)) (by rw[<-hρ];rfl) (qKP _ _))];cases decide (LA y=A)<;>rfl
  rw[e0,bf_b,Js];cases q:decide (LA y=A)&&decide (NX y=B) with
  |true =>
   refine⟨some (.val (nI y)),?_⟩;rw[q] at t;rw[q0z (ρ':=ρ) (d:=tD y) (by rw[q4y,t,q04,if_pos rfl,q0z (ρ':=ρ) (d:=tD y)];rw[q34,q0h,evs1 v8,q00,h3,q04]),qDP,hρ];rfl
  |false =>
   rw[q] at t;obtain⟨x',e⟩:=qCz r la lb f a A B xs (some (.val (nI y))) λ z hz=>h z (Qa _ hz);refine⟨x',?_⟩;rw[q05 (qCp t),q0L,q1i,<-hρ];exact e
def fndD:Option Nat->D
 |some y=>tD y
 |none=> .non
theorem qKT {a:Nat}{LA NX:Nat->List Nat}(hla:la.length<64) (hlb:lb.length<64) (e11:G 11 [rD n ws] = .ok .non) (e4:G 4 [rD n ws] = .ok (ndD nd)) (e3:G 3 [nI n] = .ok (nI a)) (e8:G 8 [ndD nd,nI a] = .ok (.dct (nL ks) v))
  (h:∀y∈ks,G 19 [.dct (nL ks) v,nI y] = .ok (.lst (nL (LA y)))/\G 6 [ndD nd,nI y,nI a] = .ok (.lst (nL (NX y)))/\G 1 [nI y] = .ok (tD y)) :
  Ev.run G subC 9 q1z [rD n ws,.lst (nL la),.lst (nL lb)] = .ok (fndD (ks.find? λ y=>decide (LA y=q01 (q03 0 la))&&decide (NX y=q01 (q03 0 lb)))):=by
 generalize hA:q01 (q03 0 la)=A;generalize hB:q01 (q03 0 lb)=B;obtain⟨x',e⟩:=qCz (nd:=nd) (rD n ws) (.lst (nL la)) (.lst (nL lb)) (.dct (nL ks) v) a A B ks none h;have s0:biD subC .sortedSet [.lst (nL la)] = .ok (.lst (nL A)):=by rw[q5X la hla,hA]
 have s1:biD subC .sortedSet [.lst (nL lb)] = .ok (.lst (nL B)):=by rw[q5X lb hlb,hB]
 have e6:idxD (rD n ws) (.int 0) = .ok (nI n):=idx0 _ _;generalize hr:rD n ws=r at *;have p:exs G subC [.expr (.call 11 [(.var 0)]),.set 3 (.call 4 [(.var 0)]),.set 4 (.call 3 [(.idx (.var 0) (.con (.int 0)))]),.set 5 (.call 8 [(.var 3),(.var 4)]),.set 6 (.bi .sortedSet [(.var 1)]),.set 7 (.bi .sortedSet [(.var 2)]),.forr 0 [8] (.e (.var 5)) bf_b,.ret (.con .non)] [some (.val r),some (.val (.lst (nL la))),some (.val (.lst (nL lb))),none,none,none,none,none,none]=exs G subC [.forr 0 [8] (.e (.var 5)) bf_b,.ret (.con .non)] (bfE r (.lst (nL la)) (.lst (nL lb)) nd a (.dct (nL ks) v) A B none):=by refine (q05 (by rw[q8Z,q0h,evs1 (G:=G) (x:=r) rfl,q00,e11,q04])).trans ?_;refine (q05 (by rw[q0F,q0h,evs1 (G:=G) (x:=r) rfl,q00,e4,q04])).trans ?_;refine (q05 (by rw[q0F,q0h,evs1 (x:=nI n) (by rw[q25,show ev G subC (.var 0) _ = .ok r from rfl,q00,q0I,q00,e6]),q00,e3,q04])).trans ?_;refine (q05 (by rw[q0F,q0U (x:=ndD nd) (y:=nI a) rfl rfl e8,q04])).trans ?_;refine (q05 (by rw[q0F,q1P,evs1 (G:=G) (x:= .lst (nL la)) rfl,q00,s0,q04])).trans ?_;refine (q05 (by rw[q0F,q1P,evs1 (G:=G) (x:= .lst (nL lb)) rfl,q00,s1,q04])).trans ?_;rfl
 have q:ex G subC (.forr 0 [8] (.e (.var 5)) bf_b) (bfE r (.lst (nL la)) (.lst (nL lb)) nd a (.dct (nL ks) v) A B none) = .ok (bfE r (.lst (nL la)) (.lst (nL lb)) nd a (.dct (nL ks) v) A B x') (fndF (ks.find? λ y=>decide (LA y=A)&&decide (NX y=B))):=by rw[q2E,q7I,show ev G subC (.var 5) _ = .ok (.dct (nL ks) v) from rfl,q00,qBM,q04,e]
 refine q1T (ρ:=[some (.val r),some (.val (.lst (nL la))),some (.val (.lst (nL lb))),none,none,none,none,none,none]) (ρ':=bfE r (.lst (nL la)) (.lst (nL lb)) nd a (.dct (nL ks) v) A B x') rfl (p.trans ?_);cases z:ks.find? λ y=>decide (LA y=A)&&decide (NX y=B) with
 |some y=>rw[z] at q;exact q0z q
 |none=>rw[z] at q;exact (q05 q).trans (q0z (q34 _ _))
theorem g_by (g:Good n ws) (k:Nat) (hla:la.length<64) (hlb:lb.length<64):∃ks:List Nat,(∀x,x∈ks↔Rch (nds n ws) x)/\
  Gm (k+5) 20 [rD n ws,.lst (nL la),.lst (nL lb)] = .ok (fndD (ks.find? λ y=>decide (q0v (nds n ws) y=q01 (q03 0 la))&&decide (q0G (nds n ws) y (2^n-1)=q01 (q03 0 lb)))):=by
 have hn:=g.n5;have hl:=q0j n ws;obtain⟨ks,_,hks,e8⟩:=qLl (nd:=nds n ws) k (by lia);rw[hl] at e8;refine⟨ks,hks,(q1S (k+4) 20 _ 3 9 q1z rfl rfl).trans ?_⟩;have p2:2^n<=32:=QC (i:=n) (j:=5) (by decide:0<2) hn;have hlt:∀y∈ks,y<2^n:=λ y hy=>by have:=q1H ((hks y).mp hy);rwa [hl] at this
 refine qKT (nd:=nds n ws) (a:=2^n-1) (LA:=q0v (nds n ws)) (NX:=λ y=>q0G (nds n ws) y (2^n-1)) hla hlb (q83 g k) (q2B g (k+2)) (qK4 (k+3) n (by lia)) e8 λ y hy=>?_;have h1:=hlt y hy;refine⟨qCy (nd:=nds n ws) (b:=2^n-1) (k+1) (by lia) (qFK.mpr h1) λ x=>?_,q5R (k+1) (nds n ws) y (2^n-1) (by rw[hl];lia) (by lia),q3s (k+2) y (by lia)⟩;rw[hks];exact⟨λ h=>⟨h,qFK.mpr (by have:=q1H h;rwa [hl] at this)⟩,λ h=>h.1⟩
theorem q4u {l:List Nat}(h:l.Pairwise (· < ·)):q01 (q03 0 l)=l:=q5V h
theorem qEf (nd:List (List Nat)) (m:Nat):(q0v nd m).Pairwise (· < ·):=(q2N m).filter _
theorem qEg (nd:List (List Nat)) (m b:Nat):(q0G nd m b).Pairwise (· < ·):=(q2N b).filter _
theorem qAG {nd:List (List Nat)}(h:m<32):(q0v nd m).length<=5:=Qn (Qu _ _) (q16 h)
theorem qEh (g:Good n ws) (k:Nat) (hm:m∈due n ws):Gm (k+5) 20 [rD n ws,.lst (nL (q0v (nds n ws) m)),.lst (nL (q0G (nds n ws) m (2^n-1)))] = .ok (tD m):=by
 have hn:=g.n5;have p2:2^n<=32:=QC (i:=n) (j:=5) (by decide:0<2) hn;have hr:=(q0k g m).mp hm;obtain⟨ks,hks,e⟩:=g_by g k (la:=q0v (nds n ws) m) (lb:=q0G (nds n ws) m (2^n-1)) (by have:=qAG (nd:=nds n ws) (qCo g hm);lia) (by have:=qEY (nd:=nds n ws) (b:=2^n-1) (by lia) m;lia);rw[e,q4u (qEf _ _),q4u (qEg _ _ _)];have hlt:∀y,Rch (nds n ws) y->y<2^n:=λ y hy=>by have:=q1H hy;rwa [q0j] at this
 cases z:ks.find? λ y=>decide (q0v (nds n ws) y=q0v (nds n ws) m)&&decide (q0G (nds n ws) y (2^n-1)=q0G (nds n ws) m (2^n-1)) with
 |none =>
  have:=List.find?_eq_none.mp z m ((hks m).mpr hr);simp at this
 |some y =>
  have h1:=List.find?_some z;rw[Qd,decide_eq_true_eq,decide_eq_true_eq] at h1;have hy:=(hks y).mp (List.mem_of_find?_eq_some z);rw[qAE hy hr (hlt y hy) (hlt m hr) h1.2];rfl
theorem qHg (g:Good n ws) (k:Nat) (hla:la.length<64) (hlb:lb.length<64) (pa:la.Pairwise (· < ·)) (pb:lb.Pairwise (· < ·)) (h:∀m∈due n ws,¬(q0v (nds n ws) m=la/\q0G (nds n ws) m (2^n-1)=lb)):Gm (k+5) 20 [rD n ws,.lst (nL la),.lst (nL lb)] = .ok .non:=by obtain⟨ks,hks,e⟩:=g_by g k hla hlb;rw[e,q4u pa,q4u pb,List.find?_eq_none.mpr λ y hy=>?_];rfl;have:=h y ((q0k g y).mpr ((hks y).mp hy));rw[Qd,decide_eq_true_eq,decide_eq_true_eq];exact this
end Mk
namespace Mk
open Ev
variable {ρ:Env}{a b e k:Nat}{r o z:D}
variable {n:Nat}{ws:List Wn}{G:Nat->List D->R D}{nd:List (List Nat)}
theorem qFV (k f:Nat) (xs:List D) (a b:Nat) (l:List S) (h:dsM[f]? = some (a,b,l,true)) (hl:xs.length=a):Gm (k+1) f xs=Ev.runF (Gm k) subC b l xs:=by rw[Gm,h];exact (if_pos hl).trans (if_pos rfl)
theorem qAH {n:Nat}{l:List S}{ds:List D}{ρ':Env}{d:D}(h0:vals ds++Qe (n-ds.length) none=ρ) (h:exs G subC l ρ = .ok ρ' (.retN d)):Ev.runF G subC n l ds = .ok d:=by unfold Ev.runF;rw[h0,h]
theorem qAI {s:S}{l:List S}{ρ':Env}{d:D}(h:ex G subC s ρ = .ok ρ' (.retN d)):exs G subC (s::l) ρ = .ok ρ' (.retN d):=by rw[q0s,h,qFx]
def up_w:List S:=[.aug 4 .bor (.op .shl (.con (.int 1)) (.idx (.call 6 [(.var 0),(.var 4),(.var 2)]) (.con (.int 0)))),.app 3 (.var 4)]
def upE (nd:List (List Nat)) (a b:Nat) (acc:List Nat) (k:Nat):Env:=[some (.val (ndD nd)),some (.val (nI a)),some (.val (nI b)),some (.own (.lst (nL acc))),some (.val (nI k))]
theorem qD0 {i:Nat}{a:L}{acc:List Nat}{x:Nat}(h:ρ[i]? = some (some (.own (.lst (nL acc))))) (e:ev G subC a ρ = .ok (nI x)) (hl:acc.length<1000):ex G subC (.app i a) ρ = .ok (ρ.set i (some (.own (.lst (nL (acc++[x])))))) .nx:=by rw[q7K,h];dsimp only;rw[e,q04,if_pos (by rw[q0X,q0K];lia),q4z];rfl
theorem qKU {i:Nat}{o:Op2}{a:L}{x y z:Nat}(h:getV ρ i = .ok (nI x)) (e:ev G subC a ρ = .ok (nI y)) (q:opD o (nI x) (nI y) = .ok (nI z)):ex G subC (.aug i o a) ρ = .ok (ρ.set i (some (.val (nI z)))) .nx:=by rw[qIi,h,q04,e,q04,qIr,q,q04]
theorem qD1 {a:L}{t:Nat}(h:ev G subC a ρ = .ok (nI t)) (ht:t<=1000):ev G subC (.op .shl (.con (.int 1)) a) ρ = .ok (nI (1 <<< t)):=by rw[q0m,q0I,q00,h,q00];exact qIk 1 t (by decide) ht
theorem sm32 (h:Sm a b) (hb:b<32):a<32:=Jc (qHE h) hb
theorem qD2 {a e:Nat}(he:Rch nd e) (ht:Rch nd (a ||| e)) (h32:a ||| e<32) (e6:∀k,k<32->G 6 [ndD nd,nI k,nI (a ||| e)] = .ok (.lst (nL (q0G nd k (a ||| e))))):∀(f fuel k:Nat) (acc:List Nat),remB (a ||| e) k=f->f<fuel->Rch nd k->Sm a k->Sm k (a ||| e)->acc.length+f<1000->
  ∃U:List Nat,U.length=f/\(∀L,Road nd e (a ||| e) L->Road nd e k (U++L))/\q0x (tst G subC (.e (.cm .ne (.var 4) (.var 2)))) (exs G subC up_w) fuel (upE nd a (a ||| e) acc k) = .ok (upE nd a (a ||| e) (acc++U) (a ||| e)) .nx
 |f,0,k,acc,_,h,_,_,_,_=>absurd h (by lia)
 |f,fuel+1,k,acc,hf,hfu,rk,sa,sk,hl=>by
  have hk:=sm32 sk h32;rw[q1e,q0p (q0e (G:=G) (x:=nI k) (y:=nI (a ||| e)) rfl rfl (ne_n _ _)),q04]
  by_cases q:k=a ||| e
  ·refine⟨[],?_,λ L h=>by rw[q];exact h,?_⟩
   ·rw[<-hf,q,qAA];rfl
   ·rw[decide_eq_true q,Bool.not_true,if_neg (by simp),QR,q]
  ·rw[decide_eq_false q,Jq,if_pos rfl];obtain⟨t,l,hn⟩:∃t l,q0G nd k (a ||| e)=t::l:=by
    cases z:q0G nd k (a ||| e) with
    |nil=>exact absurd z (q8C ht rk sk q)
    |cons t l=>exact⟨t,l,rfl⟩
   have hm:t∈q0G nd k (a ||| e):=(by rw[hn];exact Qb);have hne:k≠e:=λ z=>q (q1p sk (qHF sa (z▸q3I e)));have hs:stp nd e k=k ||| 1 <<< t:=by unfold stp;rw[<-qCv sa,hn];rfl
   have hr:=qAB sk hm;obtain⟨U,hU,h1,h2⟩:=qD2 he ht h32 e6 (f-1) fuel (k ||| 1 <<< t) (acc++[k ||| 1 <<< t]) (by lia) (by lia) (.s rk (q1N.mp hm).2) (q2J sa (q4I _ _)) (q6o sk hm) (by rw[QA,QN];lia);have h5:t<5:=qHd h32 (q1N.mp hm).1;have i0:idxD (.lst (nL (t::l))) (.int 0) = .ok (nI t):=nth0 _ (nL l);have c:ev G subC (.idx (.call 6 [(.var 0),(.var 4),(.var 2)]) (.con (.int 0))) (upE nd a (a ||| e) acc k) = .ok (nI t):=by rw[q25,q2M (x:=ndD nd) (y:=nI k) (z:=nI (a ||| e)) rfl rfl rfl (e6 k hk),q00,q0I,q00,hn,i0]
   have s1:ex G subC (.aug 4 .bor (.op .shl (.con (.int 1)) (.idx (.call 6 [(.var 0),(.var 4),(.var 2)]) (.con (.int 0))))) (upE nd a (a ||| e) acc k) = .ok (upE nd a (a ||| e) acc (k ||| 1 <<< t)) .nx:=qKU (x:=k) (y:=1 <<< t) rfl (qD1 c (by lia)) (qIl _ _);have s2:ex G subC (.app 3 (.var 4)) (upE nd a (a ||| e) acc (k ||| 1 <<< t)) = .ok (upE nd a (a ||| e) (acc++[k ||| 1 <<< t]) (k ||| 1 <<< t)) .nx:=qD0 (x:=k ||| 1 <<< t) rfl rfl (by lia);refine⟨(k ||| 1 <<< t)::U,by rw[Qo];lia,λ L h=>?_,?_⟩
   ·have:=Road.cons hne (hs▸h1 L h);rw[hs] at this;exact this
   ·rw[up_w,q05 s1,q05 s2,q0L,q1i];refine (h2.trans ?_);rw[Jw];rfl
theorem qKV (he:Rch nd e) (ha:Rch nd a) (h32:a ||| e<32) (e6:∀k,k<32->G 6 [ndD nd,nI k,nI (a ||| e)] = .ok (.lst (nL (q0G nd k (a ||| e))))) :
  ∃U:List Nat,U.length<=5/\(∀L,Road nd e (a ||| e) L->Road nd e a (U++L))/\Ev.runF G subC 5 q4r [ndD nd,nI a,nI (a ||| e)] = .ok (.lst (nL (a::U))):=by
 have hb:remB (a ||| e) a<=5:=by have:=q16 h32;unfold remB;lia
 obtain⟨U,hU,h1,h2⟩:=qD2 he (qFL ha he) h32 e6 (remB (a ||| e) a) 100000 a [a] rfl (by lia) ha (q3I a) (q4I a e) (by rw[QN];lia);refine⟨U,by lia,h1,qAH (ρ:=[some (.val (ndD nd)),some (.val (nI a)),some (.val (nI (a ||| e))),none,none]) (ρ':=(upE nd a (a ||| e) ([a]++U) (a ||| e)).set 3 none) rfl ?_⟩;show exs G subC [.setO 3 (.lst [(.var 1)]),.set 4 (.var 1),.whl (.e (.cm .ne (.var 4) (.var 2))) up_w,.retF 3] _=_;refine (q05 (ρ':=[some (.val (ndD nd)),some (.val (nI a)),some (.val (nI (a ||| e))),some (.own (.lst (nL [a]))),none]) (by rw[q3C,q22 (evs1 (G:=G) (x:=nI a) rfl) (by simp),q04];rfl)).trans ?_;refine (q05 (ρ':=upE nd a (a ||| e) [a] a) (by rw[q0F,show ev G subC (.var 1) _ = .ok (nI a) from rfl,q04];rfl)).trans ?_;refine (q05 (by rw[q5i];exact h2)).trans ?_;exact qAI (by rw[q8b];rfl)
def dn_c:L:= .comp 0 (.var 0) (.e (.call 19 [(.var 3),(.var 5)])) [(.not (.e (.call 2 [(.var 3),(.var 0)])))]
def dn_w:List S:=[.set 6 dn_c,.aug 5 .bxor (.op .shl (.con (.int 1)) (.idx (.var 6) (.neg (.con (.int 1))))),.app 4 (.var 5)]
def dnE (nd:List (List Nat)) (b e:Nat) (f:D) (acc:List Nat) (k:Nat) (x:Option Sl):Env:=[some (.val (ndD nd)),some (.val (nI b)),some (.val (nI e)),some (.val f),some (.own (.lst (nL acc))),some (.val (nI k)),x]
theorem qHh {f:D}{acc:List Nat}{x:Option Sl}(hk:k<32) (e19:G 19 [f,nI k] = .ok (.lst (nL (q0v nd k)))) (e2:∀t,G 2 [nI e,nI t] = .ok (.bl (e.testBit t))):ev G subC dn_c (dnE nd b e f acc k x) = .ok (.lst (nL (fewL nd k e))):=by
 generalize hρ:dnE nd b e f acc k x=ρ;have it:evi G subC (.e (.call 19 [(.var 3),(.var 5)])) ρ = .ok ((q0v nd k).map nI):=by rw[q7I,q0U (x:=f) (y:=nI k) (by rw[<-hρ];rfl) (by rw[<-hρ];rfl) e19,q00];rfl
 have c:q0O (ev G subC (.var 0)) (tsts G subC [(.not (.e (.call 2 [(.var 3),(.var 0)])))]) 0 ρ ((q0v nd k).map nI) = .ok (((q0v nd k).filter λ t=>!e.testBit t).map nI) :=
  q0J (us:=λ x=>[nI x]) λ t ht=>by refine⟨rfl,?_,λ _=>rfl⟩;show tsts G subC _ (some (.val (nI t))::ρ)=_;rw[q0c,q8Y,q0p (q0U (x:=nI e) (y:=nI t) (by rw[<-hρ];rfl) rfl (e2 t)),q00,q00,q15];cases e.testBit t<;>rfl
 have hl:=qAG (nd:=nd) hk;rw[dn_c,q0i,it,q00,c,q0P,q00,if_pos (by rw[Qh,q0K];have:=Qu (λ t=>!e.testBit t) (q0v nd k);lia)];rfl
theorem qD3 {b e:Nat}{f:D}(he:Rch nd e) (h32:b<32) (e19:∀k,Sm k b->G 19 [f,nI k] = .ok (.lst (nL (q0v nd k)))) (e2:∀t,G 2 [nI e,nI t] = .ok (.bl (e.testBit t))):∀(r fuel k:Nat) (acc:List Nat) (x:Option Sl),remB k e=r->r<fuel->Rch nd k->Sm e k->Sm k b->acc.length+r<1000->
  ∃(W:List Nat) (x':Option Sl),W.length=r/\Road nd e k W/\q0x (tst G subC (.e (.cm .ne (.var 5) (.var 2)))) (exs G subC dn_w) fuel (dnE nd b e f acc k x) = .ok (dnE nd b e f (acc++W) e x') .nx
 |r,0,k,acc,x,_,h,_,_,_,_=>absurd h (by lia)
 |r,fuel+1,k,acc,x,hr,hfu,rk,se,sk,hl=>by
  have hk:=sm32 sk h32;rw[q1e,q0p (q0e (G:=G) (x:=nI k) (y:=nI e) rfl rfl (ne_n _ _)),q04]
  by_cases q:k=e
  ·refine⟨[],x,?_,q▸Road.nil,?_⟩
   ·rw[<-hr,q,qAA];rfl
   ·rw[decide_eq_true q,Bool.not_true,if_neg (by simp),QR,q]
  ·rw[decide_eq_false q,Jq,if_pos rfl];have hfw:=qAF rk he se λ z=>q z.symm;obtain⟨t,ft⟩:∃t,(fewL nd k e).getLast? = some t:=⟨_,List.getLast?_eq_some_getLast hfw⟩
   obtain⟨t1,t2,t3⟩:=q8y.mp (List.mem_of_getLast? ft);have hs:stp nd e k=wo k t:=(by unfold stp;rw[qEd se,List.head?_nil,ft]);have hw:(wo k t).testBit t=false:=(by rw[q4i];simp);have hb:=bits_add hw;rw[qCi t1] at hb;have se':Sm e (wo k t):=λ i hi=>by rw[q4i,se i hi,Bool.true_and,Bool.not_eq_true',decide_eq_false_iff_not];intro z;subst z;rw[t2] at hi;cases hi
   have hb2:=bits_sub se';have hr':remB k e=remB (wo k t) e+1:=(by unfold remB;lia);obtain⟨W,x',hW,h1,h2⟩:=qD3 he h32 e19 e2 (r-1) fuel (wo k t) (acc++[wo k t]) (some (.val (.lst (nL (fewL nd k e))))) (by lia) (by lia) t3 se' (q2J (qKF k t) sk) (by rw[QA,QN];lia);have s1:ex G subC (.set 6 dn_c) (dnE nd b e f acc k x) = .ok (dnE nd b e f acc k (some (.val (.lst (nL (fewL nd k e)))))) .nx:=by rw[q0F,qHh hk (e19 k sk) e2,q04];rfl
   have c:ev G subC (.idx (.var 6) (.neg (.con (.int 1)))) (dnE nd b e f acc k (some (.val (.lst (nL (fewL nd k e)))))) = .ok (nI t):=q5W (l:=nL (fewL nd k e)) rfl (by unfold nL;rw[List.getLast?_map,ft];rfl);have s2:ex G subC (.aug 5 .bxor (.op .shl (.con (.int 1)) (.idx (.var 6) (.neg (.con (.int 1)))))) (dnE nd b e f acc k (some (.val (.lst (nL (fewL nd k e)))))) = .ok (dnE nd b e f acc (wo k t) (some (.val (.lst (nL (fewL nd k e)))))) .nx:=qKU (x:=k) (y:=1 <<< t) rfl (qD1 c (by have:=qHd hk t1;lia)) (by rw[qEz,qFU t1]);have s3:ex G subC (.app 4 (.var 5)) (dnE nd b e f acc (wo k t) (some (.val (.lst (nL (fewL nd k e)))))) = .ok (dnE nd b e f (acc++[wo k t]) (wo k t) (some (.val (.lst (nL (fewL nd k e)))))) .nx:=qD0 (x:=wo k t) rfl rfl (by lia);refine⟨wo k t::W,x',by rw[Qo];lia,?_,?_⟩
   ·have:=Road.cons q (hs▸h1);rw[hs] at this;exact this
   ·rw[dn_w,q05 s1,q05 s2,q05 s3,q0L,q1i];refine (h2.trans ?_);rw[Jw];rfl
theorem qKW {f:D}(he:Rch nd e) (hb:Rch nd b) (s:Sm e b) (h32:b<32) (e8:G 8 [ndD nd,nI b] = .ok f) (e19:∀k,Sm k b->G 19 [f,nI k] = .ok (.lst (nL (q0v nd k)))) (e2:∀t,G 2 [nI e,nI t] = .ok (.bl (e.testBit t))) :
  ∃W:List Nat,W.length<=5/\Road nd e b W/\Ev.runF G subC 7 q2w [ndD nd,nI b,nI e] = .ok (.lst (nL W)):=by
 have hr:remB b e<=5:=by have:=q16 h32;unfold remB;lia
 obtain⟨W,x',hW,h1,h2⟩:=qD3 he h32 e19 e2 (remB b e) 100000 b [] none rfl (by lia) hb s (q3I b) (by rw[Q5];lia);refine⟨W,by lia,h1,qAH (ρ:=[some (.val (ndD nd)),some (.val (nI b)),some (.val (nI e)),none,none,none,none]) (ρ':=(dnE nd b e f ([]++W) e x').set 4 none) rfl ?_⟩;show exs G subC [.set 3 (.call 8 [(.var 0),(.var 1)]),.setO 4 (.lst []),.set 5 (.var 1),.whl (.e (.cm .ne (.var 5) (.var 2))) dn_w,.retF 4] _=_;refine (q05 (ρ':=[some (.val (ndD nd)),some (.val (nI b)),some (.val (nI e)),some (.val f),none,none,none]) (by rw[q0F,q0U (x:=ndD nd) (y:=nI b) rfl rfl e8,q04];rfl)).trans ?_;refine (q05 (ρ':=[some (.val (ndD nd)),some (.val (nI b)),some (.val (nI e)),some (.val f),some (.own (.lst (nL []))),none,none]) (by rw[q3C,q22 (q0n _) (by simp),q04];rfl)).trans ?_;refine (q05 (ρ':=dnE nd b e f [] b none) (by rw[q0F,show ev G subC (.var 1) _ = .ok (nI b) from rfl,q04];rfl)).trans ?_;refine (q05 (by rw[q5i];exact h2)).trans ?_;exact qAI (by rw[q8b];rfl)
theorem qKX {U W:List Nat}(o1:G 14 [r,o] = .ok .non) (o2:G 14 [r,z] = .ok .non) (e4:G 4 [r] = .ok (ndD nd)) (m1:G 0 [o] = .ok (nI a)) (m2:G 0 [z] = .ok (nI e)) (u:G 22 [ndD nd,nI a,nI (a ||| e)] = .ok (.lst (nL (a::U)))) (w:G 23 [ndD nd,nI (a ||| e),nI e] = .ok (.lst (nL W)))
  (hU:U.length<=5) (hW:W.length<=5) (e1:∀y∈a::(U++W),G 1 [nI y] = .ok (tD y)):Ev.run G subC 7 q38 [r,o,z] = .ok (.lst ((a::(U++W)).map tD)):=by
 generalize hρ:([some (.val r),some (.val o),some (.val z),some (.val (ndD nd)),some (.val (nI a)),some (.val (nI e)),some (.own (.lst (nL (a::(U++W)))))]:Env)=ρ;refine q1T (ρ:=[some (.val r),some (.val o),some (.val z),none,none,none,none]) (ρ':=ρ) rfl ?_;show exs G subC [.expr (.call 14 [(.var 0),(.var 1)]),.expr (.call 14 [(.var 0),(.var 2)]),.set 3 (.call 4 [(.var 0)]),.set 4 (.call 0 [(.var 1)]),.set 5 (.call 0 [(.var 2)]),.setF 6 22 [(.var 3),(.var 4),(.op .bor (.var 4) (.var 5))],.extF 6 23 [(.var 3),(.op .bor (.var 4) (.var 5)),(.var 5)],.ret (.comp 0 (.call 1 [(.var 0)]) (.b 6) [])] _=_;refine (q05 (by rw[q8Z,q0U (x:=r) (y:=o) rfl rfl o1,q04])).trans ?_;refine (q05 (by rw[q8Z,q0U (x:=r) (y:=z) rfl rfl o2,q04])).trans ?_;refine (q05 (ρ':=[some (.val r),some (.val o),some (.val z),some (.val (ndD nd)),none,none,none]) (by rw[q0F,q0h,evs1 (G:=G) (x:=r) rfl,q00,e4,q04];rfl)).trans ?_;refine (q05 (ρ':=[some (.val r),some (.val o),some (.val z),some (.val (ndD nd)),some (.val (nI a)),none,none]) (by rw[q0F,q0h,evs1 (G:=G) (x:=o) rfl,q00,m1,q04];rfl)).trans ?_;refine (q05 (ρ':=[some (.val r),some (.val o),some (.val z),some (.val (ndD nd)),some (.val (nI a)),some (.val (nI e)),none]) (by rw[q0F,q0h,evs1 (G:=G) (x:=z) rfl,q00,m2,q04];rfl)).trans ?_;have b1:∀x:Option Sl,ev G subC (.op .bor (.var 4) (.var 5)) [some (.val r),some (.val o),some (.val z),some (.val (ndD nd)),some (.val (nI a)),some (.val (nI e)),x] = .ok (nI (a ||| e)):=λ x=>by rw[q0m,show ev G subC (.var 4) _ = .ok (nI a) from rfl,q00,show ev G subC (.var 5) _ = .ok (nI e) from rfl,q00,qIl]
 refine (q05 (ρ':=[some (.val r),some (.val o),some (.val z),some (.val (ndD nd)),some (.val (nI a)),some (.val (nI e)),some (.own (.lst (nL (a::U))))]) (by rw[qBH,q0D,show ev G subC (.var 3) _ = .ok (ndD nd) from rfl,q00,evs2 (x:=nI a) rfl (b1 none),q00,q04,u,q04];rfl)).trans ?_
 refine (q05 (ρ':=ρ) (by rw[qBI];show R.go (evs G subC [.var 3,.op .bor (.var 4) (.var 5),.var 5] [some (.val r),some (.val o),some (.val z),some (.val (ndD nd)),some (.val (nI a)),some (.val (nI e)),some (.own (.lst (nL (a::U))))]) _ _=_;rw[q0D,show ev G subC (.var 3) _ = .ok (ndD nd) from rfl,q00,evs2 (y:=nI e) (b1 _) rfl,q00,q04,w,q04];dsimp only;rw[if_pos (by rw[q0X,q0X,q0K,Qo];lia),<-q4z,<-hρ];rfl)).trans ?_
 have it:evi G subC (.b 6) ρ = .ok ((a::(U++W)).map nI):=by rw[qIh,<-hρ];rfl
 exact q0z (by rw[q34,comp_map (g:=tD) it (λ y hy=>by rw[q0h,evs1 (G:=G) (x:=nI y) rfl,q00];exact e1 y hy) (by rw[Qo,QA];lia),q04])
theorem qHi {c:Nat}(h:G 14 [r,o] = .err c):Ev.run G subC 7 q38 [r,o,z] = .err c:=by simp[Ev.run,q38,h]
theorem qHj {c:Nat}(h1:G 14 [r,o] = .ok .non) (h:G 14 [r,z] = .err c):Ev.run G subC 7 q38 [r,o,z] = .err c:=by simp[Ev.run,q38,h,h1]
theorem qAJ {l:List Nat}(he:Rch nd e) (hk:Rch nd k) (h:Road nd e k l):∀y∈l,Rch nd y:=by
 induction h with
 |nil=>exact λ y hy=>by cases hy
 |cons hne _ ih =>
  have:=(q6r hk he rfl hne).1;intro y hy;rcases Qf.mp hy with z|z
  ·exact z▸this
  ·exact ih this y z
theorem qEi {n:Nat}{l:List Nat}(he:Rch nd e) (hk:Rch nd k) (hn:nd.length=n) (h:Road nd e k l):l.length=dst n k e:=by
 induction h with
 |nil=>rw[qEe];rfl
 |cons hne _ ih =>
  have:=q6r hk he hn hne;rw[this.2,Qo,ih this.1]
theorem qKY (g:Good n ws) (k:Nat) (ha:a∈due n ws) (he:e∈due n ws):∃L,Road (nds n ws) e a L/\Gm (k+9) 21 [rD n ws,tD a,tD e] = .ok (.lst ((a::L).map tD)):=by
 have hn:=g.n5;have hl:=q0j n ws;have ra:=(q0k g a).mp ha;have re:=(q0k g e).mp he;have rt:=qFL ra re;have lt:a ||| e<2^n:=by have:=q1H rt;rwa [hl] at this
 have p2:2^n<=32:=QC (i:=n) (j:=5) (by decide:0<2) hn;have h32:a ||| e<32:=by lia
 obtain⟨U,hU,u1,u2⟩:=qKV (G:=Gm (k+7)) re ra h32 λ x hx=>q5R (k+4) (nds n ws) x (a ||| e) (by rw[hl];exact lt) (by lia);obtain⟨ks,_,hks,e8⟩:=qKL (nd:=nds n ws) (b:=a ||| e) (k+3) (by lia) (by rw[hl];exact lt);obtain⟨W,hW,w1,w2⟩:=qKW (G:=Gm (k+7)) re rt (q9x a e) h32 e8 (λ x hx=>qCy (k+4) (sm32 hx h32) hx hks) λ t=>q8q (k+6) e t;refine⟨U++W,u1 W w1,(q1S (k+8) 21 _ 3 7 q38 rfl rfl).trans ?_⟩;refine qKX (nd:=nds n ws) (a:=a) (e:=e) (q3w g k ha) (q3w g k he) (q2B g (k+6)) (q90 g (k+7) (qAj g ha)) (q90 g (k+7) (qAj g he)) ((qFV (k+7) 22 _ 3 5 q4r rfl rfl).trans u2) ((qFV (k+7) 23 _ 3 7 q2w rfl rfl).trans w2) hU hW λ y hy=>q3s (k+6) y ?_;have hy':Rch (nds n ws) y:=by
  rcases Qf.mp hy with z|z
  ·exact z▸ra
  ·exact qAJ re ra (u1 W w1) y z
 have:=q1H hy';rw[hl] at this;lia
end Mk
namespace Mk
open Ev
variable {ds acc:List Nat}{k e w:Nat}{d:D}
variable {n:Nat}{ws:List Wn}{G:Nat->List D->R D}{nd:List (List Nat)}
theorem qKZ (m t:Nat) (hm:m<32):Ev.run G subC 2 q2x [tD m,nI t] = .ok (tD (wo m t)):=by
 generalize hρ:([some (.val (tD m)),some (.val (nI t))]:Env)=ρ;have it:evi G subC (.e (.var 0)) ρ = .ok ((q01 m).map nI):=by rw[<-hρ];rfl
 have c:q0O (ev G subC (.var 0)) (tsts G subC [(.e (.cm .ne (.var 0) (.var 2)))]) 0 ρ ((q01 m).map nI) = .ok (((q01 m).filter λ e=>!decide (e=t)).map nI) :=
  q0J (us:=λ x=>[nI x]) λ x hx=>by refine⟨rfl,?_,λ _=>rfl⟩;show tsts G subC _ (some (.val (nI x))::ρ)=_;rw[q0c,q0p (q0e (x:=nI x) (y:=nI t) rfl (by rw[<-hρ];rfl) (ne_n x t)),q00,q15];cases decide (x=t)<;>rfl
 have hl:(q01 m).length<=5:=q16 hm;refine q1T (ρ:=ρ) (ρ':=ρ) (by rw[<-hρ];rfl) (q0z ?_);have q:ev G subC (.comp 0 (.var 0) (.e (.var 0)) [(.e (.cm .ne (.var 0) (.var 2)))]) ρ = .ok (.lst (nL (q01 (wo m t)))):=by rw[q0i,it,q00,c,q0P,q00,if_pos (by rw[Qh,q0K];have:=Qu (λ e=>!decide (e=t)) (q01 m);lia),qCh];rfl
 rw[q34,q1P,evs1 q,q00,q1w,q04];rfl
theorem qFW (k m t:Nat) (hm:m<32):Gm (k+1) 33 [tD m,nI t] = .ok (tD (wo m t)):=(q1S k 33 _ 2 2 q2x rfl rfl).trans (qKZ m t hm)
theorem qEj {m t:Nat}(hm:m<32) (h:m.testBit t=false):biD subC .sorted [.tup (nL (q01 m++[t]))] = .ok (.lst (nL (q01 (m ||| 1 <<< t)))):=by
 have hl:(q01 m).length<=5:=q16 hm;have hnd:(q01 m++[t]).Nodup:=by
  rw[Qz];exact⟨q4N m,QD.mpr ⟨Jo,Jp⟩,λ a ha b hb=>by rw[Qt] at hb;rintro rfl;subst hb;rw[q06,h] at ha;cases ha⟩
 have e:q03 0 (q01 m++[t])=m ||| 1 <<< t:=by rw[qCr,q2A]
 have:=qEX hnd (by rw[QA,QN];lia);rw[e] at this;exact this
def rw_a:L:= .bi .tuple [(.bi .sorted [(.op .add (.var 2) (.tup [(.var 0)]))])]
def rw_m:L:= .comp 0 (.var 0) (.e (.var 2)) [(.and (.e (.cm .nmem (.var 0) (.var 2))) (.e (.cm .mem rw_a (.var 1))))]
def rw_f:L:= .comp 0 (.var 0) (.e (.var 1)) [(.and (.e (.cm .nmem (.var 0) (.var 3))) (.e (.cm .mem (.call 33 [(.var 2),(.var 0)]) (.var 1))))]
def rw_s:L:= .ite (.e (.var 4)) (.bi .tuple [(.bi .sorted [(.op .add (.var 1) (.tup [(.idx (.var 4) (.con (.int 0)))]))])]) (.call 33 [(.var 1),(.idx (.var 5) (.neg (.con (.int 1))))])
def rw_w:List S:=[.set 4 rw_m,.set 5 rw_f,.set 1 rw_s,.app 3 (.var 1)]
def rwE (ds:List Nat) (k e:Nat) (acc:List Nat) (x y:Option Sl):Env:=[some (.val (.lst (ds.map tD))),some (.val (tD k)),some (.val (tD e)),some (.own (.lst (acc.map tD))),x,y]
theorem qD4 {ρ:Env}{a b:L}{m t:Nat}(hm:m<32) (h:m.testBit t=false) (ha:ev G subC a ρ = .ok (tD m)) (hb:ev G subC b ρ = .ok (nI t)):ev G subC (.bi .tuple [(.bi .sorted [(.op .add a (.tup [b]))])]) ρ = .ok (tD (m ||| 1 <<< t)):=by
 have hl:(q01 m).length<=5:=q16 hm;have o:opD .add (tD m) (.tup [nI t]) = .ok (.tup (nL (q01 m++[t]))):=by unfold opD tD;dsimp only[addD,tupD];rw[if_pos (by rw[q0X,q0K,QN];lia),q4z];rfl
 have q:ev G subC (.op .add a (.tup [b])) ρ = .ok (.tup (nL (q01 m++[t]))):=by rw[q0m,ha,q00,q2L (evs1 hb) (by simp),q00,o]
 rw[q1P,evs1 (x:= .lst (nL (q01 (m ||| 1 <<< t)))) (by rw[q1P,evs1 q,q00,qEj hm h]),q00,q1w];rfl
theorem qHk {x y:Option Sl}(hds:∀z,z∈ds↔Rch nd z) (rk:Rch nd k) (hk:k<32) (he:e<32):ev G subC rw_m (rwE ds k e acc x y) = .ok (.lst (nL (q1r nd k e))):=by
 generalize hρ:rwE ds k e acc x y=ρ;have it:evi G subC (.e (.var 2)) ρ = .ok ((q01 e).map nI):=by rw[<-hρ];rfl
 have c:q0O (ev G subC (.var 0)) (tsts G subC [(.and (.e (.cm .nmem (.var 0) (.var 2))) (.e (.cm .mem rw_a (.var 1))))]) 0 ρ ((q01 e).map nI) = .ok (((q01 e).filter (mayL nd k)).map nI) :=
  q0J (us:=λ x=>[nI x]) λ t ht=>by
   refine⟨rfl,?_,λ _=>rfl⟩;show tsts G subC _ (some (.val (nI t))::ρ)=_;have u2:ev G subC (.var 2) (some (.val (nI t))::ρ) = .ok (tD k):=(by rw[<-hρ];rfl);have u1:ev G subC (.var 1) (some (.val (nI t))::ρ) = .ok (.lst (ds.map tD)):=(by rw[<-hρ];rfl);rw[q0c,q43,q0p (q0e (x:=nI t) (y:=tD k) rfl u2 (q8t t (q01 k))),q00,q15];cases q:k.testBit t with
   |true =>
    have h1:decide (t∈q01 k)=true:=decide_eq_true (q06.mpr q);have h2:mayL nd k t=false:=(by unfold mayL;rw[q];rfl);rw[h1,h2];rfl
   |false =>
    have h1:decide (t∈q01 k)=false:=decide_eq_false λ z=>by rw[q06,q] at z;cases z
    have h2:decide (k ||| 1 <<< t∈ds)=mayL nd k t:=by rw[QB,decide_eq_true_eq,hds];refine⟨λ h=>qHb h q,λ h=>?_⟩;exact .s rk h
    have a1:ev G subC rw_a (some (.val (nI t))::ρ) = .ok (tD (k ||| 1 <<< t)):=qD4 (b:= .var 0) hk q u2 rfl;rw[h1,Jq,if_pos rfl,q0p (q0e a1 u1 (q88 _ ds)),q00,h2];cases mayL nd k t<;>rfl
 have hl:(q01 e).length<=5:=q16 he;rw[rw_m,q0i,it,q00,c,q0P,q00,if_pos (by rw[Qh,q0K];have:=Qu (mayL nd k) (q01 e);lia)];rfl
theorem qKa {x y:Option Sl}(hds:∀z,z∈ds↔Rch nd z) (hk:k<32) (e33:∀t,G 33 [tD k,nI t] = .ok (tD (wo k t))):ev G subC rw_f (rwE ds k e acc x y) = .ok (.lst (nL (fewL nd k e))):=by
 generalize hρ:rwE ds k e acc x y=ρ;have it:evi G subC (.e (.var 1)) ρ = .ok ((q01 k).map nI):=by rw[<-hρ];rfl
 have c:q0O (ev G subC (.var 0)) (tsts G subC [(.and (.e (.cm .nmem (.var 0) (.var 3))) (.e (.cm .mem (.call 33 [(.var 2),(.var 0)]) (.var 1))))]) 0 ρ ((q01 k).map nI) = .ok (((q01 k).filter λ t=>!e.testBit t&&rB nd (wo k t)).map nI) :=
  q0J (us:=λ x=>[nI x]) λ t ht=>by refine⟨rfl,?_,λ _=>rfl⟩;show tsts G subC _ (some (.val (nI t))::ρ)=_;have u3:ev G subC (.var 3) (some (.val (nI t))::ρ) = .ok (tD e):=(by rw[<-hρ];rfl);have u2:ev G subC (.var 2) (some (.val (nI t))::ρ) = .ok (tD k):=(by rw[<-hρ];rfl);have u1:ev G subC (.var 1) (some (.val (nI t))::ρ) = .ok (.lst (ds.map tD)):=(by rw[<-hρ];rfl);have h1:decide (t∈q01 e)=e.testBit t:=(by rw[QB,decide_eq_true_eq,q06]);have h2:decide (wo k t∈ds)=rB nd (wo k t):=(by rw[QB,decide_eq_true_eq,hds,q39]);rw[q0c,q43,q0p (q0e (x:=nI t) (y:=tD e) rfl u3 (q8t t (q01 e))),q00,q15,h1,q0p (q0e (q0U (y:=nI t) u2 rfl (e33 t)) u1 (q88 _ ds)),h2];cases e.testBit t<;>cases rB nd (wo k t)<;>rfl
 have hl:(q01 k).length<=5:=q16 hk;have e2:((q01 k).filter λ t=>!e.testBit t&&rB nd (wo k t))=fewL nd k e:=by unfold fewL q0v;rw[List.filter_filter]
 rw[rw_f,q0i,it,q00,c,q0P,q00,if_pos (by rw[Qh,q0K];have:=Qu (λ t=>!e.testBit t&&rB nd (wo k t)) (q01 k);lia),e2];rfl
theorem ne_t (a b:Nat):cmD .ne (tD a) (tD b) = .ok (.bl (!decide (a=b))):=by
 have h:eqb (tD a) (tD b)=decide (a=b):=by unfold tD;rw[q7L,QB,decide_eq_true_eq,decide_eq_true_eq];exact⟨q6k,λ z=>z▸rfl⟩
 unfold cmD;dsimp only;rw[pl_t,pl_t,h];rfl
theorem qEk {ρ:Env}{i:Nat}{a:L}{x:Nat}(h:ρ[i]? = some (some (.own (.lst (acc.map tD))))) (e:ev G subC a ρ = .ok (tD x)) (hl:acc.length<1000):ex G subC (.app i a) ρ = .ok (ρ.set i (some (.own (.lst ((acc++[x]).map tD))))) .nx:=by rw[q7K,h];dsimp only;rw[e,q04,if_pos (by rw[Qh,q0K];lia),Jt];rfl
theorem qHl (rk:Rch nd k) (re:Rch nd e) (hne:k≠e) (hk:k<32) (e33:∀t,G 33 [tD k,nI t] = .ok (tD (wo k t))):ev G subC rw_s (rwE ds k e acc (some (.val (.lst (nL (q1r nd k e))))) (some (.val (.lst (nL (fewL nd k e)))))) = .ok (tD (stp nd e k)):=by
 generalize hρ:rwE ds k e acc (some (.val (.lst (nL (q1r nd k e))))) (some (.val (.lst (nL (fewL nd k e)))))=ρ;have u1:ev G subC (.var 1) ρ = .ok (tD k):=by rw[<-hρ];rfl
 have u4:ev G subC (.var 4) ρ = .ok (.lst (nL (q1r nd k e))):=by rw[<-hρ];rfl
 have u5:ev G subC (.var 5) ρ = .ok (.lst (nL (fewL nd k e))):=by rw[<-hρ];rfl
 rw[rw_s,q9F,q7J,u4,q00,qIp];cases qCw rk re hne with
 |up t l h g =>
  have hm:=(q3y.mp (h▸Qb:t∈q1r nd k e)).2;have i0:idxD (.lst (nL (t::l))) (.int 0) = .ok (nI t):=nth0 _ (nL l);rw[h,q00];refine (if_pos rfl).trans ?_;rw[qD4 hk (q1q hm) u1 (b:= .idx (.var 4) (.con (.int 0))) (t:=t) (by rw[q25,u4,q00,q0I,q00,h,i0]),g]
 |down t s h f g =>
  rw[h,q00];refine (if_neg (by simp)).trans ?_;have c:ev G subC (.idx (.var 5) (.neg (.con (.int 1)))) ρ = .ok (nI t):=q5W u5 (by unfold nL;rw[List.getLast?_map,f];rfl);rw[q0U u1 c (e33 t),g]
theorem qD5 {n e:Nat}{ds:List Nat}(hn:nd.length=n) (n5:n<=5) (hds:∀z,z∈ds↔Rch nd z) (re:Rch nd e) (e33:∀k,k<32->∀t,G 33 [tD k,nI t] = .ok (tD (wo k t))):∀(f fuel k:Nat) (acc:List Nat) (x y:Option Sl),dst n k e=f->f<fuel->Rch nd k->acc.length+f<1000->
  ∃(L:List Nat) (x' y':Option Sl),Road nd e k L/\q0x (tst G subC (.e (.cm .ne (.var 1) (.var 2)))) (exs G subC rw_w) fuel (rwE ds k e acc x y) = .ok (rwE ds e e (acc++L) x' y') .nx
 |f,0,k,acc,x,y,_,h,_,_=>absurd h (by lia)
 |f,fuel+1,k,acc,x,y,hf,hfu,rk,hl=>by
  have p2:2^n<=32:=QC (i:=n) (j:=5) (by decide:0<2) n5;have l32:∀z,Rch nd z->z<32:=λ z hz=>by have:=q1H hz;rw[hn] at this;lia
  have hk:=l32 k rk;rw[q1e,q0p (q0e (G:=G) (x:=tD k) (y:=tD e) rfl rfl (ne_t _ _)),q04]
  by_cases q:k=e
  ·refine⟨[],x,y,q▸Road.nil,?_⟩;rw[decide_eq_true q,Bool.not_true,if_neg (by simp),QR,q]
  ·rw[decide_eq_false q,Jq,if_pos rfl];obtain⟨r',hd⟩:=q6r rk re hn q;obtain⟨L,x',y',h1,h2⟩:=qD5 hn n5 hds re e33 (f-1) fuel (stp nd e k) (acc++[stp nd e k]) (some (.val (.lst (nL (q1r nd k e))))) (some (.val (.lst (nL (fewL nd k e))))) (by lia) (by lia) r' (by rw[QA,QN];lia);refine⟨stp nd e k::L,x',y',.cons q h1,?_⟩;have s1:ex G subC (.set 4 rw_m) (rwE ds k e acc x y) = .ok (rwE ds k e acc (some (.val (.lst (nL (q1r nd k e))))) y) .nx:=(by rw[q0F,qHk hds rk hk (l32 e re),q04];rfl);have s2:ex G subC (.set 5 rw_f) (rwE ds k e acc (some (.val (.lst (nL (q1r nd k e))))) y) = .ok (rwE ds k e acc (some (.val (.lst (nL (q1r nd k e))))) (some (.val (.lst (nL (fewL nd k e)))))) .nx:=(by rw[q0F,qKa hds hk (e33 k hk),q04];rfl);have s3:ex G subC (.set 1 rw_s) (rwE ds k e acc (some (.val (.lst (nL (q1r nd k e))))) (some (.val (.lst (nL (fewL nd k e)))))) = .ok (rwE ds (stp nd e k) e acc (some (.val (.lst (nL (q1r nd k e))))) (some (.val (.lst (nL (fewL nd k e)))))) .nx:=(by rw[q0F,qHl rk re q hk (e33 k hk),q04];rfl);have s4:ex G subC (.app 3 (.var 1)) (rwE ds (stp nd e k) e acc (some (.val (.lst (nL (q1r nd k e))))) (some (.val (.lst (nL (fewL nd k e)))))) = .ok (rwE ds (stp nd e k) e (acc++[stp nd e k]) (some (.val (.lst (nL (q1r nd k e))))) (some (.val (.lst (nL (fewL nd k e)))))) .nx:=qEk (x:=stp nd e k) rfl rfl (by lia);rw[rw_w,q05 s1,q05 s2,q05 s3,q05 s4,q0L,q1i];refine h2.trans ?_;rw[Jw];rfl
theorem qFX (n a b:Nat):dst n a b<=n:=by have:=Qu (λ t=>!(a.testBit t==b.testBit t)) (Qg n);rw[QK] at this;exact this
theorem qD6 {n a:Nat}(hn:nd.length=n) (n5:n<=5) (hds:∀z,z∈ds↔Rch nd z) (ra:Rch nd a) (re:Rch nd e) (e33:∀k,k<32->∀t,G 33 [tD k,nI t] = .ok (tD (wo k t))) :
  ∃L:List Nat,Road nd e a L/\Ev.run G subC 6 q2y [.lst (ds.map tD),tD a,tD e] = .ok (.lst ((a::L).map tD)):=by
 have hd:=qFX n a e;obtain⟨L,x',y',h1,h2⟩:=qD5 hn n5 hds re e33 (dst n a e) 100000 a [a] none none rfl (by lia) ra (by rw[QN];lia);refine⟨L,h1,q1T (ρ:=[some (.val (.lst (ds.map tD))),some (.val (tD a)),some (.val (tD e)),none,none,none]) (ρ':=(rwE ds e e ([a]++L) x' y').set 3 none) rfl ?_⟩;show exs G subC [.setO 3 (.lst [(.var 1)]),.whl (.e (.cm .ne (.var 1) (.var 2))) rw_w,.retO 3] _=_;refine (q05 (ρ':=rwE ds a e [a] none none) (by rw[q3C,q22 (evs1 (G:=G) (x:=tD a) rfl) (by simp),q04];rfl)).trans ?_;refine (q05 (by rw[q5i];exact h2)).trans ?_;exact q0z (by rw[q8a];rfl)
theorem qHm (g:Good n ws) (k:Nat) {a:Nat}(ha:a∈due n ws) (he:e∈due n ws):∃L,Road (nds n ws) e a L/\Gm (k+2) 34 [.lst ((due n ws).map tD),tD a,tD e] = .ok (.lst ((a::L).map tD)):=by obtain⟨L,h1,h2⟩:=qD6 (G:=Gm (k+1)) (q0j n ws) g.n5 (q0k g) ((q0k g a).mp ha) ((q0k g e).mp he) λ m hm t=>qFW k m t hm;exact⟨L,h1,(q1S (k+1) 34 _ 3 6 q2y rfl rfl).trans h2⟩
section
variable {r o z:D}
def qEl (G:Nat->List D->R D) (r o z:D):Nat->R D
 |0=>G 18 [r,o]
 |_=>G 21 [r,o,z]
theorem qHn (hw:w<=1) (h:qEl G r o z w = .ok d):Ev.run G subC 7 q1g [nI w,r,o,z] = .ok d:=by
 match w,hw with
 |0,_=>exact run1 18 (by kernel_rfl) h (by kernel_rfl)
 |1,_=>exact run1 21 (by kernel_rfl) h (by kernel_rfl)
theorem qEm (hw:w<=1) {c:Nat}(h:qEl G r o z w = .err c) (h2:G 31 [.exc c] = .ok d):Ev.run G subC 7 q1g [nI w,r,o,z] = .ok d:=by
 rw[sub_eq]
 match w,hw with
 |0,_=>exact run2 18 (by kernel_rfl) h (run2 31 (by kernel_rfl) h2 (by kernel_rfl))
 |1,_=>exact run2 21 (by kernel_rfl) h (run2 31 (by kernel_rfl) h2 (by kernel_rfl))
end
theorem qFY (k:Nat) {r o z:D}(hw:w<=1) (h:qEl (Gm (k+1)) r o z w = .ok d):Gm (k+2) 32 [nI w,r,o,z] = .ok d:=(q1S (k+1) 32 _ 4 7 q1g rfl rfl).trans (qHn hw h)
theorem q91 (k:Nat) {r o z:D}{c:Nat}(hw:w<=1) (h:qEl (Gm (k+1)) r o z w = .err c) (h2:Gm (k+1) 31 [.exc c] = .ok d):Gm (k+2) 32 [nI w,r,o,z] = .ok d:=(q1S (k+1) 32 _ 4 7 q1g rfl rfl).trans (qEm hw h h2)
end Mk
namespace Mk
open Ev
variable {n:Nat}{ws:List Wn}{G:Nat->List D->R D}
def BadS (n:Nat) (ws:List Wn) (d:D):Prop:=(∃m,m<2^n/\m∉due n ws/\d=tD m)\/d = .tup [nI n]
structure LawF (G:Nat->List D->R D) (s:D) (n:Nat) (ws:List Wn):Prop where
 good:Good n ws
 h25:∀i:Nat,∃N:Nat,G 25 [s,nI i] = .ok (nI N)
 h26:∀(i:Nat) (o:List Nat),o.length<=7->∃l:List Nat,l.Sublist o/\G 26 [s,nI i,.lst (nL o)] = .ok (.tup (nL l))
 h27:G 27 [s,nI 0,nI 4] = .ok (rD n ws)
 h28:G 28 [nI n] = .ok (.lst ((q13 n).map tD))
 h30:G 30 [rD n ws] = .ok (.lst ((due n ws).map tD))
 h15:∀m∈due n ws,G 15 [rD n ws,tD m] = .ok (.lst (nL (q0G (nds n ws) m (2^n-1))))
 h33:∀m,m<32->∀t,G 33 [tD m,nI t] = .ok (tD (wo m t))
 t0:∀m∈due n ws,∀z,G 32 [nI 0,rD n ws,tD m,z] = .ok (.lst (nL (q0v (nds n ws) m)))
 yes:∀m∈due n ws,G 20 [rD n ws,.lst (nL (q0v (nds n ws) m)),.lst (nL (q0G (nds n ws) m (2^n-1)))] = .ok (tD m)
 no:∀la lb:List Nat,la.length<64->lb.length<64->la.Pairwise (· < ·)->lb.Pairwise (· < ·)->(∀m∈due n ws,¬(q0v (nds n ws) m=la/\q0G (nds n ws) m (2^n-1)=lb))->G 20 [rD n ws,.lst (nL la),.lst (nL lb)] = .ok .non
 rd:∀a∈due n ws,∀e∈due n ws,∃L,Road (nds n ws) e a L/\G 32 [nI 1,rD n ws,tD a,tD e] = .ok (.lst ((a::L).map tD))
 lr:∀a∈due n ws,∀e∈due n ws,∃L,Road (nds n ws) e a L/\G 34 [.lst ((due n ws).map tD),tD a,tD e] = .ok (.lst ((a::L).map tD))
 b0:∀d,BadS n ws d->∀z,G 32 [nI 0,rD n ws,d,z] = .ok q1W
 b1:∀d,BadS n ws d->∀z,G 32 [nI 1,rD n ws,d,z] = .ok q1W
 b2:∀d,BadS n ws d->∀a∈due n ws,G 32 [nI 1,rD n ws,tD a,d] = .ok q1W
theorem qM2 (k:Nat) (zs:List Int):∃(n:Nat) (ws:List Wn),LawF (Gm (k+11)) (.lst (iL zs)) n ws:=by
 obtain⟨n,ws,g,h27⟩:=qEZ (k+7) (M:=4) (by decide) zs;have hn:=g.n5;have hz:q0l n (-1) [(n:Int)]=false:=qEV n 0;have e14:∀d,BadS n ws d->Gm (k+9) 14 [rD n ws,d] = .err 2:=λ d h=>by
  rcases h with ⟨m,h1,h2,rfl⟩|rfl
  ·exact qEa g (k+1) h1 h2
  ·have:=qCu g (k+1) hz;rw[show (D.tup (iL [(n:Int)]))=D.tup [nI n] from rfl] at this;exact this
 refine⟨n,ws,g,λ i=>qHW (k+9) zs i,(qFS (k+8) zs).sub,h27,qFO (k+10) hn,qCk g (k+9),λ m hm=>qCX g (k+5) m (qAj g hm),λ m hm t=>qFW (k+10) m t hm,λ m hm z=>qFY (k+9) (by decide) (qHe g (k+1) hm),λ m hm=>qEh g (k+6) hm,λ la lb h1 h2 h3 h4 h5=>qHg g (k+6) h1 h2 h3 h4 h5,λ a ha e he=>?_,λ a ha e he=>qHm g (k+9) ha he,λ d hd z=>?_,λ d hd z=>?_,λ d hd a ha=>?_⟩
 ·obtain⟨L,h1,h2⟩:=qKY g (k+1) ha he;exact⟨L,h1,qFY (k+9) (w:=1) (by decide) h2⟩
 ·exact q91 (k+9) (by decide) (qHf (k+1) (e14 d hd)) (qCl (k+9))
 ·exact q91 (k+9) (w:=1) (by decide) ((q1S (k+9) 21 _ 3 7 q38 rfl rfl).trans (qHi (e14 d hd))) (qCl (k+9))
 ·exact q91 (k+9) (w:=1) (by decide) ((q1S (k+9) 21 _ 3 7 q38 rfl rfl).trans (qHj (q3w g (k+1) ha) (e14 d hd))) (qCl (k+9))
def frP (la lb:List Nat):D:= .tup [.lst (nL la),.lst (nL lb)]
noncomputable def frD (n:Nat) (ws:List Wn) (m:Nat):D:=frP (q0v (nds n ws) m) (q0G (nds n ws) m (2^n-1))
theorem qKb (a b:List Nat):pl (frP a b)=true:=by unfold pl frP;simp
theorem qKc (a b c d:List Nat):eqb (frP a b) (frP c d)=(decide (a=c)&&decide (b=d)):=by unfold frP;rw[eqb,eqbL,eqbL,eqbL,qCx,qCx,Bool.and_true]
theorem qD7 (la lb fr:List Nat):memD (frP la lb) (.lst (fr.map (frD n ws))) = .ok (fr.any λ m=>decide (q0v (nds n ws) m=la)&&decide (q0G (nds n ws) m (2^n-1)=lb)):=by
 have h:plL (fr.map (frD n ws))=true:=q1R.mpr λ d hd=>by obtain⟨m,_,rfl⟩:=Qq.mp hd;exact qKb _ _
 show (if (pl (frP la lb)&&plL (fr.map (frD n ws)))=true then R.ok ((fr.map (frD n ws)).any λ y=>eqb y (frP la lb)) else R.stuck)=_;rw[qKb,h,List.any_map];refine (if_pos rfl).trans ?_;congr 2;funext m;exact qKc _ _ _ _
theorem qKd (la lb fr:List Nat):cmD .mem (frP la lb) (.lst (fr.map (frD n ws))) = .ok (.bl (fr.any λ m=>decide (q0v (nds n ws) m=la)&&decide (q0G (nds n ws) m (2^n-1)=lb))):=by have:cmD .mem (frP la lb) (.lst (fr.map (frD n ws)))=(memD (frP la lb) (.lst (fr.map (frD n ws)))).bind λ r=> .ok (.bl r):=rfl;rw[this,qD7,q00]
theorem qHo (la lb fr:List Nat):cmD .nmem (frP la lb) (.lst (fr.map (frD n ws))) = .ok (.bl (!fr.any λ m=>decide (q0v (nds n ws) m=la)&&decide (q0G (nds n ws) m (2^n-1)=lb))):=by have:cmD .nmem (frP la lb) (.lst (fr.map (frD n ws)))=(memD (frP la lb) (.lst (fr.map (frD n ws)))).bind λ r=> .ok (.bl (!r)):=rfl;rw[this,qD7,q00]
def lf_c:L:= .comp 0 (.var 0) (.e (.var 4)) [(.e (.cm .mem (.call 33 [(.var 5),(.var 0)]) (.var 3)))]
def lf_i:S:= .ifs (.or (.e (.cm .ne (.call 32 [(.con (.int 0)),(.var 1),(.var 4),(.tup [])]) (.var 5))) (.e (.cm .mem (.tup [(.var 5),(.var 6)]) (.bor 3)))) [.ret (.con (.bl false))] []
def lf_j:S:= .ifs (.e (.cm .ne (.call 20 [(.var 1),(.bi .list [(.var 5)]),(.bi .list [(.var 6)])]) (.var 4))) [.ret (.con (.bl false))] []
def lf_b:List S:=[.set 5 lf_c,.set 6 (.call 15 [(.var 1),(.var 4)]),lf_i,lf_j,.app 3 (.tup [(.var 5),(.var 6)])]
noncomputable def lfE (s:D) (n:Nat) (ws:List Wn) (fr:List Nat) (a b c o z f fa no ba:Option Sl):Env:=[some (.val s),some (.val (rD n ws)),some (.val (.lst ((due n ws).map tD))),some (.own (.lst (fr.map (frD n ws)))),a,b,c,o,z,f,fa,no,ba]
theorem qHp {s:D}(H:LawF G s n ws) {fr:List Nat}{m:Nat}(hm:m∈due n ws) {b c o z f fa no ba:Option Sl}:ev G subC lf_c (lfE s n ws fr (some (.val (tD m))) b c o z f fa no ba) = .ok (.lst (nL (q0v (nds n ws) m))):=by
 have h32:=qCo H.good hm;generalize hρ:lfE s n ws fr (some (.val (tD m))) b c o z f fa no ba=ρ;have it:evi G subC (.e (.var 4)) ρ = .ok ((q01 m).map nI):=by rw[<-hρ];rfl
 have c:q0O (ev G subC (.var 0)) (tsts G subC [(.e (.cm .mem (.call 33 [(.var 5),(.var 0)]) (.var 3)))]) 0 ρ ((q01 m).map nI) = .ok (((q01 m).filter λ t=>rB (nds n ws) (wo m t)).map nI) :=
  q0J (us:=λ x=>[nI x]) λ t ht=>by refine⟨rfl,?_,λ _=>rfl⟩;show tsts G subC _ (some (.val (nI t))::ρ)=_;have u5:ev G subC (.var 5) (some (.val (nI t))::ρ) = .ok (tD m):=(by rw[<-hρ];rfl);have u3:ev G subC (.var 3) (some (.val (nI t))::ρ) = .ok (.lst ((due n ws).map tD)):=(by rw[<-hρ];rfl);have h2:decide (wo m t∈due n ws)=rB (nds n ws) (wo m t):=(by rw[QB,decide_eq_true_eq,q0k H.good,q39]);rw[q0c,q0p (q0e (q0U (y:=nI t) u5 rfl (H.h33 m h32 t)) u3 (q88 _ _)),h2,q00,q15];cases rB (nds n ws) (wo m t)<;>rfl
 have hl:(q01 m).length<=5:=q16 h32;rw[lf_c,q0i,it,q00,c,q0P,q00,if_pos (by rw[Qh,q0K];have:=Qu (λ t=>rB (nds n ws) (wo m t)) (q01 m);lia)];rfl
theorem qD8 (g:Good n ws):(due n ws).Nodup:=(q2C g.n5).filter _
theorem qD9 {s:D}(H:LawF G s n ws) {o z f fa no ba:Option Sl}:∀(ms pre:List Nat) (a b c:Option Sl),due n ws=pre++ms->
  ∃a' b' c',q1D (exs G subC lf_b) 0 [4] (ms.map tD) (lfE s n ws pre a b c o z f fa no ba) = .ok (lfE s n ws (due n ws) a' b' c' o z f fa no ba) .nx
 |[],pre,a,b,c,h=>⟨a,b,c,by rw[h,QR];rfl⟩
 |m::ms,pre,a,b,c,h=>by
  have g:=H.good;have hm:m∈due n ws:=by rw[h];exact Qj _ Qb
  generalize hla:q0v (nds n ws) m=la;generalize hlb:q0G (nds n ws) m (2^n-1)=lb;obtain⟨a',b',c',e⟩:=qD9 H (o:=o) (z:=z) (f:=f) (fa:=fa) (no:=no) (ba:=ba) ms (pre++[m]) (some (.val (tD m))) (some (.val (.lst (nL la)))) (some (.val (.lst (nL lb)))) (by rw[h,Jw];rfl);refine⟨a',b',c',?_⟩;rw[Qx,q0R];show (exs G subC lf_b (lfE s n ws pre (some (.val (tD m))) b c o z f fa no ba)).turn _=_;have s1:ex G subC (.set 5 lf_c) (lfE s n ws pre (some (.val (tD m))) b c o z f fa no ba) = .ok (lfE s n ws pre (some (.val (tD m))) (some (.val (.lst (nL la)))) c o z f fa no ba) .nx:=by rw[q0F,qHp H hm,q04,hla];rfl
  have s2:ex G subC (.set 6 (.call 15 [(.var 1),(.var 4)])) (lfE s n ws pre (some (.val (tD m))) (some (.val (.lst (nL la)))) c o z f fa no ba) = .ok (lfE s n ws pre (some (.val (tD m))) (some (.val (.lst (nL la)))) (some (.val (.lst (nL lb)))) o z f fa no ba) .nx:=by rw[q0F,q0U (x:=rD n ws) (y:=tD m) rfl rfl (H.h15 m hm),q04,hlb];rfl
  have t0:=H.t0 m hm (.tup []);have ys:=H.yes m hm;rw[hla] at t0 ys;rw[hlb] at ys;have hdn:=qD8 g;have pf:(pre.any λ x=>decide (q0v (nds n ws) x=la)&&decide (q0G (nds n ws) x (2^n-1)=lb))=false:=by rw[List.any_eq_false];intro x hx hh;rw[Qd,decide_eq_true_eq,decide_eq_true_eq,<-hlb] at hh;have hxd:x∈due n ws:=(by rw[h];exact Qv _ hx);have:=qAE ((q0k g x).mp hxd) ((q0k g m).mp hm) (qAj g hxd) (qAj g hm) hh.2;rw[h] at hdn;exact (Qz.mp hdn).2.2 x hx m Qb this
  generalize hρ:lfE s n ws pre (some (.val (tD m))) (some (.val (.lst (nL la)))) (some (.val (.lst (nL lb)))) o z f fa no ba=ρ;have v1:ev G subC (.var 1) ρ = .ok (rD n ws):=by rw[<-hρ];rfl
  have v4:ev G subC (.var 4) ρ = .ok (tD m):=by rw[<-hρ];rfl
  have v5:ev G subC (.var 5) ρ = .ok (.lst (nL la)):=by rw[<-hρ];rfl
  have v6:ev G subC (.var 6) ρ = .ok (.lst (nL lb)):=by rw[<-hρ];rfl
  have v3:ev G subC (.bor 3) ρ = .ok (.lst (pre.map (frD n ws))):=by rw[<-hρ];rfl
  have vt:ev G subC (.tup [(.var 5),(.var 6)]) ρ = .ok (frP la lb):=q2L (evs2 v5 v6) (by simp);have s3:ex G subC lf_i ρ = .ok ρ .nx :=
   qCp (qHZ (q0p (q0e (q3x (x:=nI 0) (w:= .tup []) rfl v1 v4 (q2L (q0n _) (by simp)) t0) v5 (qCn (qG6 la) (qKK la)))) (q0p (q0e vt v3 (by rw[qKd,pf]))))
  have s4:ex G subC lf_j ρ = .ok ρ .nx:=by have l5:ev G subC (.bi .list [(.var 5)]) ρ = .ok (.lst (nL la)):=(by rw[q1P,evs1 v5,q00,q51]);have l6:ev G subC (.bi .list [(.var 6)]) ρ = .ok (.lst (nL lb)):=(by rw[q1P,evs1 v6,q00,q51]);exact qCp (q0p (q0e (q2M v1 l5 l6 ys) v4 (by rw[ne_t];simp)))
  have hpl:pre.length<=32:=by have:=qHY g;rw[h,QA] at this;lia
  have s5:ex G subC (.app 3 (.tup [(.var 5),(.var 6)])) ρ = .ok (lfE s n ws (pre++[m]) (some (.val (tD m))) (some (.val (.lst (nL la)))) (some (.val (.lst (nL lb)))) o z f fa no ba) .nx:=by have i3:ρ[3]? = some (some (.own (.lst (pre.map (frD n ws))))):=(by rw[<-hρ];rfl);rw[q7K,i3];dsimp only;rw[vt,q04,if_pos (by rw[Qh,q0K];lia)];have:frP la lb=frD n ws m:=(by unfold frD;rw[hla,hlb]);rw[this,<-hρ];unfold lfE;rw[Jt];rfl
  rw[hρ] at s2;rw[lf_b,q05 s1,q05 s2,q05 s3,q05 s4,q05 s5,q0L,q1i];exact e
end Mk
namespace Mk
open Ev
variable {n:Nat}{ws:List Wn}{G:Nat->List D->R D}
def lf_1:S:= .set 1 (.call 27 [(.var 0),(.con (.int 0)),(.con (.int 4))])
def lf_2:S:= .set 2 (.call 30 [(.var 1)])
def lf_3:S:= .setO 3 (.lst [])
def lf_4:S:= .forr 0 [4] (.e (.var 2)) lf_b
def lf_d (c:Nat):L:= .bi .list [(.call 26 [(.var 0),(.con (.int (c:Int))),(.lrng [(.idx (.var 1) (.con (.int 0)))])])]
def lf_7:S:= .ifs (.and (.e (.cm .nmem (.tup [(.var 5),(.var 6)]) (.bor 3))) (.e (.cm .notN (.call 20 [(.var 1),(.var 5),(.var 6)]) (.con .non)))) [.ret (.con (.bl false))] []
def lf_p (c:Int):L:= .idx (.var 2) (.op .mod (.call 25 [(.var 0),(.con (.int c))]) (.bi .len [(.var 2)]))
def qHq:S:= .set 9 (.call 32 [(.con (.int 1)),(.var 1),(.var 7),(.var 8)])
def qAK:L:= .comp 0 (.var 0) (.rng [(.idx (.var 1) (.con (.int 0)))]) [(.e (.cm .ne (.cm .mem (.var 0) (.var 8)) (.cm .mem (.var 0) (.var 9))))]
def qHr:S:= .set 10 (.bi .len [qAK])
def qDA:L:= .comp 0 (.cm .mem (.var 0) (.var 3)) (.e (.var 9)) []
def qKe:S:= .ifs (.or (.e (.cm .ne (.var 9) (.call 34 [(.var 2),(.var 7),(.var 8)]))) (.or (.e (.cm .ne (.bi .len [(.var 9)]) (.op .add (.var 10) (.con (.int 1))))) (.not (.e (.bi .all [qDA]))))) [.ret (.con (.bl false))] []
def lk_c:L:= .comp 0 (.var 0) (.e (.call 28 [(.idx (.var 1) (.con (.int 0)))])) [(.e (.cm .nmem (.var 0) (.var 3)))]
def qHs:S:= .set 11 (.op .add lk_c (.lst [(.tup [(.idx (.var 1) (.con (.int 0)))])]))
def qHt:S:= .set 12 (.idx (.var 11) (.op .mod (.call 25 [(.var 0),(.con (.int 104))]) (.bi .len [(.var 11)])))
noncomputable def qHu:S:= .ret (.cm .eq (.lst [(.call 32 [(.con (.int 0)),(.var 1),(.var 12),(.tup [])]),(.call 32 [(.con (.int 1)),(.var 1),(.var 12),(.var 7)]),(.call 32 [(.con (.int 1)),(.var 1),(.var 7),(.var 12)])]) (.op .mul (.lst [(.con (.str "state"))]) (.con (.int 3))))
theorem qM3:qCP=[lf_1,lf_2,lf_3,lf_4,.set 5 (lf_d 100),.set 6 (lf_d 101),lf_7,.set 7 (lf_p 102),.set 8 (lf_p 103),qHq,qHr,qKe,qHs,qHt,qHu]:=rfl
theorem qDB {s:D}(H:LawF G s n ws) (c:Nat) {ρ:Env}(v0:ev G subC (.var 0) ρ = .ok s) (v1:ev G subC (.var 1) ρ = .ok (rD n ws)):∃l:List Nat,l.length<64/\l.Pairwise (· < ·)/\ev G subC (lf_d c) ρ = .ok (.lst (nL l)):=by
 have hn:=H.good.n5;have e6:idxD (rD n ws) (.int 0) = .ok (nI n):=idx0 _ _;obtain⟨l,hl,e⟩:=H.h26 c (Qg n) (by rw[QK];lia);have hlen:=hl.length_le;rw[QK] at hlen;refine⟨l,by lia,List.pairwise_lt_range.sublist hl,?_⟩;have a1:ev G subC (.idx (.var 1) (.con (.int 0))) ρ = .ok (nI n):=by rw[q25,v1,q00,q0I,q00,e6]
 have a2:ev G subC (.lrng [(.idx (.var 1) (.con (.int 0)))]) ρ = .ok (.lst (nL (Qg n))):=by rw[qBG,evs1 a1,q00,q4Y n (by lia),q00,if_pos (by rw[q0X,QK,q0K];lia)]
 rw[lf_d,q1P,evs1 (q2M v0 (y:=nI c) rfl a2 e),q00,q8d]
theorem qM4 (a b:Bool):cmD .ne (.bl a) (.bl b) = .ok (.bl (!(a==b))):=by unfold cmD;dsimp only;rw[qIn,qIn,eqb];rfl
theorem qEn {s:D}(H:LawF G s n ws):Ev.run G subC 13 qCP [s] = .ok (.bl true):=by
 have g:=H.good;have hn:=g.n5;have e6:idxD (rD n ws) (.int 0) = .ok (nI n):=idx0 _ _;obtain⟨a,b,c,e4⟩:=qD9 H (o:=none) (z:=none) (f:=none) (fa:=none) (no:=none) (ba:=none) (due n ws) [] none none none rfl;have s1:ex G subC lf_1 [some (.val s),none,none,none,none,none,none,none,none,none,none,none,none] = .ok [some (.val s),some (.val (rD n ws)),none,none,none,none,none,none,none,none,none,none,none] .nx:=by rw[lf_1,q0F,q2M (x:=s) (y:=nI 0) (z:=nI 4) rfl rfl rfl H.h27,q04];rfl
 have s2:ex G subC lf_2 [some (.val s),some (.val (rD n ws)),none,none,none,none,none,none,none,none,none,none,none] = .ok [some (.val s),some (.val (rD n ws)),some (.val (.lst ((due n ws).map tD))),none,none,none,none,none,none,none,none,none,none] .nx:=by rw[lf_2,q0F,q0h,evs1 (G:=G) (x:=rD n ws) rfl,q00,H.h30,q04];rfl
 have s3:ex G subC lf_3 [some (.val s),some (.val (rD n ws)),some (.val (.lst ((due n ws).map tD))),none,none,none,none,none,none,none,none,none,none] = .ok (lfE s n ws [] none none none none none none none none none) .nx:=by rw[lf_3,q3C,q22 (q0n _) (by simp),q04];rfl
 have s4:ex G subC lf_4 (lfE s n ws [] none none none none none none none none none) = .ok (lfE s n ws (due n ws) a b c none none none none none none) .nx:=by rw[lf_4,q2E,q7I,show ev G subC (.var 2) (lfE s n ws [] none none none none none none none none none) = .ok (.lst ((due n ws).map tD)) from rfl,q00,q3X,q04,e4]
 obtain⟨la,hla,pa,e5⟩:=qDB H 100 (ρ:=lfE s n ws (due n ws) a b c none none none none none none) rfl rfl;have s5:ex G subC (.set 5 (lf_d 100)) (lfE s n ws (due n ws) a b c none none none none none none) = .ok (lfE s n ws (due n ws) a (some (.val (.lst (nL la)))) c none none none none none none) .nx:=by rw[q0F,e5,q04];rfl
 obtain⟨lb,hlb,pb,e6'⟩:=qDB H 101 (ρ:=lfE s n ws (due n ws) a (some (.val (.lst (nL la)))) c none none none none none none) rfl rfl;have s6:ex G subC (.set 6 (lf_d 101)) (lfE s n ws (due n ws) a (some (.val (.lst (nL la)))) c none none none none none none) = .ok (lfE s n ws (due n ws) a (some (.val (.lst (nL la)))) (some (.val (.lst (nL lb)))) none none none none none none) .nx:=by rw[q0F,e6',q04];rfl
 generalize hb':some (Sl.val (.lst (nL la)))=b' at s5 s6;generalize hc':some (Sl.val (.lst (nL lb)))=c' at s6;have s7:ex G subC lf_7 (lfE s n ws (due n ws) a b' c' none none none none none none) = .ok (lfE s n ws (due n ws) a b' c' none none none none none none) .nx:=by
  generalize hρ:lfE s n ws (due n ws) a b' c' none none none none none none=ρ;have v1:ev G subC (.var 1) ρ = .ok (rD n ws):=by rw[<-hρ];rfl
  have v5:ev G subC (.var 5) ρ = .ok (.lst (nL la)):=by rw[<-hρ,<-hb'];rfl
  have v6:ev G subC (.var 6) ρ = .ok (.lst (nL lb)):=by rw[<-hρ,<-hc'];rfl
  have v3:ev G subC (.bor 3) ρ = .ok (.lst ((due n ws).map (frD n ws))):=by rw[<-hρ];rfl
  have vt:ev G subC (.tup [(.var 5),(.var 6)]) ρ = .ok (frP la lb):=q2L (evs2 v5 v6) (by simp);refine qCp ?_;rw[q43,q0p (q0e vt v3 (qHo la lb (due n ws))),q00];cases q:(due n ws).any λ m=>decide (q0v (nds n ws) m=la)&&decide (q0G (nds n ws) m (2^n-1)=lb) with
  |true=>rfl
  |false =>
   have:=H.no la lb hla hlb pa pb λ m hm=>by have:=List.any_eq_false.mp q m hm;rw[Qd,decide_eq_true_eq,decide_eq_true_eq] at this;exact this
   rw[Jq,if_pos rfl,q0p (q0e (q2M v1 v5 v6 this) (y:= .non) rfl (r:= .ok (.bl false)) rfl)]
 have hd0:(due n ws).map tD≠[]:=by have:=(q0k g 0).mpr .z;intro z;rw[List.map_eq_nil_iff.mp z] at this;cases this
 obtain⟨d8,hd8,e8⟩:=q8x (G:=G) (ρ:=lfE s n ws (due n ws) a b' c' none none none none none none) (i:=0) (j:=2) (c:=102) rfl rfl hd0 (H.h25 102);obtain⟨x,hx,rfl⟩:=Qq.mp hd8;have s8:ex G subC (.set 7 (lf_p 102)) (lfE s n ws (due n ws) a b' c' none none none none none none) = .ok (lfE s n ws (due n ws) a b' c' (some (.val (tD x))) none none none none none) .nx:=by rw[q0F];refine (congrArg (λ z:R D=>z.go _ _) e8).trans ?_;rfl
 obtain⟨d9,hd9,e9⟩:=q8x (G:=G) (ρ:=lfE s n ws (due n ws) a b' c' (some (.val (tD x))) none none none none none) (i:=0) (j:=2) (c:=103) rfl rfl hd0 (H.h25 103);obtain⟨y,hy,rfl⟩:=Qq.mp hd9;have s9:ex G subC (.set 8 (lf_p 103)) (lfE s n ws (due n ws) a b' c' (some (.val (tD x))) none none none none none) = .ok (lfE s n ws (due n ws) a b' c' (some (.val (tD x))) (some (.val (tD y))) none none none none) .nx:=by rw[q0F];refine (congrArg (λ z:R D=>z.go _ _) e9).trans ?_;rfl
 obtain⟨L,r1,r2⟩:=H.rd x hx y hy;obtain⟨L',r3,r4⟩:=H.lr x hx y hy;have hLL:L=L':=road_eq r1 r3;subst hLL;have rx:=(q0k g x).mp hx;have ry:=(q0k g y).mp hy;have hlen:=qEi ry rx (q0j n ws) r1;have hall:=qAJ ry rx r1;have hdl:=qFX n x y;have s10:ex G subC qHq (lfE s n ws (due n ws) a b' c' (some (.val (tD x))) (some (.val (tD y))) none none none none) = .ok (lfE s n ws (due n ws) a b' c' (some (.val (tD x))) (some (.val (tD y))) (some (.val (.lst ((x::L).map tD)))) none none none) .nx:=by rw[qHq,q0F,q3x (x:=nI 1) (y:=rD n ws) (z:=tD x) (w:=tD y) rfl rfl rfl rfl r2,q04];rfl
 have s11:ex G subC qHr (lfE s n ws (due n ws) a b' c' (some (.val (tD x))) (some (.val (tD y))) (some (.val (.lst ((x::L).map tD)))) none none none) = .ok (lfE s n ws (due n ws) a b' c' (some (.val (tD x))) (some (.val (tD y))) (some (.val (.lst ((x::L).map tD)))) (some (.val (nI (dst n x y)))) none none) .nx:=by
  rw[qHr,q0F];have q:∀ρ,lfE s n ws (due n ws) a b' c' (some (.val (tD x))) (some (.val (tD y))) (some (.val (.lst ((x::L).map tD)))) none none none=ρ->ev G subC (.bi .len [qAK]) ρ = .ok (nI (dst n x y)):=λ ρ hρ=>by
   have a1:ev G subC (.idx (.var 1) (.con (.int 0))) ρ = .ok (nI n):=(by rw[q25,show ev G subC (.var 1) ρ = .ok (rD n ws) by rw[<-hρ];rfl,q00,q0I,q00,e6]);have it:evi G subC (.rng [(.idx (.var 1) (.con (.int 0)))]) ρ = .ok ((Qg n).map nI):=(by rw[q1Q,evs1 a1,q00,q4Y n (by lia)];rfl);have cc:q0O (ev G subC (.var 0)) (tsts G subC [(.e (.cm .ne (.cm .mem (.var 0) (.var 8)) (.cm .mem (.var 0) (.var 9))))]) 0 ρ ((Qg n).map nI) = .ok (((Qg n).filter λ t=>!(x.testBit t==y.testBit t)).map nI) :=
    q0J (us:=λ x=>[nI x]) λ t ht=>by
     refine⟨rfl,?_,λ _=>rfl⟩;show tsts G subC _ (some (.val (nI t))::ρ)=_;have u8:ev G subC (.var 8) (some (.val (nI t))::ρ) = .ok (tD x):=(by rw[<-hρ];rfl);have u9:ev G subC (.var 9) (some (.val (nI t))::ρ) = .ok (tD y):=(by rw[<-hρ];rfl);have dx:∀m:Nat,decide (t∈q01 m)=m.testBit t:=λ m=>by rw[QB,decide_eq_true_eq,q06]
     rw[q0c,q0p (q0e (q0e (x:=nI t) rfl u8 (qCg t (q01 x))) (q0e (x:=nI t) rfl u9 (qCg t (q01 y))) (qM4 _ _)),q00,q15,dx,dx];cases (!(x.testBit t==y.testBit t))<;>rfl
   have w:ev G subC qAK ρ = .ok (.lst (((Qg n).filter λ t=>!(x.testBit t==y.testBit t)).map nI)):=by rw[qAK,q0i,it,q00,cc,q0P,q00,if_pos (by rw[Qh,q0K];unfold dst at hdl;lia)]
   rw[q1P,evs1 w,q00,q26,Qh];rfl
  rw[q _ rfl,q04];rfl
 have s12:ex G subC qKe (lfE s n ws (due n ws) a b' c' (some (.val (tD x))) (some (.val (tD y))) (some (.val (.lst ((x::L).map tD)))) (some (.val (nI (dst n x y)))) none none) = .ok (lfE s n ws (due n ws) a b' c' (some (.val (tD x))) (some (.val (tD y))) (some (.val (.lst ((x::L).map tD)))) (some (.val (nI (dst n x y)))) none none) .nx:=by
  generalize hρ:lfE s n ws (due n ws) a b' c' (some (.val (tD x))) (some (.val (tD y))) (some (.val (.lst ((x::L).map tD)))) (some (.val (nI (dst n x y)))) none none=ρ;have v2:ev G subC (.var 2) ρ = .ok (.lst ((due n ws).map tD)):=by rw[<-hρ];rfl
  have v7:ev G subC (.var 7) ρ = .ok (tD x):=by rw[<-hρ];rfl
  have v8:ev G subC (.var 8) ρ = .ok (tD y):=by rw[<-hρ];rfl
  have v9:ev G subC (.var 9) ρ = .ok (.lst ((x::L).map tD)):=by rw[<-hρ];rfl
  have v10:ev G subC (.var 10) ρ = .ok (nI (dst n x y)):=by rw[<-hρ];rfl
  have l9:ev G subC (.bi .len [(.var 9)]) ρ = .ok (nI (dst n x y+1)):=by rw[q1P,evs1 v9,q00,q26,Qh,Qo,hlen]
  have a10:ev G subC (.op .add (.var 10) (.con (.int 1))) ρ = .ok (nI (dst n x y+1)):=by rw[q0m,v10,q00,q0I,q00];exact add_n _ 1
  have it:evi G subC (.e (.var 9)) ρ = .ok ((x::L).map tD):=by rw[q7I,v9,q00,q3X]
  have cc:=qCq (G:=G) (ρ:=ρ) (d:= .bl true) (x:= .cm .mem (.var 0) (.var 3)) it (λ m hm=>by
   have hmd:m∈due n ws:=by
    rcases Qf.mp hm with h|h
    ·exact h▸hx
    ·exact (q0k g m).mpr (hall m h)
   exact q0e (x:=tD m) (y:= .lst ((due n ws).map tD)) rfl (by rw[<-hρ];rfl) (by rw[q88,decide_eq_true hmd])) (by rw[Qo,hlen];lia)
  have al:ev G subC (.bi .all [qDA]) ρ = .ok (.bl true):=by rw[q1P,qDA,evs1 cc,q00,qF4,q66];show R.ok (D.bl (((x::L).map λ _=>true).all id))=_;rw[Qw.mpr λ t ht=>by obtain⟨_,_,rfl⟩:=Qq.mp ht;rfl]
  exact qCp (qHZ (q0p (q0e v9 (q2M v2 v7 v8 r4) (qCn (qM0 _) (qKJ _)))) (qHZ (q0p (q0e l9 a10 (by rw[ne_n];simp))) (by rw[q8Y,q0p al,q00];rfl)))
 generalize hf':some (Sl.val (.lst ((x::L).map tD)))=f' at s10 s11 s12;generalize hfa':some (Sl.val (nI (dst n x y)))=fa' at s11 s12;generalize hρ9:lfE s n ws (due n ws) a b' c' (some (.val (tD x))) (some (.val (tD y))) f' fa' none none=ρ9 at s11 s12;have v91:ev G subC (.var 1) ρ9 = .ok (rD n ws):=by rw[<-hρ9];rfl
 generalize hbl:((q13 n).filter (λ x=>!decide (x∈due n ws))).map tD++[.tup [nI n]]=bl;have hbln:bl≠[]:=by rw[<-hbl];simp
 have hslen:(q13 n).length<=32:=Qn (q1c (2^n) _ (q2C hn) λ x hx=>(q2K hn x).mp hx) (Qn (QC (by decide) hn) (by decide));have s13:ex G subC qHs ρ9 = .ok (lfE s n ws (due n ws) a b' c' (some (.val (tD x))) (some (.val (tD y))) f' fa' (some (.val (.lst bl))) none) .nx:=by
  have a1:ev G subC (.idx (.var 1) (.con (.int 0))) ρ9 = .ok (nI n):=by rw[q25,v91,q00,q0I,q00,e6]
  have c1:evi G subC (.e (.call 28 [(.idx (.var 1) (.con (.int 0)))])) ρ9 = .ok ((q13 n).map tD):=by rw[q7I,q0h,evs1 a1,q00,H.h28,q00,q3X]
  have c2:q0O (ev G subC (.var 0)) (tsts G subC [(.e (.cm .nmem (.var 0) (.var 3)))]) 0 ρ9 ((q13 n).map tD) = .ok (((q13 n).filter λ x=>!decide (x∈due n ws)).map tD) :=
   q0J (us:=λ x=>[tD x]) λ x hx=>by refine⟨rfl,?_,λ _=>rfl⟩;have u0:ev G subC (.var 0) (some (.val (tD x))::ρ9) = .ok (tD x):=rfl;have u3:ev G subC (.var 3) (some (.val (tD x))::ρ9) = .ok (.lst ((due n ws).map tD)):=(by rw[<-hρ9];rfl);show tsts G subC _ (some (.val (tD x))::ρ9)=_;rw[q0c,q0p (q0e u0 u3 (qCj x (due n ws))),q00,q15];cases (!decide (x∈due n ws))<;>rfl
  have b1:(((q13 n).filter λ x=>!decide (x∈due n ws)).map tD).length<=32:=by rw[Qh];exact Qn (Qu _ _) hslen
  have c3:ev G subC lk_c ρ9 = .ok (.lst (((q13 n).filter λ x=>!decide (x∈due n ws)).map tD)):=by rw[lk_c,q0i,c1,q00,c2,q0P,q00,if_pos (by rw[q0K];lia)]
  have c4:ev G subC (.lst [(.tup [(.idx (.var 1) (.con (.int 0)))])]) ρ9 = .ok (.lst [.tup [nI n]]):=q22 (evs1 (q2L (evs1 a1) (by simp))) (by simp);have c5:opD .add (.lst (((q13 n).filter λ x=>!decide (x∈due n ws)).map tD)) (.lst [.tup [nI n]]) = .ok (.lst bl):=by have:(((q13 n).filter λ x=>!decide (x∈due n ws)).map tD).length+[D.tup [nI n]].length<=big:=(by rw[q0K,QN];lia);unfold opD;dsimp only[addD,lstD,tupD];rw[if_pos this,hbl]
  rw[qHs,q0F,q0m,c3,q00,c4,q00,c5,q04,<-hρ9];rfl
 obtain⟨bad,hbad,e14⟩:=q8x (G:=G) (ρ:=lfE s n ws (due n ws) a b' c' (some (.val (tD x))) (some (.val (tD y))) f' fa' (some (.val (.lst bl))) none) (i:=0) (j:=11) (c:=104) rfl rfl hbln (H.h25 104);have s14:ex G subC qHt (lfE s n ws (due n ws) a b' c' (some (.val (tD x))) (some (.val (tD y))) f' fa' (some (.val (.lst bl))) none) = .ok (lfE s n ws (due n ws) a b' c' (some (.val (tD x))) (some (.val (tD y))) f' fa' (some (.val (.lst bl))) (some (.val bad))) .nx:=by rw[qHt,q0F];refine (congrArg (λ z:R D=>z.go _ _) e14).trans ?_;rfl
 have hbs:BadS n ws bad:=by
  rw[<-hbl] at hbad;rcases Qm.mp hbad with h|h
  ·obtain⟨y,hy,rfl⟩:=Qq.mp h;obtain⟨hy1,hy2⟩:=QG.mp hy;exact .inl ⟨y,(q2K hn y).mp hy1,by simpa using hy2,rfl⟩
  ·exact .inr (Qt.mp h)
 generalize hρ:lfE s n ws (due n ws) a b' c' (some (.val (tD x))) (some (.val (tD y))) f' fa' (some (.val (.lst bl))) (some (.val bad))=ρ at s14;have w1:ev G subC (.var 1) ρ = .ok (rD n ws):=by rw[<-hρ];rfl
 have w7:ev G subC (.var 7) ρ = .ok (tD x):=by rw[<-hρ];rfl
 have w12:ev G subC (.var 12) ρ = .ok bad:=by rw[<-hρ];rfl
 have s15:ex G subC qHu ρ = .ok ρ (.ret (.bl true)):=by
  have c1:=q3x (x:=nI 0) (w:= .tup []) (a:= .con (.int 0)) rfl w1 w12 (q2L (q0n ρ) (by simp)) (H.b0 bad hbs _);have c2:=q3x (x:=nI 1) (a:= .con (.int 1)) rfl w1 w12 w7 (H.b1 bad hbs _);have c3:=q3x (x:=nI 1) (a:= .con (.int 1)) rfl w1 w7 w12 (H.b2 bad hbs x hx);have cl:ev G subC (.lst [(.call 32 [(.con (.int 0)),(.var 1),(.var 12),(.tup [])]),(.call 32 [(.con (.int 1)),(.var 1),(.var 12),(.var 7)]),(.call 32 [(.con (.int 1)),(.var 1),(.var 7),(.var 12)])]) ρ = .ok (.lst [q1W,q1W,q1W]) :=
   q22 (by rw[q0D,c1,q00,evs2 c2 c3,q00]) (by simp)
  have m3:opD .mul (.lst [q1W]) (.int 3) = .ok (.lst [q1W,q1W,q1W]):=by unfold opD mulD;dsimp only[intD];rw[if_pos (by decide)];rfl
  have cm:ev G subC (.op .mul (.lst [(.con (.str "state"))]) (.con (.int 3))) ρ = .ok (.lst [q1W,q1W,q1W]):=by have h1:ev G subC (.lst [(.con (.str "state"))]) ρ = .ok (.lst [q1W]):=q22 (evs1 rfl) (by simp);rw[q0m,h1,q00,q0I,q00,m3]
  rw[qHu,q34,q0e cl cm (qHX rfl (by simp[eqb,eqbL,q1W])),q04]
 refine q1T (ρ:=[some (.val s),none,none,none,none,none,none,none,none,none,none,none,none]) (ρ':=ρ) rfl ?_;rw[qM3,q05 s1,q05 s2,q05 s3,q05 s4,q05 s5,q05 s6,q05 s7,q05 s8,q05 s9,q05 s10,q05 s11,q05 s12,q05 s13,q05 s14];exact q0z s15
theorem qKf (zs:List Int):Gm 12 35 [.lst (zs.map D.int)] = .ok (.bl true):=by obtain⟨n,ws,H⟩:=qM2 0 zs;exact (q1S 11 35 _ 1 13 qCP rfl rfl).trans (qEn H)
end Mk
namespace Tk
open PySem PySem.W L2 Ev Snd
def top (i:Nat):Stmt:=PySem.Challenge.pw_learnyard_k20_whole_fringes.main.body.getD i (.Pass ⟨0,0,0,0⟩)
def q5Y:DefI:=⟨"mask_of",top 1,["things", "mask", "thing"],["things"],[],[],Mk.q7w,false⟩
def q3J:DefI:=⟨"things_of",top 2,["mask"],["mask"],[],[],Mk.q5O,false⟩
def q92:DefI:=⟨"holds",top 3,["mask", "thing"],["mask", "thing"],[],[],Mk.qCO,false⟩
def q2O:DefI:=⟨"mask_of_all",top 4,["count"],["count"],[],[],Mk.q3p,false⟩
def q4O:DefI:=⟨"needs_of",top 5,["rules", "needs", "way"],["rules"],["needs"],["needs"],Mk.q62,false⟩
def q3K:DefI:=⟨"may_learn",top 6,["needs", "known", "thing", "needed"],["needs", "known", "thing"],[],[],Mk.q5P,false⟩
def q2P:DefI:=⟨"next_within",top 7,["needs", "known", "bounds"],["needs", "known", "bounds"],[],[],Mk.q3q,false⟩
def q2Q:DefI:=⟨"core_within",top 8,["needs", "bounds", "known", "later"],["needs", "bounds"],[],[],Mk.q3r,false⟩
def q1s:DefI:=⟨"states_within",top 9,["needs", "bounds", "found", "waiting", "known", "thing", "larger"],["needs", "bounds"],["waiting", "found"],[],Mk.q2i,false⟩
def q4P:DefI:=⟨"is_whole",top 20,["value"],["value"],[],[],Mk.q2u,false⟩
def q6s:DefI:=⟨"is_set",top 21,["count", "things", "ahead", "thing"],["count", "things"],[],[],Mk.q9w,false⟩
def q2k:DefI:=⟨"look_rules",top 22,["rules", "count", "ways", "way", "place"],["rules"],[],[],Mk.q4e,false⟩
def q4Q:DefI:=⟨"look_way",top 23,["count", "way", "thing", "needed"],["count", "way"],[],[],Mk.q1B,false⟩
def q4R:DefI:=⟨"look_set",top 24,["rules", "things"],["rules", "things"],[],[],Mk.q2v,false⟩
def q2l:DefI:=⟨"look_state",top 25,["rules", "state"],["rules", "state"],[],[],Mk.q0S,false⟩
def q2R:DefI:=⟨"next_things",top 26,["rules", "state"],["rules", "state"],[],[],Mk.q1Z,false⟩
def q4S:DefI:=⟨"is_state",top 27,["rules", "things"],["rules", "things"],[],[],Mk.q1L,false⟩
def qDC:DefI:=⟨"core",top 28,["rules", "things"],["rules", "things"],[],[],Mk.q5Q,false⟩
def q2S:DefI:=⟨"last_things",top 30,["rules", "state", "mask"],["rules", "state"],[],[],Mk.q0T,false⟩
def q2m:DefI:=⟨"last_among",top 31,["found", "mask"],["found", "mask"],[],[],Mk.q1y,false⟩
def q2n:DefI:=⟨"by_fringes",top 32,["rules", "last", "later", "needs", "every", "found", "ends", "starts", "mask"],["rules", "last", "later"],[],[],Mk.q1z,false⟩
def qDD:DefI:=⟨"road",top 33,["rules", "one", "other", "needs", "start", "end", "steps"],["rules", "one", "other"],["steps"],[],Mk.q38,false⟩
def q6t:DefI:=⟨"upward",top 34,["needs", "start", "top", "steps", "known"],["needs", "start", "top"],["steps"],[],Mk.q4r,true⟩
def q4T:DefI:=⟨"downward",top 35,["needs", "top", "end", "found", "steps", "known", "leaving"],["needs", "top", "end"],["steps"],[],Mk.q2w,true⟩
def q3L:DefI:=⟨"_law_cell",top 37,["_law_script", "_law_k"],["_law_script", "_law_k"],[],[],Mk.q1f,false⟩
def q4U:DefI:=⟨"_law_mix",top 38,["_law_script", "_law_k", "_law_number"],["_law_script", "_law_k"],[],[],Mk.q2j,false⟩
def q2T:DefI:=⟨"_law_subset",top 39,["_law_script", "_law_k", "_law_things", "_law_number"],["_law_script", "_law_k", "_law_things"],[],[],Mk.q20,false⟩
noncomputable def q2o:DefI:=⟨"_law_rules",top 40,["_law_script", "_law_k", "_law_most", "_law_many", "_law_found", "_law_thing", "_law_others", "_law_j", "_law_needed"],["_law_script", "_law_k", "_law_most"],["_law_found"],[],Mk.q1o,false⟩
def q3M:DefI:=⟨"_law_sets",top 41,["_law_many", "_law_found", "_law_thing"],["_law_many"],[],[],Mk.q0u,false⟩
def q3N:DefI:=⟨"_law_next",top 42,["_law_rules_here", "_law_things", "_law_found", "_law_thing", "_law_good"],["_law_rules_here", "_law_things"],["_law_found"],[],Mk.q63,false⟩
def q2U:DefI:=⟨"_law_states",top 43,["_law_rules_here", "_law_found", "_law_things", "_law_thing", "_law_less_here"],["_law_rules_here"],["_law_found"],[],Mk.q4f,false⟩
def q23:DefI:=⟨"_law_refusal",top 44,["_law_kept", "_law_kinds"],["_law_kept"],[],[],Mk.q1a,false⟩
def q3O:DefI:=⟨"_law_told",top 45,["_law_way", "_law_rules_here", "_law_one", "_law_other", "_law_kept", "_law_found", "e"],["_law_way", "_law_rules_here", "_law_one", "_law_other"],[],[],Mk.q1g,false⟩
def q3P:DefI:=⟨"_law_less",top 46,["_law_state", "_law_thing"],["_law_state", "_law_thing"],[],[],Mk.q2x,false⟩
def q3Q:DefI:=⟨"_law_road",top 47,["_law_due", "_law_here", "_law_goal", "_law_found", "_law_more", "_law_fewer"],["_law_due", "_law_here", "_law_goal"],["_law_found"],[],Mk.q2y,false⟩
noncomputable def qEo:DefI:=⟨"law",top 48,["_law_script", "_law_rules_here", "_law_due", "_law_fringes", "_law_state", "_law_last", "_law_later", "_law_one", "_law_other", "_law_found", "_law_far", "_law_none", "_law_bad"],["_law_script"],["_law_fringes"],[],Mk.qCP,false⟩
noncomputable def tx:TxtI:={ds:=[q5Y,q3J,q92,q2O,q4O,q3K,q2P,q2Q,q1s,q4P,q6s,q2k,q4Q,q4R,q2l,q2R,q4S,qDC,q2S,q2m,q2n,qDD,q6t,q4T,q3L,q4U,q2T,q2o,q3M,q3N,q2U,q23,q3O,q3P,q3Q,qEo],consts:=[("MOST_THINGS",.int 10),("MOST_WAYS",.int 1300)],excs:=["LearnError", "BadRules", "BadState", "Unlike", "BadNumber", "BadText"],sub:=Mk.subC}
local macro_rules|`(tactic| k_data)=>`(tactic| exact⟨⟨rfl,rfl,rfl,by decide +kernel,rfl,by decide +kernel,by decide +kernel⟩,by kernel_rfl,λ _ _ _ _ _ _ us hl=>by first|(obtain⟨a,e⟩:=qLf hl;subst e;rfl)|(obtain⟨a,b,e⟩:=qLg hl;subst e;rfl)|(obtain⟨a,b,c,e⟩:=qLh hl;subst e;rfl)|(obtain⟨a,b,c,d,e⟩:=qLi hl;subst e;rfl)⟩)
theorem qDE:DefOk tx q5Y:=by k_data
theorem q93:DefOk tx q3J:=by k_data
theorem qHv:DefOk tx q92:=by k_data
theorem q6u:DefOk tx q2O:=by k_data
theorem qAk:DefOk tx q4O:=by k_data
theorem q94:DefOk tx q3K:=by k_data
theorem q6v:DefOk tx q2P:=by k_data
theorem q6w:DefOk tx q2Q:=by k_data
theorem q5Z:DefOk tx q1s:=by k_data
theorem qAl:DefOk tx q4P:=by k_data
theorem qEp:DefOk tx q6s:=by k_data
theorem q8E:DefOk tx q2k:=by k_data
theorem qAm:DefOk tx q4Q:=by k_data
theorem qAn:DefOk tx q4R:=by k_data
theorem q8F:DefOk tx q2l:=by k_data
theorem q6x:DefOk tx q2R:=by k_data
theorem qAo:DefOk tx q4S:=by k_data
theorem qKg:DefOk tx qDC:=by k_data
theorem q6y:DefOk tx q2S:=by k_data
theorem q8G:DefOk tx q2m:=by k_data
theorem q8H:DefOk tx q2n:=by k_data
theorem qKh:DefOk tx qDD:=by k_data
theorem qEq:DefOk tx q6t:=by k_data
theorem qAp:DefOk tx q4T:=by k_data
theorem q95:DefOk tx q3L:=by k_data
theorem qAq:DefOk tx q4U:=by k_data
theorem q6z:DefOk tx q2T:=by k_data
theorem q8I:DefOk tx q2o:=by k_data
theorem q96:DefOk tx q3M:=by k_data
theorem q97:DefOk tx q3N:=by k_data
theorem q70:DefOk tx q2U:=by k_data
theorem q5d:DefOk tx q23:=by k_data
theorem q98:DefOk tx q3O:=by k_data
theorem q99:DefOk tx q3P:=by k_data
theorem q9A:DefOk tx q3Q:=by k_data
theorem o_law:DefOk tx qEo:=by k_data
theorem qHw:∀d∈tx.ds,DefOk tx d:=by simp only[tx,Jf];exact⟨qDE,q93,qHv,q6u,qAk,q94,q6v,q6w,q5Z,qAl,qEp,q8E,qAm,qAn,q8F,q6x,qAo,qKg,q6y,q8G,q8H,qKh,qEq,qAp,q95,qAq,q6z,q8I,q96,q97,q70,q5d,q98,q99,q9A,o_law,λ _ h=>absurd h Jo⟩
theorem qM5:Mk.dsM=tx.ds.map λ d=>(d.ps.length,d.N.length,d.l,d.nw):=rfl
theorem qKi:∀k:Nat,Snd.Gk tx k=Mk.Gm k
 |0=>rfl
 |k+1=>by
  funext f xs;rw[Snd.Gk,Mk.Gm,qM5,Qs,qKi k];cases tx.ds[f]? with
  |none=>rfl
  |some d=>rfl
theorem qM6 (ns:List Int) (_:ns.length<=63):Snd.Gk tx 12 35 [.lst (ns.map Ev.D.int)] = .ok (.bl true):=by rw[qKi];exact Mk.qKf ns
end Tk
namespace Tk
open PySem PySem.W L2 Ev Snd
theorem q3z {α:Type}{P:Nat->Prop}{l:List α}{x:α}{c:Nat}(h:l[c]? = some x) (hl:l.length=6) (h0:c=0->P 0) (h1:c=1->P 1) (h2:c=2->P 2) (h3:c=3->P 3) (h4:c=4->P 4) (h5:c=5->P 5):P c:=by
 have hc:c<6:=by rw[<-hl];exact (Qc.mp h).1
 match c,hc with
 |0,_=>exact h0 rfl
 |1,_=>exact h1 rfl
 |2,_=>exact h2 rfl
 |3,_=>exact h3 rfl
 |4,_=>exact h4 rfl
 |5,_=>exact h5 rfl
theorem txt {K:PySem.W.Frag}{C0 C1 C2 C3 C4 C5:Addr}{t0 t1:Tok}(hf:∀d∈tx.ds,FnIn K d.name d.st) (hb:∀x∈q0C,nsIn K mainGlobals x=some none)
  (k0:nsIn K mainGlobals "MOST_THINGS" = some (some (.int 10 t0)))
  (k1:nsIn K mainGlobals "MOST_WAYS" = some (some (.int 1300 t1)))
  (e0:ExcI K "LearnError" C0)
  (e1:ExcI K "BadRules" C1)
  (e2:ExcI K "BadState" C2)
  (e3:ExcI K "Unlike" C3)
  (e4:ExcI K "BadNumber" C4)
  (e5:ExcI K "BadText" C5)
  (hs:∀(e c:Nat) (Ce Cc:Addr),[C0,C1,C2,C3,C4,C5][e]? = some Ce->[C0,C1,C2,C3,C4,C5][c]? = some Cc->exmOne K (.ref Ce) (.ref Cc)=some (Mk.subC e c)/\kitOne K (.ref Ce) (.ref Cc)=some (Mk.subC e c)):TxtOk K tx ⟨K,[C0,C1,C2,C3,C4,C5]⟩:=by
 refine⟨rfl,λ j d h=>⟨qHw d (Qk h),hf d (Qk h)⟩,hb,λ x d h=>?_,λ c x h=>?_,λ c C h=>?_,hs⟩
 ·have h:List.lookup x [(("MOST_THINGS":Str),(D.int 10)),(("MOST_WAYS":Str),(D.int 1300))]=some d:=h;rw[QP] at h;split at h
  ·rename_i hx;cases h;cases beq_iff_eq.mp hx;exact⟨_,_,rfl,k0⟩
  rw[QP] at h;split at h
  ·rename_i hx;cases h;cases beq_iff_eq.mp hx;exact⟨_,_,rfl,k1⟩
  cases h
 ·refine q3z (P:=λ c=>∃C,[C0,C1,C2,C3,C4,C5][c]? = some C/\ExcI K x C) h rfl (λ z=>by subst z;cases h;exact⟨_,rfl,e0⟩) (λ z=>by subst z;cases h;exact⟨_,rfl,e1⟩) (λ z=>by subst z;cases h;exact⟨_,rfl,e2⟩) (λ z=>by subst z;cases h;exact⟨_,rfl,e3⟩) (λ z=>by subst z;cases h;exact⟨_,rfl,e4⟩) (λ z=>by subst z;cases h;exact⟨_,rfl,e5⟩)
 ·refine q3z (P:=λ c=>∃x,tx.excs[c]? = some x/\ExcI K x C) h rfl (λ z=>by subst z;cases h;exact⟨_,rfl,e0⟩) (λ z=>by subst z;cases h;exact⟨_,rfl,e1⟩) (λ z=>by subst z;cases h;exact⟨_,rfl,e2⟩) (λ z=>by subst z;cases h;exact⟨_,rfl,e3⟩) (λ z=>by subst z;cases h;exact⟨_,rfl,e4⟩) (λ z=>by subst z;cases h;exact⟨_,rfl,e5⟩)
end Tk
open PySem PySem.W PyProof.Rows L2 Ev Snd
namespace Tk
theorem qHx {p q:Program}{loose:List Str}{Xt:Shared->Bool}{α:Type}{Yf:Shared->α}{Ya:World->α}{N:Nat}{g0:Bool}{H₀:Params->Heap}{gs₀:Array GenState}{d₀:Drawn}{k₀:Nat}(op:∀w:World,(fencedOpening treeTable p w N).map (λ s=>(s.heap,s.gens,s.drawn,s.toks))=some (H₀ w.params,gs₀,d₀,k₀))
  (run:∀(w:World) (os:OsState),(topFrom treeTable p w N ⟨H₀ w.params,gs₀,d₀,k₀,os⟩).map (λ s=>(openSeen q loose (importedModules p.main.body) Xt g0 s,Yf s))=some (openGood q loose,Ya w)):LeftO p q loose Xt Yf Ya N g0:=λ w=>by
 obtain⟨⟨h,gs,d,k,os⟩,e,e'⟩:=Jj.mp (op w);obtain⟨rfl,rfl,rfl,rfl⟩:h=H₀ w.params/\gs=gs₀/\d=d₀/\k=k₀:=by simpa using e'
 unfold openEnds;rw[e];exact run w os
def qKj:List Str:=(PySem.Challenge.pw_learnyard_k20_whole_fringes.main.scope.names.map (·.1)).filter (· != "law")
def qP:Program:=view PySem.Challenge.pw_learnyard_k20_whole_fringes [PySem.Challenge.pw_learnyard_k20_whole_fringes.main.body.length-1]
set_option maxRecDepth 100000 in
theorem qM7:PySem.Challenge.rw_learnyard_k20_whole_fringes.wellSaid=true:=by rw[Fast.te9446332074065402090];kernel_rfl
end Tk
local macro_rules|`(tactic| o_head $H)=>`(tactic| refine holds_open (q:=Tk.qP) (loose:=Tk.qKj) (Xt:=λ s=>xlAt Tk.qP [] s&&recOk (RowW.records (OpenRow.toRowW (OpenLaw.row PySem.Challenge.rw_learnyard_k20_whole_fringes))) s) (XP:=XL Tk.qP []) (Yf:=Hook.obs $H) (Ya:=Hook.val $H) (YP:=Hook.says $H) (N:=9000) ?hl (Hook.of $H) (Hook.keeps $H) (λ s e=>xl_of s (Bool.and_eq_true_iff.mp e).1) XL.keeps (by rfl) (by rfl) (by rfl) (λ s e=>recFacts_of (Bool.and_eq_true_iff.mp e).2) (by rfl) (by assumption) (by decide +kernel) ⟨rfl,rfl,rfl,rfl,rfl,by decide +kernel⟩ ?hw ?hc)
set_option maxRecDepth 100000 in
set_option maxHeartbeats 0 in
theorem PySem.Challenge.cw_learnyard_k20_whole_fringes_holds : PySem.Challenge.rw_learnyard_k20_whole_fringes.Holds := by
 w_on
 refine holds_law Tk.qM7 λ said=>?_
 k_head
 case hl =>
  refine Tk.qHx (boot_open (by kernel_rfl) (by kernel_rfl) (λ s=>by kernel_rfl)) λ w os=>?_
  unfold topFrom
  rw[Fast.te14082659384304107361,Fast.te14364793385576792824,Fast.te4187177175401517315]
  kernel_rfl
 (case hw=>w_witness2)
 k_fill
 refine Snd.walk (l:=PySem.Challenge.rw_learnyard_k20_whole_fringes) (x := "_law_script") 12 rfl rfl ⟨rfl,by decide,by decide⟩ (λ w h Y=>PySem.W.kIn_of Y) ?F
 case F =>
  intro w mg fa h KX G hmg
  have b_len:nsIn (L2.KOf KX) mainGlobals "len" = some none:=by dsimp only[L2.KOf];k_is
  have b_sorted:nsIn (L2.KOf KX) mainGlobals "sorted" = some none:=by dsimp only[L2.KOf];k_is
  have b_tuple:nsIn (L2.KOf KX) mainGlobals "tuple" = some none:=by dsimp only[L2.KOf];k_is
  have b_list:nsIn (L2.KOf KX) mainGlobals "list" = some none:=by dsimp only[L2.KOf];k_is
  have b_sum:nsIn (L2.KOf KX) mainGlobals "sum" = some none:=by dsimp only[L2.KOf];k_is
  have b_all:nsIn (L2.KOf KX) mainGlobals "all" = some none:=by dsimp only[L2.KOf];k_is
  have b_int:nsIn (L2.KOf KX) mainGlobals "int" = some none:=by dsimp only[L2.KOf];k_is
  have b_abs:nsIn (L2.KOf KX) mainGlobals "abs" = some none:=by dsimp only[L2.KOf];k_is
  have b_range:nsIn (L2.KOf KX) mainGlobals "range" = some none:=by dsimp only[L2.KOf];k_is
  have b_isinstance:nsIn (L2.KOf KX) mainGlobals "isinstance" = some none:=by dsimp only[L2.KOf];k_is
  have b_set:nsIn (L2.KOf KX) mainGlobals "set" = some none:=by dsimp only[L2.KOf];k_is
  have b_bool:nsIn (L2.KOf KX) mainGlobals "bool" = some none:=by dsimp only[L2.KOf];k_is
  have b_ValueError:nsIn (L2.KOf KX) mainGlobals "ValueError" = some none:=by dsimp only[L2.KOf];k_is
  have b_min:nsIn (L2.KOf KX) mainGlobals "min" = some none:=by dsimp only[L2.KOf];k_is
  have b_max:nsIn (L2.KOf KX) mainGlobals "max" = some none:=by dsimp only[L2.KOf];k_is
  have F:∀d∈Tk.tx.ds,FnIn (L2.KOf KX) d.name d.st:=by
   dsimp only[L2.KOf]
   simp only[Tk.tx,Jf,Tk.q5Y,Tk.q3J,Tk.q92,Tk.q2O,Tk.q4O,Tk.q3K,Tk.q2P,Tk.q2Q,Tk.q1s,Tk.q4P,Tk.q6s,Tk.q2k,Tk.q4Q,Tk.q4R,Tk.q2l,Tk.q2R,Tk.q4S,Tk.qDC,Tk.q2S,Tk.q2m,Tk.q2n,Tk.qDD,Tk.q6t,Tk.q4T,Tk.q3L,Tk.q4U,Tk.q2T,Tk.q2o,Tk.q3M,Tk.q3N,Tk.q2U,Tk.q23,Tk.q3O,Tk.q3P,Tk.q3Q,Tk.qEo]
   refine' ⟨?_,?_,?_,?_,?_,?_,?_,?_,?_,?_,?_,?_,?_,?_,?_,?_,?_,?_,?_,?_,?_,?_,?_,?_,?_,?_,?_,?_,?_,?_,?_,?_,?_,?_,?_,?_,λ _ z=>absurd z Jo⟩<;>(refine' qGx ?a ?l ?c ?k;(case a=>k_is);(case l=>k_is);(case c=>k_is);(case k=>k_is))
  have T:∃p,TxtOk (L2.KOf KX) Tk.tx p:=by
   dsimp only[L2.KOf]
   refine' ⟨_,Tk.txt (t0:=366) (t1:=368) (λ d h=>by simpa only [L2.KOf] using F d h) ?hb ?zk0 ?zk1 ⟨?za0,?zx0,⟨?zg0,?zh0,?zb0,?zo0,?zs0,?zt0,?zm0,?zc0⟩,?zv0⟩ ⟨?za1,?zx1,⟨?zg1,?zh1,?zb1,?zo1,?zs1,?zt1,?zm1,?zc1⟩,?zv1⟩ ⟨?za2,?zx2,⟨?zg2,?zh2,?zb2,?zo2,?zs2,?zt2,?zm2,?zc2⟩,?zv2⟩ ⟨?za3,?zx3,⟨?zg3,?zh3,?zb3,?zo3,?zs3,?zt3,?zm3,?zc3⟩,?zv3⟩ ⟨?za4,?zx4,⟨?zg4,?zh4,?zb4,?zo4,?zs4,?zt4,?zm4,?zc4⟩,?zv4⟩ ⟨?za5,?zx5,⟨?zg5,?zh5,?zb5,?zo5,?zs5,?zt5,?zm5,?zc5⟩,?zv5⟩ ?hs⟩
   (case za0=>k_is);(case zx0=>k_exc);(case zg0=>k_is);(case zh0=>k_is);(case zb0=>k_is);(case zo0=>k_is);(case zs0=>k_is);(case zt0=>k_is);(case zm0=>k_is);(case zc0=>k_is);(case zv0=>kit_is)
   (case za1=>k_is);(case zx1=>k_exc);(case zg1=>k_is);(case zh1=>k_is);(case zb1=>k_is);(case zo1=>k_is);(case zs1=>k_is);(case zt1=>k_is);(case zm1=>k_is);(case zc1=>k_is);(case zv1=>kit_is)
   (case za2=>k_is);(case zx2=>k_exc);(case zg2=>k_is);(case zh2=>k_is);(case zb2=>k_is);(case zo2=>k_is);(case zs2=>k_is);(case zt2=>k_is);(case zm2=>k_is);(case zc2=>k_is);(case zv2=>kit_is)
   (case za3=>k_is);(case zx3=>k_exc);(case zg3=>k_is);(case zh3=>k_is);(case zb3=>k_is);(case zo3=>k_is);(case zs3=>k_is);(case zt3=>k_is);(case zm3=>k_is);(case zc3=>k_is);(case zv3=>kit_is)
   (case za4=>k_is);(case zx4=>k_exc);(case zg4=>k_is);(case zh4=>k_is);(case zb4=>k_is);(case zo4=>k_is);(case zs4=>k_is);(case zt4=>k_is);(case zm4=>k_is);(case zc4=>k_is);(case zv4=>kit_is)
   (case za5=>k_is);(case zx5=>k_exc);(case zg5=>k_is);(case zh5=>k_is);(case zb5=>k_is);(case zo5=>k_is);(case zs5=>k_is);(case zt5=>k_is);(case zm5=>k_is);(case zc5=>k_is);(case zv5=>kit_is)
   (case hs =>
    intro e c Ce Cc h1 h2
    refine Tk.q3z (P:=λ e=>exmOne _ (.ref Ce) (.ref Cc)=some (Mk.subC e c)/\kitOne _ (.ref Ce) (.ref Cc)=some (Mk.subC e c)) h1 rfl ?_ ?_ ?_ ?_ ?_ ?_<;>
    (intro z;subst z;cases h1;refine Tk.q3z (P:=λ c=>exmOne _ _ (.ref Cc)=some (Mk.subC _ c)/\kitOne _ _ (.ref Cc)=some (Mk.subC _ c)) h2 rfl ?_ ?_ ?_ ?_ ?_ ?_<;>(intro z;subst z;cases h2;refine⟨?_,?_⟩;kts_exm;kit_is)))
   (case zk0=>kernel_rfl)
   (case zk1=>kernel_rfl)
   (case hb=>simp only[q0C,Jf];exact⟨b_len,b_sorted,b_tuple,b_list,b_sum,b_all,b_int,b_abs,b_range,b_isinstance,b_set,b_bool,b_ValueError,b_min,b_max,λ _ z=>absurd z Jo⟩)
  obtain⟨p,T⟩:=T
  obtain⟨fd,hb,hF⟩:=Snd.qJw (l:=PySem.Challenge.rw_learnyard_k20_whole_fringes) (w:=w) (j:=35) (d:=Tk.qEo) (x := "_law_script") Snd.sset T KX G rfl rfl hmg 12
  exact⟨fd,hb,λ base kb nb=>(hF base kb nb).imp (Snd.qC6 T.pk Tk.qM6)⟩
