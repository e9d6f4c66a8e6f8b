import PyProof.Rows.All
import Wide.All
import OpenK.AllK
import Wide.FinOn
import PyProof.EqAt
import PyProof.EqKinds
import PyProof.TupleCall
import PySem.Syntax
import PySem.Sem
import PyProof.NeKinds
import PyProof.TupleKey
import KE.KSortTup
import OpenK.KOwn
import KE.KTryMore
import PyProof.NsDelKeeps
import PyProof.RulesAs
import PyProof.ListRange
import PyProof.Rows.SortRev
import PySem.SetOps
import PyProof.SetKind
import PyProof.DictKinds
import PyProof.Rows.SetFrom
import PyProof.WalksMore
import PyProof.FactsAll.set_1
import PyProof.FactsBase
import PyProof.TableTree
import PyProof.FactsTree
import PyProof.PlainAttrs
import PyProof.TableCode
import PySem.Challenge.RW_learnyard_k40_whole_joined
open List renaming mem_cons_of_mem → Qa, mem_cons_self → Qb, getElem?_eq_some_iff → Qd, length_map → Qe, mem_cons → Qf, mem_map → Qg, replicate → Qh, all_eq_true → Qj, range → Qk, getElem?_eq_getElem → Ql, mem_of_getElem? → Qm, size_toArray → Qo, mem_append_right → Qp, mem_append → Qq, mem_singleton → Qs, getElem?_map → Qt, length_cons → Qu, map_cons → Qv, mem_range → Qw, flatten_cons → Qx, nodup_append → Qz, length_append → QA, mem_append_left → QB, pairwise_cons → QC, length_filter_le → QD, mem_filter → QF, nodup_cons → QG, getElem?_append_left → QH, pairwise_map → QI, length_range → QK, isEmpty_iff → QO, lookup_cons → QP, any_eq_true → QQ, getElem_mem → QT, getElem?_append_right → QU, mem_flatten → QW, getElem_of_mem → QX, getD → QY, set_cons_succ → QZ, set_cons_zero → Q0, forall_mem_cons → Q1, append_nil → Q2, any_cons → Q3, length_nil → Q4, pairwise_lt_range → Q5, filterMap_cons → Q6, length_replicate → Q7, filter_cons → Q9, getElem?_eq_none_iff → Jb, pairwise_iff_getElem → Jc, length_singleton → Jd, getElem?_eq_none → Je, map_map → Jg, replicate_succ → Jk, getElem?_set_self → Jl, toArray → Jn, take_of_length_le → Jo, nodup_nil → Jp, perm_ext_iff_of_nodup → Jq, take_append_drop → Jr, map_append → Js, getElem?_set_ne → Jt, append_assoc → Jv, length_erase_of_mem → Jw, getElem?_range → Jx, not_mem_nil → Jz, zip_cons_cons → JA, find?_cons → JB
open Bool renaming and_eq_true → Qc, eq_iff_iff → QE, false_eq_true → QL, not_eq_true' → Jh, or_eq_true → Ji
open Nat renaming le_refl → Qi, lt_of_lt_of_le → Qn, le_trans → Qr, ne_of_lt → Qy, eq_of_testBit_eq → QJ, zero_le → QM, pow_le_pow_right → QN, testBit_or → QV, lt_of_le_of_lt → Q8, lt_irrefl → Ja, lt_succ_self → Jf, testBit_and → Jj, lt_succ_of_lt → Ju
open Option renaming some → QR, map_eq_some_iff → Jm
open Classical renaming byContradiction → QS, propDecidable → Jy
noncomputable section
set_option Elab.async false
set_option linter.all false
set_option maxRecDepth 100000
namespace L2
open PySem PySem.Spec PyProof.Rows
abbrev Key:=Sum Int Str
def qAD:Key->Value->Bool
 | .inl k,v=>Value.isInt k v
 | .inr x,v=>Value.isStrOf x v
def keyH (w:World):Key->Int
 | .inl k=>hashInt k
 | .inr x=>hashStr w x
theorem q0S:∀{k:Key}{v:Value},qAD k v=true->(∃i t,k=Sum.inl i/\v=Value.int i t)\/(∃x t,k=Sum.inr x/\v=Value.str x t)
 | .inl i,v,h=>by obtain⟨t,e⟩:=Value.isInt_shape (k:=i) (v:=v) h;exact .inl ⟨i,t,rfl,e⟩
 | .inr x,v,h=>by obtain⟨t,e⟩:=Value.isStrOf_shape (x:=x) (v:=v) h;exact .inr ⟨x,t,rfl,e⟩
theorem qAq (i:Int) (t:Tok):qAD (.inl i) (.int i t)=true:=by simp[qAD,Value.isInt]
theorem qAr (x:Str) (t:Tok):qAD (.inr x) (.str x t)=true:=by simp[qAD,Value.isStrOf]
theorem qHt (a b:Int):decide ((Sum.inl a:Key)=Sum.inl b)=(a==b):=by
 by_cases e:a=b
 ·subst e;simp
 ·have h:¬(Sum.inl a:Key)=Sum.inl b:=λ q=>e (Sum.inl.inj q);rw[decide_eq_false h];exact (beq_eq_false_iff_ne.mpr e).symm
theorem qHu (a b:Str):decide ((Sum.inr a:Key)=Sum.inr b)=decide (a=b):=by
 by_cases e:a=b
 ·subst e;simp
 ·have h:¬(Sum.inr a:Key)=Sum.inr b:=λ q=>e (Sum.inr.inj q);rw[decide_eq_false h,decide_eq_false e]
theorem qHv (a:Int) (b:Str):decide ((Sum.inl a:Key)=Sum.inr b)=false:=decide_eq_false (λ q=>nomatch q)
theorem qHw (a:Str) (b:Int):decide ((Sum.inr a:Key)=Sum.inl b)=false:=decide_eq_false (λ q=>nomatch q)
def q0k (prog:Program) (w:World):PySem.KeyKind prog w Key where
 is:=qAD
 hash:=keyH w
 inj:=λ v a b ha hb=>by
  rcases q0S ha with ⟨i,t,rfl,rfl⟩|⟨x,t,rfl,rfl⟩
  ·rcases q0S hb with ⟨j,u,rfl,e⟩|⟨y,u,rfl,e⟩
   ·injection e with e1 _;rw[e1]
   ·exact nomatch e
  ·rcases q0S hb with ⟨j,u,rfl,e⟩|⟨y,u,rfl,e⟩
   ·exact nomatch e
   ·injection e with e1 _;rw[e1]
 byValue:=λ k v h=>by rcases q0S h with ⟨i,t,rfl,rfl⟩|⟨x,t,rfl,rfl⟩<;>rfl
 pyHash:=λ hv h=>by
  rcases q0S hv with ⟨i,t,rfl,rfl⟩|⟨x,t,rfl,rfl⟩
  ·exact wpAny_pyHash_int h
  ·exact wpAny_pyHash_str h
 eqBool:=λ hu hv h=>by
  rcases q0S hu with ⟨i,t,rfl,rfl⟩|⟨x,t,rfl,rfl⟩
  ·rcases q0S hv with ⟨j,u,rfl,rfl⟩|⟨y,u,rfl,rfl⟩
   ·rw[qHt] at h;exact wpAny_eqBool_int h
   ·rw[qHv] at h;exact SeqAt.EqAt.int_str i t y u _ _ _ _ h
  ·rcases q0S hv with ⟨j,u,rfl,rfl⟩|⟨y,u,rfl,rfl⟩
   ·rw[qHw] at h;exact SeqAt.EqAt.str_int x t j u _ _ _ _ h
   ·rw[qHu] at h;exact wpAny_eqBool_str h
 «strs»:=λ k x t v h=>by
  rcases q0S h with ⟨i,u,rfl,e⟩|⟨y,u,rfl,e⟩
  ·exact nomatch e
  ·injection e with e1 _
   subst e1;cases v<;>rfl
theorem q8B (prog:Program) (w:World) (i:Int) (t:Tok):(q0k prog w).is (.inl i) (.int i t)=true:=qAq i t
theorem q8C (prog:Program) (w:World) (x:Str) (t:Tok):(q0k prog w).is (.inr x) (.str x t)=true:=qAr x t
end L2
namespace L2
open PySem PySem.Spec PyProof.Rows
variable {b:Addr}
inductive V where
 |non|bl (b:Bool)|int (i:Int)|str (x:Str)|byt (b:Array UInt8)|flt (b:UInt64)|ref (a:Addr)|ty (n:String)
 deriving DecidableEq
def RelV:V->Value->Prop
 | .non,u=>u=Value.none
 | .bl b,u=>u=Value.bool b
 | .int i,u=>∃t,u=Value.int i t
 | .str x,u=>∃t,u=Value.str x t
 | .byt b,u=>∃t,u=Value.bytes b t
 | .flt b,u=>∃t,u=Value.float b t
 | .ref a,u=>u=Value.ref a
 | .ty n,u=>u=Value.type n
abbrev Vals:List V->List Value->Prop:=Paired RelV
theorem Vals.length {xs:List V}{us:List Value}(r:Vals xs us):xs.length=us.length:=Paired.length r
theorem Vals.get:∀{xs:List V}{us:List Value}{i:Nat}{x:V},Vals xs us->xs[i]? = some x->∃u,us[i]? = some u/\RelV x u
 |_,_,_,_,.nil,e=>by simp at e
 |_,_,0,_,.cons r _,e=>by simp at e;subst e;exact⟨_,rfl,r⟩
 |_,_,i+1,x,.cons _ t,e=>by obtain⟨u,h1,h2⟩:=Vals.get (i:=i) (x:=x) t (by simpa using e);exact⟨u,by simpa using h1,h2⟩
theorem Vals.append:∀{xs ys:List V}{us ws:List Value},Vals xs us->Vals ys ws->Vals (xs++ys) (us++ws)
 |_,_,_,_,.nil,s=>s
 |_,_,_,_,.cons r t,s=> .cons r (Vals.append t s)
theorem Vals.take:∀{xs:List V}{us:List Value}(n:Nat),Vals xs us->Vals (xs.take n) (us.take n)
 |_,_,0,_=> .nil
 |_,_,_+1,.nil=> .nil
 |_,_,n+1,.cons r t=> .cons r (Vals.take n t)
theorem Vals.drop:∀{xs:List V}{us:List Value}(n:Nat),Vals xs us->Vals (xs.drop n) (us.drop n)
 |_,_,0,r=>r
 |_,_,_+1,.nil=> .nil
 |_,_,n+1,.cons _ t=>Vals.drop n t
theorem Vals.none_of:∀{xs:List V}{us:List Value}{i:Nat},Vals xs us->xs[i]? = none->us[i]? = none:=λ {xs us i} r e=>by have h1:=r.length;have h2:xs.length<=i:=Jb.mp e;exact Jb.mpr (by lia)
def RelO:Option V->Option Value->Prop
 |some v,some u=>RelV v u
 |none,none=>True
 |_,_=>False
def KV {κ:Type}:List (κ×V)->List (κ×Value)->Prop:=Paired λ (p:κ×V) (q:κ×Value)=>p.1=q.1/\RelV p.2 q.2
def kV:Key->V
 | .inl i=> .int i
 | .inr x=> .str x
inductive HO where
 /-- a list -/
 |lst (xs:List V)
 /-- a tuple (never changes) -/
 |tup (xs:List V)
 /-- a dict whose keys are ints and texts;one whose keys are tuples of ints and texts (the empty one is both) -/
 |dK (kvs:List (Key×V))|dT (kvs:List (List Key×V))
 /-- a set of ints: its members,its size -/
 |set (S:Int->Bool) (n:Nat)
 /-- an instance of the class at C,its dict at dx,its attributes -/
 |ins (C dx:Addr) (fs:List (Str×V))
 /-- the dict of the instance at x -/
 |own (x:Addr)
 /-- the dict of an exception -/
 |xd (fs:List (Str×V))
 /-- a bound method,f of x -/
 |met (f x:Addr)
 /-- a range object lo,lo+1,.. below hi -/
 |rng (lo hi:Int)
 /-- a thing that is known to the object (the script;a dict while a loop walks it): read,never written while it is so -/
 |frz (o:Obj) (u:HO)
 /-- a code object's table -/
 |tbl (ps:Array Value)
 /-- any other thing,by what is true of its one object (a def of one's own: SetO a S n:=HO.ext λ h=> ..) -/
 |ext (φ:Heap->Prop)
abbrev Hp:=Addr->Option HO
def upd (H:Hp) (a:Addr) (o:HO):Hp:=λ b=>if b=a then some o else H b
theorem q0B {H:Hp}{a:Addr}{o:HO}:upd H a o a=some o:=by unfold upd;rw[if_pos rfl]
theorem q05 {H:Hp}{a:Addr}{o:HO}(h:b≠a):upd H a o b=H b:=by unfold upd;rw[if_neg h]
theorem qKZ {H:Hp}{a:Addr}{o u:HO}(h:H a=some o) (h':H b=some u) (d:o≠u):a≠b:=by intro e;subst e;rw[h] at h';exact d (QR.inj h')
theorem q0A {H:Hp}{a:Addr}{o:HO}(h:H a=some o) (h':H b=none):a≠b:=by intro e;subst e;rw[h] at h';cases h'
section
variable (P:Program) (w:World)
def q1P (H:Hp) (h:Heap) (a:Addr):HO->Prop
 | .lst xs=>xs.length<=sizeLine/\∃(its:List Value) (n:Nat),Vals xs its/\h.get? a=some {cls:= .type "list",data:= .seq its.toArray n}
 | .tup xs=>xs.length<=sizeLine/\∃its:List Value,Vals xs its/\IsTup h a its.toArray
 | .dK kvs=>kvs.length<=sizeLine/\(a==sysModules)=false/\∃vs,KV kvs vs/\h.DictOf (q0k P w) a vs
 | .dT kvs=>kvs.length<=sizeLine/\(a==sysModules)=false/\∃xs:List (List Key×Addr×Value),
   Paired (λ (p:List Key×V) (q:List Key×Addr×Value)=>p.1=q.1/\H q.2.1=some (.tup (p.1.map kV))/\RelV p.2 q.2.2) kvs xs/\
   ∃o es ep,h.get? a=some o/\o.ExactDict/\o.data = .dict es ep/\es.toList=xs.map (entryOfKey (tupleKind (q0k P w)))/\(xs.map (·.1)).Nodup
 | .set S n=>h.SetOf (intKind P w) a S n
 | .ins C dx fs=>H dx=some (.own a)/\fs.length<=1000/\dx≠a/\h.get? a=some (PySem.W.instObj C dx)/\
   ∃mA,h.Ns1 dx mA/\(∀f,RelO (fs.lookup f) (mA f))/\PySem.Within mA (fs.map (·.1))
 | .own _=>∃o,h.get? a=some o
 | .xd fs=>∃mA,h.Ns1 a mA/\∀f,RelO (fs.lookup f) (mA f)
 | .rng lo hi=>∃t u v,h.get? a=some {cls:= .type "range",data:= .fields #[.int lo t,.int hi u,.int 1 v]}
 | .frz o u=>h.get? a=some o/\q1P H h a u
 | .tbl ps=>h.get? a=some {cls:= .none,data:= .fields ps}
 | .met f x=>h.get? a=some (PySem.W.methodObj (.ref f) (.ref x))
 | .ext φ=>φ h/\(∃o,h.get? a=some o)/\∀h1 h2:Heap,φ h1->(∀o,h1.get? a=some o->h2.get? a=some o)->φ h2
def HOk (H:Hp) (h:Heap):Prop:=∀a o,H a=some o->q1P P w H h a o
end
section
variable {P:Program}{w:World}{H H':Hp}{h h':Heap}{a:Addr}{o:HO}
theorem q1P.lt (x:q1P P w H h a o):a<h.objs.size:=by
 cases o with
 |lst xs=>obtain⟨_,_,_,_,e⟩:=x;exact Heap.lt_size e
 |tup xs=>obtain⟨_,_,_,p⟩:=x;exact p.lt
 |dK kvs=>obtain⟨_,_,_,_,o,_,_,e,_⟩:=x;exact Heap.lt_size e
 |dT kvs=>obtain⟨_,_,_,_,o,_,_,e,_⟩:=x;exact Heap.lt_size e
 |set S n=>obtain⟨o,_,_,_,e,_⟩:=x;exact Heap.lt_size e
 |ins C dx fs=>obtain⟨_,_,_,e,_⟩:=x;exact Heap.lt_size e
 |own y=>obtain⟨_,e⟩:=x;exact Heap.lt_size e
 |xd fs=>obtain⟨_,⟨_,_,_,e,_⟩,_⟩:=x;exact Heap.lt_size e
 |rng lo hi=>obtain⟨_,_,_,e⟩:=x;exact Heap.lt_size e
 |frz ob u=>obtain⟨e,_⟩:=x;exact Heap.lt_size e
 |tbl ps=>exact Heap.lt_size (show h.get? a=some _ from x)
 |met f y=>exact Heap.lt_size (show h.get? a=some _ from x)
 |ext φ=>obtain⟨_,⟨_,e⟩,_⟩:=x;exact Heap.lt_size e
theorem Paired.mapP {α β:Type}{F G:α->β->Prop}:∀{l₁:List α}{l₂:List β},Paired F l₁ l₂->(∀a b,F a b->G a b)->Paired G l₁ l₂
 |_,_,.nil,_=> .nil
 |_,_,.cons r t,f=> .cons (f _ _ r) (Paired.mapP t f)
theorem q1P.stay (x:q1P P w H h a o) (k:∀b u,(b=a\/H b=some (.own a))->h.get? b=some u->h'.get? b=some u)
  (ho:∀b,H b=some (.own a)->H' b=some (.own a)) (ht:∀b xs,H b=some (.tup xs)->H' b=some (.tup xs)):q1P P w H' h' a o:=by
 induction o with
 |lst xs=>obtain⟨z,its,n,r,e⟩:=x;exact⟨z,its,n,r,k _ _ (.inl rfl) e⟩
 |tup xs=>obtain⟨z,its,r,ob,e,c⟩:=x;exact⟨z,its,r,ob,k _ _ (.inl rfl) e,c⟩
 |dK kvs=>obtain⟨z,y,vs,r,ob,es,ep,e,c⟩:=x;exact⟨z,y,vs,r,ob,es,ep,k _ _ (.inl rfl) e,c⟩
 |dT kvs =>
  obtain⟨z,y,xs,r,ob,es,ep,e,c⟩:=x;exact⟨z,y,xs,Paired.mapP r λ p q z=>⟨z.1,ht _ _ z.2.1,z.2.2⟩,ob,es,ep,k _ _ (.inl rfl) e,c⟩
 |set S n=>obtain⟨ob,es,ep,t,e,c⟩:=x;exact⟨ob,es,ep,t,k _ _ (.inl rfl) e,c⟩
 |ins C dx fs =>
  obtain⟨d,z,ne,e,mA,⟨od,es,ep,e2,c⟩,r⟩:=x;exact⟨ho _ d,z,ne,k _ _ (.inl rfl) e,mA,⟨od,es,ep,k _ _ (.inr d) e2,c⟩,r⟩
 |own y=>obtain⟨ob,e⟩:=x;exact⟨ob,k _ _ (.inl rfl) e⟩
 |xd fs=>obtain⟨mA,⟨od,es,ep,e,c⟩,r⟩:=x;exact⟨mA,⟨od,es,ep,k _ _ (.inl rfl) e,c⟩,r⟩
 |rng lo hi=>obtain⟨t,u,v,e⟩:=x;exact⟨t,u,v,k _ _ (.inl rfl) e⟩
 |frz ob u ih=>obtain⟨e,q⟩:=x;exact⟨k _ _ (.inl rfl) e,ih q⟩
 |tbl ps =>
  have e:h.get? a=some {cls:= .none,data:= .fields ps}:=x;show h'.get? a=some {cls:= .none,data:= .fields ps};exact k a _ (.inl rfl) e
 |met f y =>
  have e:h.get? a=some (PySem.W.methodObj (.ref f) (.ref y)):=x;show h'.get? a=some (PySem.W.methodObj (.ref f) (.ref y));exact k a _ (.inl rfl) e
 |ext φ=>obtain⟨p,⟨o,e⟩,st⟩:=x;exact⟨st _ _ p λ o q=>k _ _ (.inl rfl) q,⟨o,k _ _ (.inl rfl) e⟩,st⟩
theorem HOk.lt (x:HOk P w H h) (e:H a=some o):a<h.objs.size:=(x a o e).lt
theorem HOk.fresh (x:HOk P w H h) (e:h.objs.size<=a):H a=none:=by
 cases q:H a with
 |none=>rfl
 |some u=>exact absurd (Qn (x.lt q) e) (Ja _)
theorem HOk.kept (x:HOk P w H h) (k:∀b u,h.get? b=some u->h'.get? b=some u):HOk P w H h':=λ a o e =>
 (x a o e).stay (λ b u _ q=>k b u q) (λ _ q=>q) λ _ _ q=>q
theorem HOk.laid (x:HOk P w H h) (k:∀b u,h.get? b=some u->h'.get? b=some u) (hp:h.objs.size<=a) (new:q1P P w (upd H a o) h' a o):HOk P w (upd H a o) h':=λ b u e=>by
 have hn:=x.fresh hp
 by_cases hb:b=a
 ·subst hb;rw[q0B] at e;cases e;exact new
 ·rw[q05 hb] at e;exact (x b u e).stay (λ c v _ q=>k c v q) (λ c q=>by rw[q05 (q0A q hn)];exact q) λ c xs q=>by rw[q05 (q0A q hn)];exact q
end
def Rd (H:Hp) (a:Addr) (u:HO):Prop:=H a=some u\/∃o,H a=some (.frz o u)
theorem Rd.ok {P:Program}{w:World}{H:Hp}{h:Heap}{a:Addr}{u:HO}(r:Rd H a u) (x:HOk P w H h):q1P P w H h a u:=by
 rcases r with r|⟨o,r⟩
 ·exact x a u r
 ·obtain⟨_,q⟩:=x a _ r;exact q
def Mut:Option HO->Prop
 |some (.lst _)=>True
 |some (.dK _)=>True
 |some (.dT _)=>True
 |some (.set _ _)=>True
 |some (.ins _ _ _)=>True
 |some (.ext _)=>True
 |_=>False
section
variable {P:Program}{w:World}{H:Hp}{h h':Heap}{x e:Addr}{o':HO}
theorem HOk.write (ok:HOk P w H h) (mu:Mut (H x)) (he:e=x\/H e=some (.own x)) (k:∀b u,b≠e->h.get? b=some u->h'.get? b=some u) (heo:∃u,h'.get? e=some u)
  (new:q1P P w (upd H x o') h' x o'):HOk P w (upd H x o') h':=λ b u q=>by
 have nown:∀c y,H c=some (.own y)->c≠x:=λ c y r z=>by subst z;rw[r] at mu;exact mu
 have ntup:∀c xs,H c=some (.tup xs)->c≠x:=λ c xs r z=>by subst z;rw[r] at mu;exact mu
 by_cases hb:b=x
 ·subst hb;rw[q0B] at q;cases q;exact new
 ·rw[q05 hb] at q
  by_cases hbe:b=e
  ·have q':H b=some (.own x):=by
    rcases he with z|z
    ·exact absurd (hbe.trans z) hb
    ·rw[hbe];exact z
   rw[q] at q';cases q';obtain⟨v,hv⟩:=heo;exact⟨v,by rw[hbe];exact hv⟩
  ·refine (ok b u q).stay (λ c v hc r=>k c v ?_ r) (λ c r=>by rw[q05 (nown c b r)];exact r) λ c xs r=>by rw[q05 (ntup c xs r)];exact r
   rcases hc with rfl|hc
   ·exact hbe
   ·rintro rfl;rcases he with z|z
    ·exact nown c b hc z
    ·rw[hc] at z;cases z;exact hb rfl
end
structure Un (fs ex:List Addr) (H H':Hp) (h h':Heap):Prop where
 keep:∀b o,h.get? b=some o->H b=none->b∉fs->b∉ex->h'.get? b=some o
 slot:∀b o,h.get? b=some o->H b=none->b∈fs->b∉ex->∃sl,h'.get? b=some {o with slots:=sl}
 free:∀b o,h.get? b=some o->H b=none->b∉ex->H' b=none
 there:∀b o,h.get? b=some o->b∉ex->∃o',h'.get? b=some o'
 tups:∀b xs,H b=some (.tup xs)->H' b=some (.tup xs)
 frzs:∀b o u,H b=some (.frz o u)->H' b=some (.frz o u)
 tbls:∀b ps,H b=some (.tbl ps)->∃more,H' b=some (.tbl (ps++more))
section
variable {fs fs' ex ex':List Addr}{H H1 H2:Hp}{h h1 h2 h':Heap}{a x e:Addr}{o:HO}
theorem Un.any (u:Un fs ex H H1 h h1) {ob:Obj}(q:h.get? b=some ob) (n:H b=none) (hx:b∉ex):∃sl,h1.get? b=some {ob with slots:=sl}:=by
 by_cases hb:b∈fs
 ·exact u.slot b ob q n hb hx
 ·exact⟨ob.slots,u.keep b ob q n hb hx⟩
theorem Un.kept (k:∀b u,h.get? b=some u->h'.get? b=some u):Un fs ex H H h h' :=
 ⟨λ b ob q _ _ _=>k b ob q,λ b ob q _ _ _=>⟨ob.slots,k b ob q⟩,λ _ _ _ n _=>n,λ b ob q _=>⟨ob,k b ob q⟩,λ _ _ q=>q,λ _ _ _ q=>q,λ _ ps q=>⟨#[],by rw[q];simp⟩⟩
theorem Un.refl:Un fs ex H H h h:=Un.kept λ _ _ q=>q
theorem Un.laid (k:∀b u,h.get? b=some u->h'.get? b=some u) (hp:h.objs.size<=a) (hn:H a=none):Un fs ex H (upd H a o) h h' where
 keep:=λ b u q _ _ _=>k b u q
 slot:=λ b u q _ _ _=>⟨u.slots,k b u q⟩
 free:=λ b u q n _=>by rw[q05 (Qy (Qn (Heap.lt_size q) hp))];exact n
 there:=λ b u q _=>⟨u,k b u q⟩
 tups:=λ b xs q=>by rw[q05 (q0A q hn)];exact q
 frzs:=λ b u xs q=>by rw[q05 (q0A q hn)];exact q
 tbls:=λ b ps q=>⟨#[],by rw[q05 (q0A q hn),q];simp⟩
theorem Un.write (mu:Mut (H x)) (he:e=x\/H e=some (.own x)) (k:∀b u,b≠e->h.get? b=some u->h'.get? b=some u) (heo:∃u,h'.get? e=some u):Un fs ex H (upd H x o) h h':=by
 have hx:∀b,H b=none->b≠x:=λ b n z=>by subst z;rw[n] at mu;exact mu
 have hb:∀b,H b=none->b≠e:=λ b n z=>by
  subst z;rcases he with r|r
  ·exact hx b n r
  ·rw[n] at r;cases r
 have hm:∀b u,H b=some u->¬Mut (some u)->b≠x:=λ b u q nm z=>by subst z;rw[q] at mu;exact nm mu
 refine⟨λ b u q n _ _=>k b u (hb b n) q,λ b u q n _ _=>⟨u.slots,k b u (hb b n) q⟩,λ b u q n _=>by rw[q05 (hx b n)];exact n,λ b u q _=>?_,
  λ b xs q=>by rw[q05 (hm b _ q λ z=>z)];exact q,λ b u xs q=>by rw[q05 (hm b _ q λ z=>z)];exact q,λ b ps q=>⟨#[],by rw[q05 (hm b _ q λ z=>z),q];simp⟩⟩
 by_cases hbe:b=e
 ·subst hbe;exact heo
 ·exact⟨u,k b u hbe q⟩
end
def trk (h:Heap) (H:Hp):List Addr:=(Qk h.objs.size).filter λ a=>(H a).isSome
def hidT (h:Heap) (H:Hp):Heap:=PySem.W.hideAll h (trk h H)
theorem qAs (h:Heap) (H:Hp):(hidT h H).objs.size=h.objs.size:=PySem.W.hideAll_size _ _
theorem qDH {h:Heap}{H:Hp}{o:Obj}(e:h.get? b=some o) (n:H b=none):(hidT h H).get? b=some o :=
 PySem.W.hideAll_get _ e λ hm=>by have q:(H b).isSome=true:=(QF.mp hm).2;rw[n] at q;simp at q
theorem qFR {h:Heap}{H:Hp}{o:Obj}(e:(hidT h H).get? b=some o):h.get? b=some o/\H b=none:=by
 have e':h.get? b=some o:=PySem.W.of_hideAll (trk h H) e;refine⟨e',?_⟩;cases q:H b with
 |none=>rfl
 |some x =>
  have hm:b∈trk h H:=QF.mpr ⟨Qw.mpr (Heap.lt_size e'),by simp[q]⟩;have z:(hidT h H).get? b=none:=PySem.W.hideAll_none (trk h H) hm;rw[z] at e;cases e
end L2
namespace L2
open PySem PySem.Spec PyProof.Rows
variable {t' i:Nat}{ch:List Addr}{x:Str}{M:Model}{A:Around}{E:Value->Shared->Prop}
structure Mod (K:PySem.W.Frag) (mg:Str->Option Value) (base:Heap):Prop where
 kin:K.In base
 glob:base.Ns mainGlobals mg
 blt:∃mb,base.Ns builtinsNs mb/\∀x:Str,x ≠ "__name__"->mb x=bootBuiltins x
 nolimit:base.NoLimit
structure Cx where
 prog:Program
 w:World
 K:PySem.W.Frag
 mg:Str->Option Value
 base:Heap
 A:Around
 N:List Str
 s₀:Shared
 H₀:Hp
 env:Env
 outer:List Env
 stack:List Env
 ex:List Addr
 fn:Str->Bool
 calm:Bool
 pn:List (Addr×Obj)
 xe:Value->Shared->Prop
def frs (l:List Env):List Addr:=l.filterMap (·.frame)
abbrev Cx.fs (X:Cx):List Addr:=frs X.outer
def Vis (sc:Scope) (x:Str):Prop:=sc.names.lookup x=some .local\/sc.names.lookup x=some .cell\/sc.names.lookup x=some .free
def Loc (sc:Scope) (x:Str):Prop:=sc.names.lookup x=some .local\/sc.names.lookup x=some .cell
def Look (env:Env) (h:Heap) (m:Str->Option Value) (x:Str) (u:Value):Prop :=
 (env.kindOf x=some .local/\m x=some u)\/((env.kindOf x=some .cell\/env.kindOf x=some .free)/\∃c,env.cells.lookup x=some c/\h.IsCell c (some u))
structure Cx.Ok (X:Cx):Prop where
 mod:Mod X.K X.mg X.base
 kind:X.env.scope.kind = .function
 glob:X.env.globals=mainGlobals
 blt:X.env.builtins=builtinsNs
 above:X.s₀.heap.objs.size<=X.env.locals
 inj:∀x y c,X.env.cells.lookup x=some c->X.env.cells.lookup y=some c->x=y
 has:∀x,(X.env.kindOf x=some .cell\/X.env.kindOf x=some .free)->∃c,X.env.cells.lookup x=some c
 cab:∀x c,X.fn x=true->X.env.cells.lookup x=some c->X.s₀.heap.objs.size<=c
 hd:X.calm=true->X.A.handled=none
 frames:X.A.frames=some X.stack
 stk:X.stack=X.outer\/(X.stack=X.env::X.outer/\X.env.frame=some X.env.locals)
 exf:∀b∈X.ex,b≠X.env.locals/\∀x c,X.env.cells.lookup x=some c->c≠b
 bs:∀b o,X.base.get? b=some o->X.s₀.heap.get? b=some o/\X.H₀ b=none
 bsz:X.base.objs.size<=X.s₀.heap.objs.size
 noex:∀b o,X.base.get? b=some o->b∉X.ex
 exfs:∀b∈X.ex,b∉X.fs
 funs:X.s₀.heap.FunFrames X.base X.outer
 frf:∀b∈X.fs,X.H₀ b=none
structure Inv (X:Cx) (pins:List (Addr×Obj)) (σ:List (Option V)) (H:Hp) (s:Shared):Prop where
 ok:X.Ok
 os:s.os=X.s₀.os
 bare:AllBare s.gens
 base:Un X.fs X.ex X.H₀ H X.s₀.heap s.heap
 loc:∃m,s.heap.Ns X.env.locals m/\∀(i:Nat) (x:Str) (v:V),X.N[i]? = some x->σ[i]? = some (some v)->Vis X.env.scope x->∃u,RelV v u/\Look X.env s.heap m x u
 cell:∀x c,X.env.cells.lookup x=some c->∃v,s.heap.IsCell c v
 free:H X.env.locals=none
 freeC:∀x c,X.env.cells.lookup x=some c->H c=none
 pin:∀p∈X.pn++pins,s.heap.get? p.1=some p.2/\H p.1=none/\p.1≠X.env.locals/\p.1∉X.fs/\∀v,p.2.data ≠ .cell v
 hok:HOk X.prog X.w H s.heap
 len:σ.length=X.N.length
section
variable {X:Cx}{pins:List (Addr×Obj)}{σ:List (Option V)}{H H':Hp}{s:Shared}{h':Heap}
theorem Cx.Ok.nofr (ok:X.Ok) {b:Addr}{o:Obj}(e:X.base.get? b=some o):b∉X.fs:=λ hb=>by have:=(ok.funs.mem hb).1;rw[e] at this;cases this
theorem Inv.bs (I:Inv X pins σ H s):∀b o,X.base.get? b=some o->s.heap.get? b=some o/\H b=none:=λ b o e =>
 ⟨I.base.keep b o (I.ok.bs b o e).1 (I.ok.bs b o e).2 (I.ok.nofr e) (I.ok.noex b o e),I.base.free b o (I.ok.bs b o e).1 (I.ok.bs b o e).2 (I.ok.noex b o e)⟩
theorem Inv.bk (I:Inv X pins σ H s):∀b o,X.base.get? b=some o->s.heap.get? b=some o:=λ b o e=>(I.bs b o e).1
theorem Inv.mod (I:Inv X pins σ H s):Mod X.K X.mg X.base:=I.ok.mod
theorem Inv.kIn (I:Inv X pins σ H s):X.K.In s.heap:=I.ok.mod.kin.keeps I.bk
theorem Inv.fr (I:Inv X pins σ H s):∃m,Fr X.base X.env.locals s.heap m :=
 let ⟨m,hn,_⟩:=I.loc
 ⟨m,hn,I.bk,Qr I.ok.bsz I.ok.above⟩
theorem Inv.lt (I:Inv X pins σ H s):X.env.locals<s.heap.objs.size:=let ⟨_,hn,_⟩:=I.loc;hn.lt
theorem Inv.sz (I:Inv X pins σ H s):X.s₀.heap.objs.size<=s.heap.objs.size:=Qr I.ok.above (Nat.le_of_lt I.lt)
theorem Inv.nofs (I:Inv X pins σ H s) {a:Addr}(h:s.heap.objs.size<=a):a∉X.fs:=λ hb=>by obtain⟨_,o,ho,_⟩:=I.ok.funs.mem hb;exact absurd (Qn (Heap.lt_size ho) (Qr I.sz h)) (Ja _)
theorem Inv.cne (I:Inv X pins σ H s):∀x c,X.env.cells.lookup x=some c->c≠X.env.locals:=λ x c e z=>by obtain⟨v,o,ho,hd⟩:=I.cell x c e;obtain⟨m,⟨o',es,ep,ho',hd',_⟩,_⟩:=I.loc;rw[z,ho'] at ho;cases ho;rw[hd'] at hd;cases hd
theorem Inv.funs (I:Inv X pins σ H s):s.heap.FunFrames X.base X.outer:=by
 have all:∀(l:List Env),(∀b∈frs l,b∈X.fs)->X.s₀.heap.FunFrames X.base l->s.heap.FunFrames X.base l:=by
  intro l
  induction l with
  |nil=>intro _ _;trivial
  |cons env r ih =>
   intro hs hl;obtain⟨hk,⟨L,o,hf,hn,ho,hd⟩,hr⟩:=hl;have hL:L∈X.fs:=hs L (by unfold frs;rw[Q6,hf];exact Qb);obtain⟨sl,e⟩:=I.base.slot L o ho (I.ok.frf L hL) hL λ z=>I.ok.exfs L z hL;exact⟨hk,⟨L,_,hf,hn,e,hd⟩,ih (λ b hb=>hs b (by unfold frs;rw[Q6,hf];exact Qa _ hb)) hr⟩
 exact all X.outer (λ _ hb=>hb) I.ok.funs
theorem Inv.stack (I:Inv X pins σ H s):s.heap.FunFrames X.base X.stack:=by
 rcases I.ok.stk with e|⟨e,hf⟩
 ·rw[e];exact I.funs
 ·rw[e];obtain⟨m,hn,_⟩:=I.loc;refine .cons (by rw[I.ok.kind];decide) hf hn ?_ I.funs;exact Heap.get?_none_of_le (Qr I.ok.bsz I.ok.above)
theorem Inv.q3D (I:Inv X pins σ H s):∀b∈frs X.stack,b∈X.env.locals::X.fs:=λ b hb=>by
 rcases I.ok.stk with e|⟨e,hf⟩
 ·rw[e] at hb;exact Qa _ hb
 ·rw[e] at hb;unfold frs at hb;rw[Q6,hf] at hb;exact hb
theorem Inv.q8D (I:Inv X pins σ H s):∀b∈frs X.stack,H b=none:=λ b hb=>by
 rcases Qf.mp (I.q3D b hb) with e|hb
 ·rw[e];exact I.free
 ·obtain⟨_,o,ho,_⟩:=I.ok.funs.mem hb;exact I.base.free b o ho (I.ok.frf b hb) λ z=>I.ok.exfs b z hb
theorem Inv.step {g':Array GenState}{t':Nat}{d':Drawn}(I:Inv X pins σ H s)
  (hch:∀b∈ch,(b∈X.ex\/X.s₀.heap.objs.size<=b)/\b≠X.env.locals/\(∀x c,X.env.cells.lookup x=some c->c≠b)/\∀p∈X.pn++pins,p.1≠b)
  (keep:∀b o,b≠X.env.locals->b∉X.fs->b∉ch->s.heap.get? b=some o->H b=none->h'.get? b=some o)
  (slot:∀b o,b≠X.env.locals->b∈X.fs->b∉ch->s.heap.get? b=some o->H b=none->∃sl,h'.get? b=some {o with slots:=sl}) (free:∀b o,b∉ch->s.heap.get? b=some o->H b=none->H' b=none)
  (there:∀b o,b∉ch->s.heap.get? b=some o->∃o',h'.get? b=some o')
  (tups:∀b xs,H b=some (.tup xs)->H' b=some (.tup xs)) (frzs:∀b o u,H b=some (.frz o u)->H' b=some (.frz o u)) (tbls:∀b ps,H b=some (.tbl ps)->∃more,H' b=some (.tbl (ps++more)))
  (ns:∀m,s.heap.Ns X.env.locals m->h'.Ns X.env.locals m) (hok:HOk X.prog X.w H' h') (hg:AllBare g') :
  Inv X pins σ H' {s with heap:=h',gens:=g',drawn:=d',toks:=t'}:=by
 have neL:∀b o,X.s₀.heap.get? b=some o->b≠X.env.locals:=λ b o e=>Qy (Qn (Heap.lt_size e) I.ok.above);have neC:∀b o,X.s₀.heap.get? b=some o->b∉X.ex->b∉ch:=λ b o e hx hb=>by
  rcases (hch b hb).1 with z|z
  ·exact hx z
  ·exact absurd (Qn (Heap.lt_size e) z) (Ja _)
 have cellK:∀x c,X.env.cells.lookup x=some c->∀v,s.heap.IsCell c v->h'.IsCell c v:=λ x c e v ⟨o,ho,hd⟩=>by
  have nch:c∉ch:=λ z=>(hch c z).2.2.1 x c e rfl
  by_cases hc:c∈X.fs
  ·obtain⟨sl,q⟩:=slot c o (I.cne x c e) hc nch ho (I.freeC x c e);exact⟨_,q,hd⟩
  ·exact⟨o,keep c o (I.cne x c e) hc nch ho (I.freeC x c e),hd⟩
 refine⟨I.ok,I.os,hg,⟨λ b o e n hb hx=>?_,λ b o e n hb hx=>?_,λ b o e n hx=>?_,λ b o e hx=>?_,λ b xs e=>tups b xs (I.base.tups b xs e),λ b o xs e=>frzs b o xs (I.base.frzs b o xs e),λ b ps e=>?_⟩,?_,λ x c e=>?_,?_,λ x c e=>?_,λ p hp=>?_,hok,I.len⟩
 ·exact keep b o (neL b o e) hb (neC b o e hx) (I.base.keep b o e n hb hx) (I.base.free b o e n hx)
 ·obtain⟨sl,e1⟩:=I.base.slot b o e n hb hx;obtain⟨sl',e2⟩:=slot b _ (neL b o e) hb (neC b o e hx) e1 (I.base.free b o e n hx);exact⟨sl',e2⟩
 ·obtain⟨o',e1⟩:=I.base.there b o e hx;exact free b o' (neC b o e hx) e1 (I.base.free b o e n hx)
 ·obtain⟨o',e1⟩:=I.base.there b o e hx;exact there b o' (neC b o e hx) e1
 ·obtain⟨m1,e1⟩:=I.base.tbls b ps e;obtain⟨m2,e2⟩:=tbls b _ e1;exact⟨m1++m2,by rw[e2,Array.append_assoc]⟩
 ·obtain⟨m,hn,hl⟩:=I.loc;refine⟨m,ns m hn,λ i x v e1 e2 e3=>?_⟩;obtain⟨u,r,l⟩:=hl i x v e1 e2 e3;refine⟨u,r,?_⟩;rcases l with l|⟨k,c,e,z⟩
  ·exact .inl l
  ·exact .inr ⟨k,c,e,cellK x c e _ z⟩
 ·obtain⟨v,z⟩:=I.cell x c e;exact⟨v,cellK x c e v z⟩
 ·obtain⟨m,⟨o,_,_,ho,_⟩,_⟩:=I.loc;exact free _ o (λ z=>(hch _ z).2.1 rfl) ho I.free
 ·obtain⟨v,o,ho,hd⟩:=I.cell x c e;exact free c o (λ z=>(hch c z).2.2.1 x c e rfl) ho (I.freeC x c e)
 ·obtain⟨e,n,ne,nf,d⟩:=I.pin p hp;have nch:p.1∉ch:=λ z=>(hch p.1 z).2.2.2 p hp rfl;exact⟨keep p.1 p.2 ne nf nch e n,free p.1 p.2 nch e n,ne,nf,d⟩
theorem Inv.un {t':Nat}(I:Inv X pins σ H s) (u:Un X.fs [] H H' s.heap h') (hok:HOk X.prog X.w H' h'):Inv X pins σ H' {s with heap:=h',toks:=t'}:=by
 obtain⟨m,⟨o,es,ep,ho,r⟩,_⟩:=id I.loc;obtain⟨sl,hL⟩:=u.any ho I.free (by simp);exact I.step (g':=s.gens) (d':=s.drawn) (ch:=[]) (λ _ z=>nomatch z) (λ b o _ hb _ e n=>u.keep b o e n hb (by simp)) (λ b o _ hb _ e n=>u.slot b o e n hb (by simp)) (λ b o _ e n=>u.free b o e n (by simp)) (λ b o _ e=>u.there b o e (by simp)) u.tups u.frzs u.tbls (λ m' hm=>by obtain⟨o',es',ep',ho',r'⟩:=hm;rw[ho] at ho';cases ho';exact⟨_,es',ep',hL,r'⟩) hok I.bare
theorem Inv.call {g':Array GenState}{t':Nat}{d':Drawn}(I:Inv X pins σ H s) (u:Un (frs X.stack) ch H H' s.heap h') (hok:HOk X.prog X.w H' h') (hg:AllBare g')
  (hch:∀b∈ch,(b∈X.ex\/X.s₀.heap.objs.size<=b)/\b≠X.env.locals/\(∀x c,X.env.cells.lookup x=some c->c≠b)/\∀p∈X.pn++pins,p.1≠b) :
  Inv X pins σ H' {s with heap:=h',gens:=g',drawn:=d',toks:=t'}:=by
 obtain⟨m,⟨o,es,ep,ho,r⟩,_⟩:=id I.loc;obtain⟨sl,hL⟩:=u.any ho I.free λ z=>(hch _ z).2.1 rfl;exact I.step (ch:=ch) hch (λ b o hL hb hc e n=>u.keep b o e n (λ z=>(Qf.mp (I.q3D b z)).elim hL hb) hc) (λ b o _ _ hc e n=>u.any e n hc) (λ b o hc e n=>u.free b o e n hc) (λ b o hc e=>u.there b o e hc) u.tups u.frzs u.tbls (λ m' hm=>by obtain⟨o',es',ep',ho',r'⟩:=hm;rw[ho] at ho';cases ho';exact⟨_,es',ep',hL,r'⟩) hok hg
theorem Inv.turned {t':Nat}{it:Addr}(I:Inv X pins σ H s) (k:∀b o,b≠it->s.heap.get? b=some o->h'.get? b=some o) (hn:H it=none) (hL:it≠X.env.locals)
  (h1:it∈X.ex\/X.s₀.heap.objs.size<=it) (h2:∀x c,X.env.cells.lookup x=some c->c≠it) (h3:∀p∈X.pn++pins,p.1≠it):Inv X pins σ H {s with heap:=h',toks:=t'}:=by
 have nit:∀b u,H b=some u->b≠it:=λ b u e z=>by rw[z,hn] at e;cases e
 refine I.step (g':=s.gens) (d':=s.drawn) (ch:=[it]) (λ b hb=>?_) (λ b o _ _ hc e _=>k b o (λ z=>hc (by simp[z])) e) (λ b o _ _ hc e _=>⟨o.slots,k b o (λ z=>hc (by simp[z])) e⟩) (λ _ _ _ _ n=>n)
  (λ b o hc e=>⟨o,k b o (λ z=>hc (by simp[z])) e⟩) (λ _ _ e=>e) (λ _ _ _ e=>e) (λ b ps e=>⟨#[],by rw[e];simp⟩) (λ m hm=>?_) (λ b u e=>?_) I.bare
 ·have e:b=it:=by simpa using hb
  subst e;exact⟨h1,hL,h2,h3⟩
 ·obtain⟨o,es,ep,ho,r⟩:=hm;exact⟨o,es,ep,k _ o (Ne.symm hL) ho,r⟩
 ·refine (I.hok b u e).stay (λ c v hc q=>k c v ?_ q) (λ _ q=>q) λ _ _ q=>q;rcases hc with z|z
  ·rw[z];exact nit b u e
  ·exact nit c _ z
theorem Inv.tok (I:Inv X pins σ H s) (t:Nat):Inv X pins σ H {s with toks:=t}:=I.un (h':=s.heap) (t':=t) Un.refl I.hok
theorem Inv.kept {t':Nat}(I:Inv X pins σ H s) (k:∀b u,s.heap.get? b=some u->h'.get? b=some u):Inv X pins σ H {s with heap:=h',toks:=t'}:=I.un (Un.kept k) (I.hok.kept k)
theorem Inv.laid {a:Addr}{o:HO}{t':Nat}(I:Inv X pins σ H s) (k:∀b u,s.heap.get? b=some u->h'.get? b=some u) (hp:s.heap.objs.size<=a) (new:q1P X.prog X.w (upd H a o) h' a o) :
  Inv X pins σ (upd H a o) {s with heap:=h',toks:=t'}:=I.un (Un.laid k hp (I.hok.fresh hp)) (I.hok.laid k hp new)
theorem Inv.write {x e:Addr}{o:HO}{t':Nat}(I:Inv X pins σ H s) (mu:Mut (H x)) (he:e=x\/H e=some (.own x)) (k:∀b u,b≠e->s.heap.get? b=some u->h'.get? b=some u) (heo:∃u,h'.get? e=some u)
  (new:q1P X.prog X.w (upd H x o) h' x o):Inv X pins σ (upd H x o) {s with heap:=h',toks:=t'}:=I.un (Un.write mu he k heo) (I.hok.write mu he k heo new)
theorem Inv.weak {σ':List (Option V)}(I:Inv X pins σ H s) (hl:σ'.length=σ.length) (w:∀(i:Nat) v,σ'[i]? = some (some v)->σ[i]? = some (some v)):Inv X pins σ' H s :=
 ⟨I.ok,I.os,I.bare,I.base,let ⟨m,hn,hl'⟩:=I.loc;⟨m,hn,λ i x v e1 e2 e3=>hl' i x v e1 (w i v e2) e3⟩,I.cell,I.free,I.freeC,I.pin,I.hok,hl.trans I.len⟩
theorem Inv.q6A {pins':List (Addr×Obj)}(I:Inv X pins σ H s) (h:∀p∈pins',s.heap.get? p.1=some p.2/\H p.1=none/\p.1≠X.env.locals/\p.1∉X.fs/\∀v,p.2.data ≠ .cell v):Inv X pins' σ H s :=
 ⟨I.ok,I.os,I.bare,I.base,I.loc,I.cell,I.free,I.freeC,λ p hp=>(Qq.mp hp).elim (λ z=>I.pin p (QB _ z)) (h p),I.hok,I.len⟩
theorem q6B {N:List Str}(hN:N.Nodup) {j:Nat}(a:N[i]? = some x) (b:N[j]? = some x):i=j:=by obtain⟨h1,e1⟩:=Qd.mp a;obtain⟨h2,e2⟩:=Qd.mp b;exact (List.getElem_inj hN).mp (e1.trans e2.symm)
theorem qAt {M:Model}{A:Around}{E:Value->Shared->Prop}{v:V}{u:Value}{Q:Unit->Shared->Prop}(I:Inv X pins σ H s) (hN:X.N.Nodup) (hi:X.N[i]? = some x) (hx:Loc X.env.scope x) (r:RelV v u)
  (h:∀s',Inv X pins (σ.set i (some v)) H s'->(∃a,Heap.SameBut a s.heap s'.heap/\(a=X.env.locals\/X.env.cells.lookup x=some a))->Q () s') (hf:X.fn x=true\/X.env.scope.names.lookup x=some .local:=by first|exact .inl rfl|exact .inr rfl|assumption):wpAny M A (storeName X.env x u) Q E s:=by
 obtain⟨m,hn,hl⟩:=id I.loc;have hcls:(X.env.scope.kind == .class || (X.env.scope.kind == .module&&X.env.locals != X.env.globals))=false:=by rw[I.ok.kind];rfl
 have hiσ:i < σ.length:=by rw[I.len];exact (Qd.mp hi).1
 have cne:=I.cne;have tracked:∀{a:Addr}{h':Heap},(∃o,s.heap.get? a=some o/\H a=none)->Heap.SameBut a s.heap h'->HOk X.prog X.w H h':=λ {a h'} ha hs b ob e=>by
  obtain⟨_,_,hfree⟩:=ha;refine (I.hok b ob e).stay (λ c w' hc q=>(hs.2 c ?_).trans q) (λ _ q=>q) λ _ _ q=>q;rintro rfl;rcases hc with rfl|hc
  ·rw[hfree] at e;cases e
  ·rw[hfree] at hc;cases hc
 rcases hx with hk|hk
 ·refine wpAny_storeName_local hk hn (λ h' hn' hs=>?_) hcls;obtain⟨oL,_,_,hoL,_⟩:=id hn;refine h _ ⟨I.ok,I.os,I.bare,⟨λ b o e n hb hx=>?_,λ b o e n hb hx=>?_,I.base.free,λ b o e hx=>?_,I.base.tups,I.base.frzs,I.base.tbls⟩,⟨_,hn',λ j y v' e1 e2 e3=>?_⟩,λ y c e=>?_,I.free,I.freeC,λ p hp=>?_,tracked ⟨oL,hoL,I.free⟩ hs,by simpa using I.len⟩ ⟨_,hs,.inl rfl⟩
  ·exact (hs.2 b (Qy (Qn (Heap.lt_size e) I.ok.above))).trans (I.base.keep b o e n hb hx)
  ·obtain⟨sl,e1⟩:=I.base.slot b o e n hb hx;exact⟨sl,(hs.2 b (Qy (Qn (Heap.lt_size e) I.ok.above))).trans e1⟩
  ·obtain⟨o',e1⟩:=I.base.there b o e hx;exact⟨o',(hs.2 b (Qy (Qn (Heap.lt_size e) I.ok.above))).trans e1⟩
  ·by_cases hj:j=i
   ·subst hj;rw[hi] at e1;cases e1;rw[Jl hiσ] at e2;cases e2;exact⟨u,r,.inl ⟨hk,by simp⟩⟩
   ·rw[Jt (Ne.symm hj)] at e2;obtain⟨u',r',q⟩:=hl j y v' e1 e2 e3;refine⟨u',r',?_⟩;rcases q with ⟨k,e⟩|⟨k,c,e,z⟩
    ·refine .inl ⟨k,?_⟩;have:y≠x:=λ e=>hj (q6B hN e1 (e▸hi));simp[this,e]
    ·exact .inr ⟨k,c,e,z.sameBut hs (cne y c e)⟩
  ·obtain⟨w',z⟩:=I.cell y c e;exact⟨w',z.sameBut hs (cne y c e)⟩
  ·obtain⟨e,n,ne,nf,d⟩:=I.pin p hp;exact⟨(hs.2 p.1 ne).trans e,n,ne,nf,d⟩
 ·have hfn:X.fn x=true:=by
   rcases hf with z|z
   ·exact z
   ·rw[z] at hk;cases hk
  obtain⟨c,hc⟩:=I.ok.has x (.inl hk);obtain⟨w',z⟩:=I.cell x c hc;refine wpAny_storeName_cell I.ok.kind hk hc z (λ h' hc' hs=>?_);obtain⟨oc,hoc,hocd⟩:=id z;refine h {s with heap:=h'} ⟨I.ok,I.os,I.bare,⟨λ b o e n hb hx=>?_,λ b o e n hb hx=>?_,I.base.free,λ b o e hx=>?_,I.base.tups,I.base.frzs,I.base.tbls⟩,⟨m,hn.sameBut hs (Ne.symm (cne x c hc)),λ j y v' e1 e2 e3=>?_⟩,λ y c' e=>?_,I.free,I.freeC,λ p hp=>?_,tracked ⟨oc,hoc,I.freeC x c hc⟩ hs,by simpa using I.len⟩ ⟨c,hs,.inr hc⟩
  ·exact (hs.2 b (Qy (Qn (Heap.lt_size e) (I.ok.cab x c hfn hc)))).trans (I.base.keep b o e n hb hx)
  ·obtain⟨sl,e1⟩:=I.base.slot b o e n hb hx;exact⟨sl,(hs.2 b (Qy (Qn (Heap.lt_size e) (I.ok.cab x c hfn hc)))).trans e1⟩
  ·obtain⟨o',e1⟩:=I.base.there b o e hx;exact⟨o',(hs.2 b (Qy (Qn (Heap.lt_size e) (I.ok.cab x c hfn hc)))).trans e1⟩
  ·by_cases hj:j=i
   ·subst hj;rw[hi] at e1;cases e1;rw[Jl hiσ] at e2;cases e2;exact⟨u,r,.inr ⟨.inl hk,c,hc,hc'⟩⟩
   ·rw[Jt (Ne.symm hj)] at e2;obtain⟨u',r',q⟩:=hl j y v' e1 e2 e3;refine⟨u',r',?_⟩;rcases q with q|⟨k,c',e,z'⟩
    ·exact .inl q
    ·refine .inr ⟨k,c',e,z'.sameBut hs ?_⟩;rintro rfl;exact hj (q6B hN e1 (I.ok.inj _ _ _ e hc▸hi))
  ·by_cases hcc:c'=c
   ·subst hcc;exact⟨_,hc'⟩
   ·obtain⟨w2,z2⟩:=I.cell y c' e;exact⟨w2,z2.sameBut hs hcc⟩
  ·obtain⟨e,n,ne,nf,d⟩:=I.pin p hp;refine⟨(hs.2 p.1 ?_).trans e,n,ne,nf,d⟩;intro q;rw[q,hoc] at e;have q':oc=p.2:=QR.inj e;exact d w' (by rw[<-q'];exact hocd)
theorem q0q {M:Model}{A:Around}{E:Value->Shared->Prop}{v:V}{u:Value}{Q:Unit->Shared->Prop}(I:Inv X pins σ H s) (hN:X.N.Nodup) (hi:X.N[i]? = some x) (hx:Loc X.env.scope x) (r:RelV v u)
  (h:∀s',Inv X pins (σ.set i (some v)) H s'->Q () s') (hf:X.fn x=true\/X.env.scope.names.lookup x=some .local:=by first|exact .inl rfl|exact .inr rfl|assumption):wpAny M A (storeName X.env x u) Q E s :=
 qAt I hN hi hx r (λ s' I' _=>h s' I') hf
theorem Inv.qFS {s':Shared}(I:Inv X pins σ H s) (ho:s'.os=s.os) (u:Un (frs X.stack) ch H H' s.heap s'.heap) (hok:HOk X.prog X.w H' s'.heap) (hg:AllBare s'.gens)
  (hch:∀b∈ch,(b∈X.ex\/X.s₀.heap.objs.size<=b)/\b≠X.env.locals/\(∀x c,X.env.cells.lookup x=some c->c≠b)/\∀p∈X.pn++pins,p.1≠b):Inv X pins σ H' s':=by
 obtain⟨h',g',d',t',o'⟩:=s';have e:o'=s.os:=ho;subst e;exact I.call (g':=g') (t':=t') (d':=d') u hok hg hch
end
abbrev XK:=Value->Option Addr->Hp->Prop
abbrev St:=List (Option V)
abbrev VK:=V->Hp->Prop
def EP (X:Cx) (pins:List (Addr×Obj)) (σ:St) (Q:VK) (u:Value) (s':Shared):Prop:=∃v H',Inv X pins σ H' s'/\RelV v u/\Q v H'
def TP (X:Cx) (pins:List (Addr×Obj)) (σ:St) (Q:Bool->Hp->Prop) (b:Bool) (s':Shared):Prop:=∃H',Inv X pins σ H' s'/\Q b H'
theorem thn {α:Type}{t:Sem α}{Q Q':α->Shared->Prop}{s:Shared}(h:wpAny M A t Q E s) (hQ:∀a s,Q a s->Q' a s):wpAny M A t Q' E s:=wpAny_mono h hQ λ _ _ x=>x
end L2
namespace L2
open PySem PySem.Spec PyProof.Rows
section
variable {X:Cx}
def Gl (X:Cx) (x:Str):Prop:=X.env.kindOf x=some .globalImplicit
theorem q3t {E:Value->Shared->Prop}{pins:List (Addr×Obj)}{s:Shared}{σ:St}{H:Hp}{x:Str}{u:Value}{pos:Pos}{Q:Value->Shared->Prop}(I:Inv X pins σ H s) (hg:Gl X x) (hm:X.mg x=some u) (h:Q u s)
  (hd:(x==("__debug__":Str))=false:=by decide):wpAny (model X.prog X.w) X.A (eval (.Name x pos) X.env) Q E s :=
 Calls.Name_function_global I.ok.kind hg (Calls.loadGlobal_global (by rw[I.ok.glob];exact I.mod.glob.keeps I.bk) hm h) hd
theorem q1r {E:Value->Shared->Prop}{pins:List (Addr×Obj)}{s:Shared}{σ:St}{H:Hp}{x:Str}{u:Value}{pos:Pos}{Q:Value->Shared->Prop}(I:Inv X pins σ H s) (hg:Gl X x) (hm:X.mg x=none) (hv:bootBuiltins x=some u) (h:Q u s)
  (hn:x ≠ "__name__":=by decide) (hd:(x==("__debug__":Str))=false:=by decide):wpAny (model X.prog X.w) X.A (eval (.Name x pos) X.env) Q E s:=by
 obtain⟨mb,h1,h2⟩:=I.mod.blt;exact Calls.Name_function_global I.ok.kind hg (Calls.loadGlobal_builtin (by rw[I.ok.glob];exact I.mod.glob.keeps I.bk) hm (by rw[I.ok.blt];exact h1.keeps I.bk) ((h2 x hn).trans hv) h) hd
variable {a b:Expr}{ta tb:TE}{pos:Pos}
variable {tA tB':TT}{rest:List Expr}
end
end L2
namespace L2
open PySem PySem.Spec PyProof.Rows
variable {K:PySem.W.Frag}{tg:Expr}{P:Program}{w:World}
def SqL (K:PySem.W.Frag) (H:Hp) (a:Addr) (xs:List V):Prop :=
 Rd H a (.lst xs)\/
  ∃(o:Obj) (its:Array Value) (n:Nat),K.lookup a=some o/\o.cls = .type "list"/\o.dict=none/\o.data = .seq its n/\its.size<=sizeLine/\Vals xs its.toList
def SqT (K:PySem.W.Frag) (H:Hp) (a:Addr) (xs:List V):Prop :=
 Rd H a (.tup xs)\/
  ∃(o:Obj) (its:Array Value) (n:Nat),K.lookup a=some o/\o.cls = .type "tuple"/\o.data = .seq its n/\its.size<=sizeLine/\Vals xs its.toList
def absV:Value->Option V
 | .none=>some .non
 | .bool b=>some (.bl b)
 | .int i _=>some (.int i)
 | .str x _=>some (.str x)
 | .bytes b _=>some (.byt b)
 | .float b _=>some (.flt b)
 | .ref a=>some (.ref a)
 | .type n=>some (.ty n)
 |_=>none
theorem RelV.abs {x:V}{u:Value}(r:RelV x u):absV u=some x:=by
 cases x with
 |non=>cases r;rfl
 |bl _=>cases r;rfl
 |int _=>obtain⟨t,rfl⟩:=r;rfl
 |str _=>obtain⟨t,rfl⟩:=r;rfl
 |byt _=>obtain⟨t,rfl⟩:=r;rfl
 |flt _=>obtain⟨t,rfl⟩:=r;rfl
 |ref _=>cases r;rfl
 |ty _=>cases r;rfl
theorem RelV.inj {x y:V}{u:Value}(r:RelV x u) (q:RelV y u):x=y:=QR.inj (r.abs.symm.trans q.abs)
theorem Vals.inj:∀{xs ys:List V}{us:List Value},Vals xs us->Vals ys us->xs=ys
 |_,_,_,.nil,.nil=>rfl
 |_,_,_,.cons r t,.cons r' t'=>by rw[r.inj r',Vals.inj t t']
section
variable {X:Cx}{pins:List (Addr×Obj)}{σ:St}{H:Hp}{s:Shared}{a:Addr}{xs ys:List V}
theorem SqL.of (h:H a=some (.lst xs)):SqL K H a xs:= .inl (.inl h)
theorem SqT.of (h:H a=some (.tup xs)):SqT K H a xs:= .inl (.inl h)
theorem Inv.list (I:Inv X pins σ H s) (h:SqL X.K H a xs):∃its:List Value,Vals xs its/\PlainL s.heap a its.toArray/\xs.length<=sizeLine:=by
 rcases h with h|⟨o,its,n,hk,hc,hd,hs,hz,r⟩
 ·obtain⟨z,its,n,r,e⟩:=h.ok I.hok;exact⟨its,r,⟨_,n,e,rfl,rfl,rfl⟩,z⟩
 ·refine⟨its.toList,r,⟨o,n,I.kIn a o hk,hc,hd,by simpa using hs⟩,?_⟩;have e:=r.length;simp only[Array.length_toList] at e;lia
theorem Inv.tuple (I:Inv X pins σ H s) (h:SqT X.K H a xs):∃its:List Value,Vals xs its/\IsTup s.heap a its.toArray/\xs.length<=sizeLine:=by
 rcases h with h|⟨o,its,n,hk,hc,hs,hz,r⟩
 ·obtain⟨z,its,r,p⟩:=h.ok I.hok;exact⟨its,r,p,z⟩
 ·refine⟨its.toList,r,⟨o,I.kIn a o hk,hc,n,by simpa using hs⟩,?_⟩;have e:=r.length;simp only[Array.length_toList] at e;lia
theorem Inv.qDI (I:Inv X pins σ H s) (h:SqL X.K H a xs) (h':SqL X.K H a ys):xs=ys:=by
 obtain⟨its,r,⟨o,n,e,_,_,d⟩,_⟩:=I.list h;obtain⟨its',r',⟨o',n',e',_,_,d'⟩,_⟩:=I.list h';rw[e] at e';cases e';rw[d] at d';injection d' with d1 _
 have:its=its':=by simpa using congrArg Array.toList d1
 subst this;exact r.inj r'
theorem Inv.qAu (I:Inv X pins σ H s) (h:SqT X.K H a xs) (h':SqT X.K H a ys):xs=ys:=by
 obtain⟨its,r,⟨o,e,_,n,d⟩,_⟩:=I.tuple h;obtain⟨its',r',⟨o',e',_,n',d'⟩,_⟩:=I.tuple h';rw[e] at e';cases e';rw[d] at d';injection d' with d1 _
 have:its=its':=by simpa using congrArg Array.toList d1
 subst this;exact r.inj r'
end
abbrev Cx.wish (X:Cx) (E:Value->Shared->Prop):Cx:={X with xe:=E}
theorem Cx.Ok.wish {X:Cx}(ok:X.Ok) (E:Value->Shared->Prop):(X.wish E).Ok :=
 ⟨ok.mod,ok.kind,ok.glob,ok.blt,ok.above,ok.inj,ok.has,ok.cab,ok.hd,ok.frames,ok.stk,ok.exf,ok.bs,ok.bsz,ok.noex,ok.exfs,ok.funs,ok.frf⟩
theorem Cx.Ok.q2n {X:Cx}{E:Value->Shared->Prop}(ok:(X.wish E).Ok):X.Ok :=
 ⟨ok.mod,ok.kind,ok.glob,ok.blt,ok.above,ok.inj,ok.has,ok.cab,ok.hd,ok.frames,ok.stk,ok.exf,ok.bs,ok.bsz,ok.noex,ok.exfs,ok.funs,ok.frf⟩
section
variable {X:Cx}{pins:List (Addr×Obj)}{σ:St}{H:Hp}{s:Shared}{E:Value->Shared->Prop}
theorem Inv.wish (I:Inv X pins σ H s) (E:Value->Shared->Prop):Inv (X.wish E) pins σ H s:=⟨I.ok.wish E,I.os,I.bare,I.base,I.loc,I.cell,I.free,I.freeC,I.pin,I.hok,I.len⟩
theorem Inv.q2n (I:Inv (X.wish E) pins σ H s):Inv X pins σ H s:=⟨I.ok.q2n,I.os,I.bare,I.base,I.loc,I.cell,I.free,I.freeC,I.pin,I.hok,I.len⟩
end
section
variable {X:Cx}{st:Stmt}{rest:List Stmt}{t u:TS}{e:Expr}{te:TE}{pos:Pos}
theorem Inv.quiet {pins:List (Addr×Obj)}{σ:St}{H:Hp}{s:Shared}(I:Inv X pins σ H s):interactive X.env=false:=by simp[interactive,I.ok.kind]
end
abbrev TG:=V->St->Hp->(St->Hp->Prop)->Prop
abbrev TGs:=List V->St->Hp->(St->Hp->Prop)->Prop
def PG (X:Cx) (target:Expr) (t:TG):Prop :=
 ∀(pins:List (Addr×Obj)) (s:Shared) (σ:St) (H:Hp) (v:V) (u:Value) (Q:St->Hp->Prop),Inv X pins σ H s->RelV v u->t v σ H Q->
  wpAny (model X.prog X.w) X.A (assign target X.env u) (λ _ s'=>∃σ' H',Inv X pins σ' H' s'/\Q σ' H') X.xe s
def PGs (X:Cx) (ts:List Expr) (t:TGs):Prop :=
 ∀(pins:List (Addr×Obj)) (s:Shared) (σ:St) (H:Hp) (vs:List V) (us:List Value) (Q:St->Hp->Prop),Inv X pins σ H s->Vals vs us->t vs σ H Q->
  wpAny (model X.prog X.w) X.A (assignInOrder ((assignEach ts X.env).map (·.2)) us) (λ _ s'=>∃σ' H',Inv X pins σ' H' s'/\Q σ' H') X.xe s
section
variable {X:Cx}{pos:Pos}
def qKa (i:Nat):TG:=λ v σ H Q=>Q (σ.set i (some v)) H
theorem qAv {i:Nat}{x:Str}(hN:X.N.Nodup) (hi:X.N[i]? = some x) (hx:Loc X.env.scope x) (hf:X.fn x=true\/X.env.scope.names.lookup x=some .local:=by first|exact .inl rfl|exact .inr rfl|assumption):PG X (.Name x pos) (qKa i):=by intro pins s σ H v u Q I r h;exact wpAny_assign_Name (q0q I hN hi hx r (λ s' I'=>⟨_,H,I',h⟩) hf)
def gNil:TGs:=λ vs σ H Q=>vs=[]/\Q σ H
def qKb (t:TG) (u:TGs):TGs:=λ vs σ H Q=>∃v r,vs=v::r/\t v σ H λ σ' H'=>u r σ' H' Q
theorem qFT:PGs X [] gNil:=by intro pins s σ H vs us Q I r h;obtain⟨e,h⟩:=h;subst e;cases r;exact assignInOrder_nil ⟨σ,H,I,h⟩
theorem q95 {e:Expr}{es:List Expr}{t:TG}{u:TGs}(h1:PG X e t) (h2:PGs X es u)
  (hs:(assignEach (e::es) X.env).map (·.2)=assign e X.env::(assignEach es X.env).map (·.2):=by rfl):PGs X (e::es) (qKb t u):=by
 intro pins s σ H vs us Q I r h;obtain⟨v,vr,e1,h⟩:=h;subst e1;cases r with
 |cons r rr =>
  rw[hs];refine assignInOrder_cons (thn (h1 pins s σ H _ _ _ I r h) λ _ s1 ⟨σ1,H1,I1,q1⟩=>?_);exact h2 pins s1 σ1 H1 _ _ Q I1 rr q1
def gTup (K:PySem.W.Frag) (n:Nat) (t:TGs):TG:=λ v σ H Q=>∃a xs,v = .ref a/\SqT K H a xs/\xs.length=n/\t xs σ H Q
theorem qHx {es:List Expr}{k:Nat}{t:TGs}{n:Nat}(hc:X.calm=true) (h:PGs X es t)
  (hn:(assignEach es X.env).length=n:=by rfl) (hst:(assignEach es X.env).findIdx? (·.1)=none:=by rfl):PG X (.Tuple es k pos) (gTup X.K n t):=by
 intro pins s σ H v u Q I r hw;obtain⟨a,xs,e1,hq,hl,hw⟩:=hw;subst e1;cases r;obtain⟨its,rv,ht,hz⟩:=I.tuple hq;refine assign_Tuple_tuple (I.ok.hd hc) ht (by simp[hn,<-hl,rv.length]) hst λ h' hx=>?_;have I1:Inv X pins σ H {s with heap:=h'}:=I.kept (t':=s.toks) λ b o e=>hx b o (Qy (Heap.lt_size e)) e;exact h pins _ σ H xs _ Q I1 (by simpa using rv) hw
end
structure It where
 go:Nat->Hp->Prop
 yld:Nat->Hp->V->Hp->Prop
 stop:Nat->Hp->Prop
def FpOk (X:Cx) (pins:List (Addr×Obj)) (H:Hp) (b:Addr):Prop :=
 H b=none/\b≠X.env.locals/\b∉X.fs/\(b∈X.ex\/X.s₀.heap.objs.size<=b)/\(∀x c,X.env.cells.lookup x=some c->c≠b)/\∀p∈X.pn++pins,p.1≠b
theorem Inv.fpOk {X:Cx}{pins:List (Addr×Obj)}{σ:St}{H H':Hp}{s:Shared}{b:Addr}(I:Inv X pins σ H s) (hb:s.heap.objs.size<=b) (hn:H' b=none):FpOk X pins H' b:=by
 refine⟨hn,Nat.ne_of_gt (Qn I.lt hb),I.nofs hb,.inr (Qr I.sz hb),λ x c e z=>?_,λ p hp z=>?_⟩
 ·obtain⟨v,q⟩:=I.cell x c e;exact absurd (Qn q.lt (by rw[z];exact hb)) (Ja _)
 ·exact absurd (Qn (Heap.lt_size (I.pin p hp).1) (by rw[z];exact hb)) (Ja _)
structure Turn (P:Program) (w:World) (K:PySem.W.Frag) (tg:Expr) (J:It) (fp:List Addr) (it:Addr) (tn:Nat->Heap->Prop):Prop where
 mem:it∈fp
 obj:∀i h,tn i h->∀b∈fp,∃o,h.get? b=some o/\∀v,o.data ≠ .cell v
 keep:∀i h h',tn i h->(∀b∈fp,∀o,h.get? b=some o->h'.get? b=some o)->tn i h'
 item:∀(X:Cx),X.prog=P->X.w=w->X.K=K->X.calm=true->∀(i:Nat) (pins:List (Addr×Obj)) (s:Shared) (σ:St) (H:Hp) (E:Value->Shared->Prop),Inv X pins σ H s->(∀b∈fp,FpOk X pins H b)->tn i s.heap->J.go i H->
  wpAny (model P w) X.A (pyNext (.ref it)) (λ r s1=>∃u,r=some u/\
   wpAny (model P w) X.A (letOwnedTupleGo tg (.ref it) u) (λ _ s2=>∃x H',Inv X pins σ H' s2/\RelV x u/\J.yld i H x H'/\tn (i+1) s2.heap/\∀b∈fp,H' b=none) E s1) E s
 done:∀(X:Cx),X.prog=P->X.w=w->X.K=K->X.calm=true->∀(i:Nat) (pins:List (Addr×Obj)) (s:Shared) (σ:St) (H:Hp) (E:Value->Shared->Prop),Inv X pins σ H s->(∀b∈fp,FpOk X pins H b)->tn i s.heap->J.stop i H->
  wpAny (model P w) X.A (pyNext (.ref it)) (λ r s1=>r=none/\Inv X pins σ H s1) E s
 self:∀(A:Around) (i:Nat) (s:Shared) (Q:Value->Shared->Prop) (E:Value->Shared->Prop),tn i s.heap->Q (.ref it) s->wpAny (model P w) A (pyIter (.ref it)) Q E s
def PIE (X:Cx) (pins:List (Addr×Obj)) (σ:St) (tg:Expr) (R:It->Hp->Prop) (itv:Value) (s2:Shared):Prop :=
 ∃(it:Addr) (fp:List Addr) (tn:Nat->Heap->Prop) (J:It) (H':Hp),itv = .ref it/\Inv X pins σ H' s2/\Turn X.prog X.w X.K tg J fp it tn/\tn 0 s2.heap/\(∀b∈fp,FpOk X pins H' b)/\R J H'
theorem qDJ {M:Model}{A:Around}{E:Value->Shared->Prop}{s:Shared}{it:Addr}{u:Value}{o:Obj}{n:String}{vs:Array Value}{Q:Unit->Shared->Prop}(ho:s.heap.get? it=some o) (hc:o.cls = .type n) (hd:o.data = .fields vs)
  (hn:["enumerate", "zip", "dict_itemiterator", "dict_reverseitemiterator", "odict_iterator", "itertools.zip_longest", "itertools.pairwise"].contains n=false) (hQ:Q () s):wpAny M A (letOwnedTupleGo tg (.ref it) u) Q E s:=by
 unfold letOwnedTupleGo;cases tg<;>first
  |exact wpAny_pure hQ
  |(cases u<;>first
    |exact wpAny_pure hQ
    |(refine wpAny_bind (wpAny_load ho ?_)
      rw[hc,hd];show wpAny M A (if (["enumerate", "zip", "dict_itemiterator", "dict_reverseitemiterator", "odict_iterator", "itertools.zip_longest", "itertools.pairwise"].contains n&&vs[0]?==some (rawInt _))=true then _ else _) Q E s;rw[if_neg (by intro h;rw[hn,Bool.false_and] at h;cases h)];exact wpAny_pure hQ))
def Itl (K:PySem.W.Frag) (a:Addr):It :=
 ⟨λ i H=>∃xs x,SqL K H a xs/\xs[i]? = some x,λ i H x H'=>H'=H/\∀xs,SqL K H a xs->xs[i]? = some x,λ i H=>∃xs,SqL K H a xs/\xs.length<=i⟩
def Itt (K:PySem.W.Frag) (a:Addr):It :=
 ⟨λ i H=>∃xs x,SqT K H a xs/\xs[i]? = some x,λ i H x H'=>H'=H/\∀xs,SqT K H a xs->xs[i]? = some x,λ i H=>∃xs,SqT K H a xs/\xs.length<=i⟩
def Itr (lo:Int) (n:Nat):It:=⟨λ i _=>i<n,λ i H x H'=>H'=H/\x = .int (lo+i),λ i _=>n<=i⟩
theorem qAw (a it:Addr):Turn P w K tg (Itl K a) [it] it (λ i h=>h.IsListIter it a i) where
 mem:=by simp
 obj:=λ i h st b hb=>by
  have e:b=it:=by simpa using hb
  subst e;obtain⟨o,e,c,d⟩:=st;exact⟨o,e,λ v z=>by rw[d] at z;cases z⟩
 keep:=λ i h h' st k=>st.at λ o e=>k it (by simp) o e
 item:=by intro X hP hw hK hc i pins s σ H E I hf st hg;subst hP hw hK;obtain⟨xs,x,hq,hx⟩:=hg;obtain⟨its,rv,p,hz⟩:=I.list hq;obtain⟨u,hu,ru⟩:=rv.get hx;obtain⟨f0,f1,f2,f3,f4,f5⟩:=hf it (by simp);refine wpAny_pyNext_list_item st p.isList (x:=u) (by simpa using hu) λ h' st' sb=>?_;have I1:Inv X pins σ H {s with heap:=h'}:=I.turned (t':=s.toks) (λ b o hb e=>(sb.2 b hb).trans e) f0 f1 f3 f4 f5;obtain⟨o,e,c,d⟩:=id st';exact⟨u,rfl,qDJ (s:={s with heap:=h'}) e c d (by decide) ⟨x,H,I1,ru,⟨rfl,λ ys hy=>by rw[I.qDI hy hq];exact hx⟩,st',λ b hb=>(hf b hb).1⟩⟩
 done:=by intro X hP hw hK hc i pins s σ H E I hf st hg;subst hP hw hK;obtain⟨xs,hq,hx⟩:=hg;obtain⟨its,rv,p,hz⟩:=I.list hq;obtain⟨f0,f1,f2,f3,f4,f5⟩:=hf it (by simp);have hl:=rv.length;exact wpAny_pyNext_list_end (I.ok.hd hc) st p.isList (by simp;lia) λ h' eb=>⟨rfl,I.turned (t':=s.toks) (λ b o hb e=>eb b o hb e) f0 f1 f3 f4 f5⟩
 self:=λ _ _ _ _ _ st h=>wpAny_pyIter_listiter st h
theorem qAE (a it:Addr):Turn P w K tg (Itt K a) [it] it (λ i h=>h.IsTupleIter it a i) where
 mem:=by simp
 obj:=λ i h st b hb=>by
  have e:b=it:=by simpa using hb
  subst e;obtain⟨o,e,c,d⟩:=st;exact⟨o,e,λ v z=>by rw[d] at z;cases z⟩
 keep:=λ i h h' st k=>st.at λ o e=>k it (by simp) o e
 item:=by intro X hP hw hK hc i pins s σ H E I hf st hg;subst hP hw hK;obtain⟨xs,x,hq,hx⟩:=hg;obtain⟨its,rv,p,hz⟩:=I.tuple hq;obtain⟨u,hu,ru⟩:=rv.get hx;obtain⟨f0,f1,f2,f3,f4,f5⟩:=hf it (by simp);refine wpAny_pyNext_tuple_item st (show s.heap.IsTuple a its.toArray from p) (x:=u) (by simpa using hu) λ h' st' sb=>?_;have I1:Inv X pins σ H {s with heap:=h'}:=I.turned (t':=s.toks) (λ b o hb e=>(sb.2 b hb).trans e) f0 f1 f3 f4 f5;obtain⟨o,e,c,d⟩:=id st';exact⟨u,rfl,qDJ (s:={s with heap:=h'}) e c d (by decide) ⟨x,H,I1,ru,⟨rfl,λ ys hy=>by rw[I.qAu hy hq];exact hx⟩,st',λ b hb=>(hf b hb).1⟩⟩
 done:=by intro X hP hw hK hc i pins s σ H E I hf st hg;subst hP hw hK;obtain⟨xs,hq,hx⟩:=hg;obtain⟨its,rv,p,hz⟩:=I.tuple hq;obtain⟨f0,f1,f2,f3,f4,f5⟩:=hf it (by simp);have hl:=rv.length;exact wpAny_pyNext_tuple_end (I.ok.hd hc) st (show s.heap.IsTuple a its.toArray from p) (by simp;lia) λ h' eb=>⟨rfl,I.turned (t':=s.toks) (λ b o hb e=>eb b o hb e) f0 f1 f3 f4 f5⟩
 self:=λ _ _ _ _ _ st h=>wpAny_pyIter_tupleiter st h
theorem qAF (it:Addr) (lo:Int) (n:Nat):Turn P w K tg (Itr lo n) [it] it (λ i h=>IsRangeIter h it (lo+(i:Nat)*1) ((n:Int)-(i:Nat)) 1) where
 mem:=by simp
 obj:=λ i h st b hb=>by
  have e:b=it:=by simpa using hb
  subst e;exact⟨_,st,λ v z=>by have z':Data.fields _=Data.cell v:=z;cases z'⟩
 keep:=λ i h h' st k=>k it (by simp) _ st
 item:=by intro X hP hw hK hc i pins s σ H E I hf st hg;subst hP hw hK;obtain⟨f0,f1,f2,f3,f4,f5⟩:=hf it (by simp);have W:=Walks.range (prog:=X.prog) (w:=X.w) (I.ok.hd hc) it lo 1 n;refine W.item i s _ _ hg st λ v h' tk hv st' kk=>?_;obtain⟨t,rfl⟩:=hv;have I1:Inv X pins σ H {s with heap:=h',toks:=tk}:=I.turned (λ b o hb e=>kk b o (by simpa using hb) e) f0 f1 f3 f4 f5;refine⟨_,rfl,qDJ (s:={s with heap:=h',toks:=tk}) (n := "range_iterator") st' rfl rfl (by decide) ⟨.int (lo+i),H,I1,⟨t,?_⟩,⟨rfl,rfl⟩,st',λ b hb=>(hf b hb).1⟩⟩;rw[Int.mul_one]
 done:=by intro X hP hw hK hc i pins s σ H E I hf st hg;subst hP hw hK;obtain⟨f0,f1,f2,f3,f4,f5⟩:=hf it (by simp);exact wpAny_pyNext_range_end (I.ok.hd hc) st (by have:n<=i:=hg;lia) λ h' eb=>⟨rfl,I.turned (t':=s.toks) (λ b o hb e=>eb b o hb e) f0 f1 f3 f4 f5⟩
 self:=λ _ _ _ _ _ st h=>wpAny_pyIter_rangeiter st h
end L2
namespace L2
open PySem PySem.Spec PyProof.Rows
variable {pins:List (Addr×Obj)}{σ:St}{H:Hp}{s:Shared}{fp:List Addr}
section
variable {X:Cx}{tg:Expr}
theorem q96 {R:It->Hp->Prop}{E:Value->Shared->Prop}{lo hi:Int}{t u v:Tok}{tk:Nat}(I:Inv X pins σ H s) (h1:-(2^62)<=lo) (h2:lo<2^62) (h3:-(2^62)<=hi) (h4:hi<2^62)
  (q:R (Itr lo (hi-lo).toNat) H):wpAny (model X.prog X.w) X.A (pyIter (.ref s.heap.objs.size)) (PIE X pins σ tg R) E {s with heap:=s.heap.push {cls:= .type "range",data:= .fields #[.int lo t,.int hi u,.int 1 v]},toks:=tk}:=by
 refine wpAny_pyIter_range (IsRange.new ..) (small_one h1 h2 h3 h4) ?_;have I1:Inv X pins σ H {s with heap:=s.heap.push {cls:= .type "range",data:= .fields #[.int lo t,.int hi u,.int 1 v]},toks:=tk}:=I.kept λ b o e=>Heap.get?_push_of_some _ e;refine⟨(s.heap.push {cls:= .type "range",data:= .fields #[.int lo t,.int hi u,.int 1 v]}).objs.size,[(s.heap.push {cls:= .type "range",data:= .fields #[.int lo t,.int hi u,.int 1 v]}).objs.size],_,_,H,rfl,
  I1.kept (t':=tk) λ b o e=>Heap.get?_push_of_some _ e,qAF _ lo (hi-lo).toNat,?_,λ b hb=>?_,q⟩
 ·have e1:lo+((0:Nat):Int)*1=lo:=by simp
  have e2:(((hi-lo).toNat:Nat):Int)-((0:Nat):Int)=Builtin.Range.rangeSize lo hi 1:=by rw[rangeSize_one];split<;>lia
  show IsRangeIter _ _ (lo+((0:Nat):Int)*1) ((((hi-lo).toNat:Nat):Int)-((0:Nat):Int)) 1;rw[e1,e2];exact Heap.get?_push_size _ rfl
 ·have e:b=(s.heap.push {cls:= .type "range",data:= .fields #[.int lo t,.int hi u,.int 1 v]}).objs.size:=by simpa using hb
  subst e;exact I1.fpOk (Qi _) (I1.hok.fresh (Qi _))
def q70 (fp:List Addr) (h:Heap):List (Addr×Obj):=fp.filterMap λ b=>(h.get? b).map λ o=>(b,o)
theorem q1c {h:Heap}{b:Addr}{o:Obj}(hb:b∈fp) (e:h.get? b=some o):(b,o)∈q70 fp h:=List.mem_filterMap.mpr ⟨b,hb,by rw[e];rfl⟩
theorem qAx {h:Heap}{p:Addr×Obj}(hp:p∈q70 fp h):p.1∈fp/\h.get? p.1=some p.2:=by
 obtain⟨b,hb,e⟩:=List.mem_filterMap.mp hp;cases q:h.get? b with
 |none=>rw[q] at e;cases e
 |some o =>
  rw[q] at e;have e':(b,o)=p:=QR.inj e;subst e';exact⟨hb,q⟩
theorem Inv.pinned (I:Inv X pins σ H s) (hf:∀b∈fp,FpOk X pins H b) (ho:∀b∈fp,∃o,s.heap.get? b=some o/\∀v,o.data ≠ .cell v):Inv X (pins++q70 fp s.heap) σ H s :=
 I.q6A λ p hp=>(Qq.mp hp).elim (λ z=>I.pin p (Qp _ z)) λ z=>by obtain⟨hb,e⟩:=qAx z;obtain⟨f0,f1,f2,_⟩:=hf p.1 hb;obtain⟨o,e',d⟩:=ho p.1 hb;rw[e] at e';cases e';exact⟨e,f0,f1,f2,d⟩
theorem Inv.q1A {pl:List (Addr×Obj)}(I:Inv X (pins++pl) σ H s):Inv X pins σ H s:=I.q6A λ p hp=>I.pin p (Qp _ (QB _ hp))
end
end L2
namespace L2
open PySem PySem.Spec PyProof.Rows
variable {f:Value->Value->Sem Value}
abbrev R2:=V->V->Hp->VK->Prop
def OpR (X:Cx) (f:Value->Value->Sem Value) (r:R2):Prop :=
 ∀(pins:List (Addr×Obj)) (s:Shared) (σ:St) (H:Hp) (x y:V) (v u:Value) (Q:VK),Inv X pins σ H s->RelV x v->RelV y u->r x y H Q->
  wpAny (model X.prog X.w) X.A (f v u) (EP X pins σ Q) X.xe s
def qDK (X:Cx) (f:Value) (r:List V->Hp->VK->Prop):Prop :=
 ∀(pins:List (Addr×Obj)) (s:Shared) (σ:St) (H:Hp) (xs:List V) (us:List Value) (Q:VK),Inv X pins σ H s->Vals xs us->r xs H Q->
  wpAny (model X.prog X.w) X.A (call f us) (EP X pins σ Q) X.xe s
def TruR (X:Cx) (r:V->Hp->(Bool->Hp->Prop)->Prop):Prop :=
 ∀(pins:List (Addr×Obj)) (s:Shared) (σ:St) (H:Hp) (x:V) (v:Value) (Q:Bool->Hp->Prop),Inv X pins σ H s->RelV x v->r x H Q->
  wpAny (model X.prog X.w) X.A (truthy v) (TP X pins σ Q) X.xe s
def rI (C:Int->Int->Prop) (g:Int->Int->V):R2:=λ x y H Q=>∃i j,x = .int i/\y = .int j/\C i j/\Q (g i j) H
def rI0 (g:Int->Int->V):R2:=λ x y H Q=>∃i j,x = .int i/\y = .int j/\Q (g i j) H
section
variable {X:Cx}{a b c:Expr}{ta tb tc:TE}{pos:Pos}
theorem opI {f:Value->Value->Sem Value}{C:Int->Int->Prop}{g:Int->Int->Int}
  (rule:∀(i j:Int) (t u:Tok) (s:Shared) (Q:Value->Shared->Prop) (E:Value->Shared->Prop),C i j->Q (.int (g i j) s.toks) {s with toks:=s.toks+1}->wpAny (model X.prog X.w) X.A (f (.int i t) (.int j u)) Q E s) :
  OpR X f (rI C λ i j=> .int (g i j)):=by
 intro pins s σ H x y v u Q I rx ry h;obtain⟨i,j,rfl,rfl,hc,q⟩:=h;obtain⟨t,rfl⟩:=rx;obtain⟨t',rfl⟩:=ry;exact rule i j t t' s _ _ hc ⟨.int (g i j),H,I.tok _,⟨_,rfl⟩,q⟩
theorem opI0 {f:Value->Value->Sem Value}{g:Int->Int->Int}
  (rule:∀(i j:Int) (t u:Tok) (s:Shared) (Q:Value->Shared->Prop) (E:Value->Shared->Prop),Q (.int (g i j) s.toks) {s with toks:=s.toks+1}->wpAny (model X.prog X.w) X.A (f (.int i t) (.int j u)) Q E s) :
  OpR X f (rI0 λ i j=> .int (g i j)):=by
 intro pins s σ H x y v u Q I rx ry h;obtain⟨i,j,rfl,rfl,q⟩:=h;obtain⟨t,rfl⟩:=rx;obtain⟨t',rfl⟩:=ry;exact rule i j t t' s _ _ ⟨.int (g i j),H,I.tok _,⟨_,rfl⟩,q⟩
theorem opB0 {g:Int->Int->Bool}
  (rule:∀(i j:Int) (t u:Tok) (s:Shared) (Q:Value->Shared->Prop) (E:Value->Shared->Prop),Q (.bool (g i j)) s->wpAny (model X.prog X.w) X.A (f (.int i t) (.int j u)) Q E s) :
  OpR X f (rI0 λ i j=> .bl (g i j)):=by
 intro pins s σ H x y v u Q I rx ry h;obtain⟨i,j,rfl,rfl,q⟩:=h;obtain⟨t,rfl⟩:=rx;obtain⟨t',rfl⟩:=ry;exact rule i j t t' s _ _ ⟨.bl (g i j),H,I,rfl,q⟩
def CDiv (i j:Int):Prop:=0<j/\j<1073741824
def CPow (i j:Int):Prop:=0<=j/\j<=1000000/\i.natAbs<2^64
def CMul (i j:Int):Prop:=(-(2^64)<i/\i<2^64)\/(-(2^64)<j/\j<2^64)
theorem CMul.ok {i j:Int}(h:CMul i j):IntMulOk i j:=by
 rcases h with ⟨h1,h2⟩|⟨h1,h2⟩
 ·exact .of_left (intBits_le_64 h1 h2)
 ·exact .of_right (intBits_le_64 h1 h2)
theorem q5e (k:Nat):(0:Int)<=2^k:=by rw[two_pow_cast];exact Int.natCast_nonneg _
theorem qHy:OpR X (binaryOp .Add) (rI0 λ i j=> .int (i+j)):=opI0 λ _ _ _ _ _ _ _ q=>add_int q
theorem qHz:OpR X (binaryOp .Sub) (rI0 λ i j=> .int (i-j)):=opI0 λ _ _ _ _ _ _ _ q=>sub_int q
theorem qI0:OpR X (binaryOp .Mult) (rI CMul λ i j=> .int (i*j)):=opI λ _ _ _ _ _ _ _ hc q=>mul_int q hc.ok
theorem qFU:OpR X (binaryOp .FloorDiv) (rI CDiv λ i j=> .int (i / j)):=opI λ i j _ _ _ _ _ hc q=>by have h1:(0:Int)<j:=hc.1;have h2:j<1073741824:=hc.2;exact floordiv_int (by lia) (by rw[Int.fdiv_eq_ediv_of_nonneg i (by lia)];exact q) (.inl (PyProof.noPylong_small (by lia)))
theorem qI1:OpR X (binaryOp .Mod) (rI (λ _ j=>0<j) λ i j=> .int (i % j)):=opI λ i j _ _ _ _ _ hc q=>by have h1:(0:Int)<j:=hc;exact mod_int' (by lia) (by rw[Int.fmod_eq_emod_of_nonneg i (by lia)];exact q)
theorem qI2:OpR X (binaryOp .LShift) (rI CPow λ i j=> .int (i*2^j.toNat)):=opI λ _ _ _ _ _ _ _ hc q=>lshift_int_small hc.1 hc.2.1 hc.2.2 q
theorem qI3:OpR X (binaryOp .RShift) (rI (λ _ j=>0<=j) λ i j=> .int (i / 2^j.toNat)):=opI λ i j _ _ _ _ _ hc q =>
 rshift_int hc (by rw[Int.fdiv_eq_ediv_of_nonneg i (q5e _)];exact q)
theorem qI4:OpR X (binaryOp .BitAnd) (rI0 λ i j=> .int (Builtin.bitAnd i j)):=opI0 λ _ _ _ _ _ _ _ q=>and_int q
theorem qKc:OpR X (binaryOp .BitOr) (rI0 λ i j=> .int (Builtin.bitOr i j)):=opI0 λ _ _ _ _ _ _ _ q=>or_int q
theorem qI5:OpR X (binaryOp .BitXor) (rI0 λ i j=> .int (Builtin.bitXor i j)):=opI0 λ _ _ _ _ _ _ _ q=>xor_int q
theorem qFV:OpR X (inplaceOp .Add) (rI0 λ i j=> .int (i+j)):=opI0 λ _ _ _ _ _ _ _ q=>iadd_int q
theorem qFW:OpR X (inplaceOp .Sub) (rI0 λ i j=> .int (i-j)):=opI0 λ _ _ _ _ _ _ _ q=>isub_int q
theorem qFX:OpR X (inplaceOp .Mult) (rI CMul λ i j=> .int (i*j)):=opI λ _ _ _ _ _ _ _ hc q=>imul_int q hc.ok
theorem qDL:OpR X (inplaceOp .FloorDiv) (rI CDiv λ i j=> .int (i / j)):=opI λ i j _ _ _ _ _ hc q=>by have h1:(0:Int)<j:=hc.1;have h2:j<1073741824:=hc.2;exact ifloordiv_int (by lia) (by rw[Int.fdiv_eq_ediv_of_nonneg i (by lia)];exact q) (.inl (PyProof.noPylong_small (by lia)))
theorem qFY:OpR X (inplaceOp .Mod) (rI (λ _ j=>0<j) λ i j=> .int (i % j)):=opI λ i j _ _ _ _ _ hc q=>by have h1:(0:Int)<j:=hc;exact imod_int (by lia) (by rw[Int.fmod_eq_emod_of_nonneg i (by lia)];exact q)
theorem qFZ:OpR X (inplaceOp .LShift) (rI CPow λ i j=> .int (i*2^j.toNat)):=opI λ _ _ _ _ _ _ _ hc q=>ilshift_int_small hc.1 hc.2.1 hc.2.2 q
theorem qFa:OpR X (inplaceOp .RShift) (rI (λ _ j=>0<=j) λ i j=> .int (i / 2^j.toNat)):=opI λ i j _ _ _ _ _ hc q =>
 irshift_int hc (by rw[Int.fdiv_eq_ediv_of_nonneg i (q5e _)];exact q)
theorem qFb:OpR X (inplaceOp .BitAnd) (rI0 λ i j=> .int (Builtin.bitAnd i j)):=opI0 λ _ _ _ _ _ _ _ q=>iand_int q
theorem qI6:OpR X (inplaceOp .BitOr) (rI0 λ i j=> .int (Builtin.bitOr i j)):=opI0 λ _ _ _ _ _ _ _ q=>ior_int q
theorem qFc:OpR X (inplaceOp .BitXor) (rI0 λ i j=> .int (Builtin.bitXor i j)):=opI0 λ _ _ _ _ _ _ _ q=>ixor_int q
end
section
variable {X:Cx}{a b c:Expr}{ta tb tc:TE}{pos:Pos}
theorem q2o {pins:List (Addr×Obj)}{σ:St}{H:Hp}{s:Shared}{Q:VK}{k k':Bool}(I:Inv X pins σ H s) (q:Q (.bl k) H) (e:k=k'):EP X pins σ Q (.bool k') s:=by subst e;exact⟨.bl k,H,I,rfl,q⟩
theorem qKd:OpR X (compareOp .LtE) (rI0 λ i j=> .bl (decide (i<=j))):=opB0 λ _ _ _ _ _ _ _ q=>le_int q
theorem qKe:OpR X (compareOp .Gt) (rI0 λ i j=> .bl (decide (j<i))):=opB0 λ _ _ _ _ _ _ _ q=>gt_int q
theorem qI7:OpR X (compareOp .Is) (λ x y H Q=>y = .non/\Q (.bl (decide (x = .non))) H):=by
 intro pins s σ H x y v u Q I rx ry h;obtain⟨rfl,q⟩:=h;cases ry;refine is_none_gen (q2o I q ?_);cases x<;>first
  |(cases rx;rfl)
  |(obtain⟨t,rfl⟩:=rx;rfl)
theorem qFd:OpR X (compareOp .IsNot) (λ x y H Q=>y = .non/\Q (.bl (!decide (x = .non))) H):=by
 intro pins s σ H x y v u Q I rx ry h;obtain⟨rfl,q⟩:=h;cases ry;refine isnot_none_gen (q2o I q ?_);cases x<;>first
  |(cases rx;rfl)
  |(obtain⟨t,rfl⟩:=rx;rfl)
def TruV (K:PySem.W.Frag) (x:V) (H:Hp) (k:Bool):Prop :=
 match x with
 | .non=>k=false
 | .bl b=>k=b
 | .int i=>k=(i != 0)
 | .str y=>y.length<=sizeLine/\k=((y.length:Int) != 0)
 | .byt y=>y.size<=sizeLine/\k=((y.size:Int) != 0)
 | .ref p=>(∃xs,SqL K H p xs/\k=!xs.isEmpty)\/(∃xs,SqT K H p xs/\k=!xs.isEmpty)\/∃kvs,H p=some (.dK kvs)/\k=!kvs.isEmpty
 |_=>False
theorem qAG {κ:Type}{kvs:List (κ×V)}{vs:List (κ×Value)}(r:KV kvs vs):(!vs.isEmpty)=!kvs.isEmpty:=by cases r<;>rfl
theorem q5f {xs:List V}{its:List Value}(r:Vals xs its):(!its.toArray.isEmpty)=!xs.isEmpty:=by cases r<;>simp
theorem q71:(sizeLine:Nat)<2^63:=by rw[sizeLine_eq];decide
theorem qI8:TruR X (λ x H Q=>∃k,TruV X.K x H k/\Q k H):=by
 intro pins s σ H x v Q I rx h;obtain⟨k,e,q⟩:=h;have hl:=q71;have hs:sizeLine=16777216:=sizeLine_eq;cases x with
 |non =>
  cases rx;have e':k=false:=e;subst e';exact truthy_none ⟨H,I,q⟩
 |bl b =>
  cases rx;have e':k=b:=e;subst e';exact wpAny_truthy_bool ⟨H,I,q⟩
 |int i =>
  obtain⟨t,rfl⟩:=rx;have e':k=(i != 0):=e;subst e';exact PySem.P.truthy_int ⟨H,I,q⟩
 |str y =>
  obtain⟨t,rfl⟩:=rx;obtain⟨hy,e'⟩:y.length<=sizeLine/\k=((y.length:Int) != 0):=e;subst e';exact PySem.P.truthy_str (by lia) ⟨H,I.tok _,q⟩
 |byt y =>
  obtain⟨t,rfl⟩:=rx;obtain⟨hy,e'⟩:y.size<=sizeLine/\k=((y.size:Int) != 0):=e;subst e';exact PySem.W.truthy_bytes (by lia) ⟨H,I.tok _,q⟩
 |ref p =>
  cases rx;have e':(∃xs,SqL X.K H p xs/\k=!xs.isEmpty)\/(∃xs,SqT X.K H p xs/\k=!xs.isEmpty)\/∃kvs,H p=some (.dK kvs)/\k=!kvs.isEmpty:=e;rcases e' with ⟨xs,hx,e'⟩|⟨xs,hx,e'⟩|⟨kvs,hx,e'⟩
  ·subst e';obtain⟨its,r,pl,hz⟩:=I.list hx;have hlen:=r.length;exact wpAny_truthy_list pl.isList (by simp only[Qo];lia) ⟨H,I.tok _,by rw[q5f r];exact q⟩
  ·subst e';obtain⟨its,r,pl,hz⟩:=I.tuple hx;have hlen:=r.length;exact truthy_tuple pl (by simp only[Qo];lia) ⟨H,I.tok _,by rw[q5f r];exact q⟩
  ·subst e';obtain⟨hz,hS,vs,r,m⟩:kvs.length<=sizeLine/\(p==sysModules)=false/\∃vs,KV kvs vs/\s.heap.DictOf (q0k X.prog X.w) p vs:=I.hok p _ hx;have hlen:kvs.length=vs.length:=Paired.length r;exact wpAny_truthy_dict hS m (by lia) ⟨H,I.tok _,by rw[qAG r];exact q⟩
 |_=>exact (show False from e).elim
theorem qAH:OpR X (binaryOp .Add) (λ x y H Q=>∃i j,x = .str i/\y = .str j/\i.length+j.length<=sizeLine/\Q (.str (i++j)) H):=by intro pins s σ H x y v u Q I rx ry h;obtain⟨i,j,rfl,rfl,hz,q⟩:=h;obtain⟨t,rfl⟩:=rx;obtain⟨t',rfl⟩:=ry;exact add_str (λ t' tk=>⟨.str (i++j),H,I.tok _,⟨_,rfl⟩,q⟩) hz
theorem vals1 {x:V}{us:List Value}(r:Vals [x] us):∃u,us=[u]/\RelV x u:=by
 cases r with
 |cons r1 r2=>cases r2;exact⟨_,rfl,r1⟩
end
end L2
namespace L2
open PySem PySem.Spec PyProof.Rows
theorem RelO.some_of {v:V}{o:Option Value}(r:RelO (some v) o):∃u,o=some u/\RelV v u:=by
 cases o with
 |none=>exact (show False from r).elim
 |some u=>exact⟨u,rfl,r⟩
end L2
namespace L2
open PySem PySem.Spec PyProof.Rows
variable {A:Around}{K:PySem.W.Frag}
structure Room (k:Nat) (A:Around):Prop where
 hd:A.handled=none
 dp:A.depth+3*k+5<recursionLimit
 un:A.units+16*k+200<cLine
theorem Room.mono {j k:Nat}(r:Room k A) (h:j<=k):Room j A:=⟨r.hd,by have:=r.dp;lia,by have:=r.un;lia⟩
theorem Room.deeper {k:Nat}(r:Room (k+1) A) (env:Env):Room k (A.deeper env) :=
 ⟨r.hd,by have:=r.dp;show A.depth+1+3*k+5<_;lia,by have:=r.un;show A.units+3+16*k+200<_;lia⟩
theorem Room.depth {k:Nat}(r:Room k A):A.depth<recursionLimit:=by have:=r.dp;lia
theorem Room.units {k:Nat}(r:Room k A):A.units+64<cLine:=by have:=r.un;lia
abbrev Sp:=List V->Hp->VK->XK->Prop
abbrev CXT:=List Env->Hp->Shared->XK->Value->Shared->Prop
structure Env0 (P:Program) (w:World) (K:PySem.W.Frag) (mg:Str->Option Value) (base:Heap) (A:Around) (outer:List Env) (s:Shared) (H:Hp):Prop where
 frames:A.frames=some outer
 mod:Mod K mg base
 bs:∀b o,base.get? b=some o->s.heap.get? b=some o/\H b=none
 bsz:base.objs.size<=s.heap.objs.size
 funs:s.heap.FunFrames base outer
 frf:∀b∈frs outer,H b=none
 hok:HOk P w H s.heap
 bare:AllBare s.gens
def CE (outer:List Env) (P:Program) (w:World) (H:Hp) (s:Shared) (Q:VK) (u:Value) (s':Shared):Prop :=
 ∃v H',s'.os=s.os/\AllBare s'.gens/\Un (frs outer) [] H H' s.heap s'.heap/\HOk P w H' s'.heap/\RelV v u/\Q v H'
def CR (CX:CXT) (outer:List Env) (P:Program) (w:World) (H:Hp) (s:Shared) (Q:VK) (E:XK) (r:Result) (s':Shared):Prop :=
 match r with
 | .ok (.ret u)=>CE outer P w H s Q u s'
 | .ok _=>False
 | .error e=>CX outer H s E e s'
structure FnOk (P:Program) (w:World) (K:PySem.W.Frag) (mg:Str->Option Value) (base:Heap) (CX:CXT) (k:Nat) (f:Addr) (fd:FuncData) (ps:List Str) (sp:Sp):Prop where
 len:∀vs H Q E,sp vs H Q E->vs.length=ps.length
 run:∀(A:Around) (outer:List Env) (s:Shared) (H:Hp) (args:Args) (us:List Value) (vs:List V) (Q:VK) (E:XK),Room k A->Env0 P w K mg base A outer s H->BindsTo s fd args (ps.zip us)->Vals vs us->sp vs H Q E->
  codeAny (model P w) A (.call (.ref f) args) (CR CX outer P w H s Q E) s
theorem FnOk.imp {P:Program}{w:World}{mg:Str->Option Value}{base:Heap}{CX:CXT}{k:Nat}{f:Addr}{fd:FuncData}{ps:List Str}{sp sp':Sp}(F:FnOk P w K mg base CX k f fd ps sp)
  (h:∀vs H Q E,sp' vs H Q E->sp vs H Q E):FnOk P w K mg base CX k f fd ps sp' :=
 ⟨λ vs H Q E q=>F.len vs H Q E (h _ _ _ _ q),λ A outer s H args us vs Q E hr he hb hv hs=>F.run A outer s H args us vs Q E hr he hb hv (h _ _ _ _ hs)⟩
section
variable {X:Cx}{pins:List (Addr×Obj)}{σ:St}{H:Hp}{s s':Shared}
theorem Inv.env0 (I:Inv X pins σ H s):Env0 X.prog X.w X.K X.mg X.base X.A X.stack s H :=
 ⟨I.ok.frames,I.ok.mod,I.bs,Qr I.ok.bsz I.sz,I.stack,I.q8D,I.hok,I.bare⟩
theorem Inv.after {Q:VK}{u:Value}(I:Inv X pins σ H s) (h:CE X.stack X.prog X.w H s Q u s'):EP X pins σ Q u s':=by obtain⟨v,H',os,bare,un,hok,r,q⟩:=h;obtain⟨hh,g,d,t,os'⟩:=s';obtain rfl:os'=s.os:=os;exact⟨v,H',I.call (h':=hh) (g':=g) (d':=d) (t':=t) (ch:=[]) un hok bare (λ b z=>absurd z (by simp)),r,q⟩
end
def Binds (K:PySem.W.Frag) (fd:FuncData) (ps:List Str) (ds:List Value):Prop :=
 ∀(s:Shared) (us:List Value),K.In s.heap->(us++ds).length=ps.length->BindsTo s fd ⟨us,[]⟩ (ps.zip (us++ds))
theorem Binds.all {fd:FuncData}{ps:List Str}(h:∀us:List Value,us.length=ps.length->bindArgs fd ⟨us,[]⟩=pure (ps.zip us)):Binds K fd ps []:=λ s us _ hl=>by rw[Q2] at hl |-;exact .of_eq (h us hl)
section
variable {X:Cx}{CX:CXT}{k:Nat}{f C:Addr}{fd:FuncData}{ps:List Str}{sp:Sp}{dvs:List V}{ds:List Value}{E:XK}{x m:Str}{p pos apos:Pos}{e o:Expr}{es:List Expr}{ta:TE}{t:TA}
structure Mk (K:PySem.W.Frag) (C f:Addr):Prop where
 makes:PySem.W.makesIn K C=true
 init:PySem.W.findIn K (.ref C) "__init__" = some (some (.ref f))
 fn:PySem.W.isFn K (.ref f)=true
 kp:PySem.W.keepIn K (.ref C)=true
end
structure FnScope (N P:List Str) (sc:Scope):Prop where
 kind:sc.kind = .function
 co:sc.isCoroutine=false
 gen:sc.isGenerator=false
 nd:N.Nodup
 pre:N.take P.length=P
 par:∀x∈P,sc.names.lookup x=some .local\/sc.names.lookup x=some .cell
 nofree:∀y∈sc.names,y.2 ≠ .free
theorem q72 {kindOf:Str->Option NameKind}{x:Str}:∀{binds:List (Str×Value)}{m:Str->Option Value},(∀v,(x,v)∉binds)->bindL kindOf binds m x=m x
 |[],_,_=>rfl
 |(n,v)::r,m,h=>by
  unfold bindL;rw[q72 λ w hw=>h w (Qa _ hw)];split
  ·have:x≠n:=(by rintro rfl;exact h v Qb);simp[this]
  ·rfl
theorem q73 {kindOf:Str->Option NameKind}{x:Str}:∀{binds:List (Str×Value)}{m:Str->Option Value},(∀v,(x,v)∉binds)->bindC kindOf binds m x=m x
 |[],_,_=>rfl
 |(n,v)::r,m,h=>by
  unfold bindC;rw[q73 λ w hw=>h w (Qa _ hw)];split
  ·rfl
  ·have:x≠n:=(by rintro rfl;exact h v Qb);simp[this]
theorem q74 {kindOf:Str->Option NameKind}{x:Str}{v:Value}:∀{P:List Str}{vs:List Value}{i:Nat}{m:Str->Option Value},P.Nodup->P[i]? = some x->vs[i]? = some v->kindOf x=some .local->
  bindL kindOf (P.zip vs) m x=some v
 |[],_,_,_,_,h,_,_=>by simp at h
 |_::_,[],_,_,_,_,h,_=>by simp at h
 |p::P,w::vs,0,m,nd,h1,h2,hk=>by simp at h1 h2;subst h1;subst h2;show bindL kindOf ((p,w)::P.zip vs) m p=_;unfold bindL;rw[q72 λ v hv=>(QG.mp nd).1 (List.of_mem_zip hv).1,if_pos hk];simp
 |p::P,w::vs,i+1,m,nd,h1,h2,hk=>by show bindL kindOf ((p,w)::P.zip vs) m x=_;unfold bindL;exact q74 (i:=i) (QG.mp nd).2 (by simpa using h1) (by simpa using h2) hk
theorem q75 {kindOf:Str->Option NameKind}{x:Str}{v:Value}:∀{P:List Str}{vs:List Value}{i:Nat}{m:Str->Option Value},P.Nodup->P[i]? = some x->vs[i]? = some v->kindOf x≠some .local->
  bindC kindOf (P.zip vs) m x=some v
 |[],_,_,_,_,h,_,_=>by simp at h
 |_::_,[],_,_,_,_,h,_=>by simp at h
 |p::P,w::vs,0,m,nd,h1,h2,hk=>by simp at h1 h2;subst h1;subst h2;show bindC kindOf ((p,w)::P.zip vs) m p=_;unfold bindC;rw[q73 λ v hv=>(QG.mp nd).1 (List.of_mem_zip hv).1,if_neg hk];simp
 |p::P,w::vs,i+1,m,nd,h1,h2,hk=>by show bindC kindOf ((p,w)::P.zip vs) m x=_;unfold bindC;exact q75 (i:=i) (QG.mp nd).2 (by simpa using h1) (by simpa using h2) hk
def start (N:List Str) (vs:List V):St:=vs.map some++Qh (N.length-vs.length) none
def cxOf (CX:CXT) (P:Program) (w:World) (K:PySem.W.Frag) (mg:Str->Option Value) (base:Heap) (N:List Str) (qual:Str) (scope:Scope) (f:Addr) (cd:Value) (A:Around) (outer:List Env) (s:Shared) (H:Hp) (E:XK):Cx where
 prog:=P
 w:=w
 K:=K
 mg:=mg
 base:=base
 A:=A.deeper (envOfC qual scope s.heap.objs.size f cd)
 N:=N
 s₀:=s
 H₀:=H
 env:=envOfC qual scope s.heap.objs.size f cd
 outer:=outer
 stack:=envOfC qual scope s.heap.objs.size f cd::outer
 ex:=[]
 calm:=true
 fn:=λ _=>true
 pn:=[]
 xe:=λ e s'=>wpAny (model P w) (A.deeper (envOfC qual scope s.heap.objs.size f cd)) (leaving (envOfC qual scope s.heap.objs.size f cd) e) (λ _ s''=>CX outer H s E e s'') (λ e' s''=>CX outer H s E e' s'') s'
theorem q97 {sc:Scope}{n:Nat}{x:Str}(h:sc.names.lookup x=some .cell):∃c,(cellsFrom n sc.names []).lookup x=some c:=by have q:=PySem.W.cellsFrom_some sc.names n [] (.inl h);exact Option.isSome_iff_exists.mp q
theorem qAy {CX:CXT}{P:Program}{w:World}{mg:Str->Option Value}{base:Heap}{N ps:List Str}{qual:Str}{scope:Scope}{f:Addr}{cd:Value}{outer:List Env}{s s1:Shared}{H:Hp}{E:XK}{us:List Value}{vs:List V}
  (S:FnScope N ps scope) (hd:A.handled=none) (e0:Env0 P w K mg base A outer s H) (hl:vs.length=ps.length) (r:Vals vs us)
  (x:InCallC s s.heap.objs.size (bindL (envOfC qual scope s.heap.objs.size f cd).kindOf (ps.zip us) λ _=>none) (cellsFrom (s.heap.objs.size+1) scope.names []) (bindC (envOfC qual scope s.heap.objs.size f cd).kindOf (ps.zip us) λ _=>none) s1) :
  Inv (cxOf CX P w K mg base N qual scope f cd A outer s H E) [] (start N vs) H s1:=by
 have hpl:ps.length<=N.length:=by have:=congrArg List.length S.pre;rw[List.length_take] at this;lia
 obtain⟨h1,tk,rfl,hk⟩:=x.done;have noA:∀b:Addr,b∉(cxOf CX P w K mg base N qual scope f cd A outer s H E).ex:=λ b z=>absurd (show b∈([]:List Addr) from z) (by simp);refine⟨⟨e0.mod,S.kind,rfl,rfl,Qi _,λ y z c h1 h2=>?_,λ y hy=>?_,λ y c _ h=>?_,λ _=>hd,Around.frames_deeper e0.frames,.inr ⟨rfl,rfl⟩,λ b z=>absurd z (noA b),e0.bs,e0.bsz,λ b _ _=>noA b,λ b z=>absurd z (noA b),e0.funs,e0.frf⟩,
  rfl,e0.bare,Un.kept hk,⟨_,x.toInCall.ns,λ i y v h1 h2 h3=>?_⟩,λ y c h=>⟨_,x.cell y c h⟩,e0.hok.fresh (Qi _),λ y c h=>?_,λ p hp=>absurd (show p∈([]:List (Addr×Obj)) from hp) (by simp),e0.hok.kept hk,?_⟩
 ·exact name_of_addr x.apart (PySem.mem_of_lookup h1) (PySem.mem_of_lookup h2)
 ·have hy:scope.names.lookup y=some .cell\/scope.names.lookup y=some .free:=hy;rcases hy with hy|hy
  ·exact q97 hy
  ·exact absurd rfl (S.nofree _ (PySem.mem_of_lookup hy))
 ·exact Nat.le_of_lt (x.above y c (PySem.mem_of_lookup h))
 ·have hi:i<vs.length:=by
   unfold start at h2
   by_cases hi:i<vs.length
   ·exact hi
   ·rw[QU (by simpa using hi)] at h2;rw[List.getElem?_replicate] at h2;split at h2<;>cases h2
  have ha:vs[i]? = some v:=by
   unfold start at h2;rw[QH (by simpa using hi),Qt] at h2;cases e:vs[i]? with
   |none=>rw[e] at h2;cases h2
   |some a=>rw[e] at h2;cases h2;rfl
  obtain⟨u,hu,rv⟩:=r.get ha;have hp:ps[i]? = some y:=by rw[<-S.pre,List.getElem?_take_of_lt (by lia)];exact h1
  have ndP:ps.Nodup:=by rw[<-S.pre];exact S.nd.sublist (List.take_sublist _ _)
  refine⟨u,rv,?_⟩;rcases S.par y (Qm hp) with k|k
  ·exact .inl ⟨k,q74 ndP hp hu k⟩
  ·obtain⟨c,e⟩:=q97 (n:=s.heap.objs.size+1) k;refine .inr ⟨.inl k,c,e,?_⟩;have q:=x.cell y c e;rw[q75 ndP hp hu (by show scope.names.lookup y≠_;rw[k];decide)] at q;exact q
 ·exact e0.hok.fresh (Nat.le_of_lt (x.above y c (PySem.mem_of_lookup h)))
 ·unfold start;show _=N.length;rw[QA,Qe,Q7];lia
end L2
namespace L2
open PySem PySem.Spec PyProof.Rows
variable {xs:List (List Key×Addr×Value)}{H':Hp}{Q:Value->Shared->Prop}
section
variable {κ:Type}[DecidableEq κ]
def valV (kvs:List (κ×V)) (k:κ):Option V:=(kvs.find? λ kv=>decide (kv.1=k)).map (·.2)
def putK (kvs:List (κ×V)) (k:κ) (v:V):List (κ×V) :=
 if (kvs.any λ kv=>decide (kv.1=k))=true then kvs.map (λ kv=>if kv.1=k then (kv.1,v) else kv) else kvs++[(k,v)]
theorem q3E {p:κ×V}{r:List (κ×V)}{k:κ}(e:p.1=k):valV (p::r) k=some p.2:=by simp[valV,JB,e]
theorem q2f {p:κ×V}{r:List (κ×V)}{k:κ}(e:¬p.1=k):valV (p::r) k=valV r k:=by simp[valV,JB,e]
theorem q98 (k:κ):∀kvs:List (κ×V),(kvs.any λ kv=>decide (kv.1=k))=(valV kvs k).isSome
 |[]=>rfl
 |p::r=>by
  rw[Q3]
  by_cases e:p.1=k
  ·simp only[q3E e,decide_eq_true e,Bool.true_or,Option.isSome_some]
  ·rw[q2f e,decide_eq_false e,Bool.false_or];exact q98 k r
theorem q4p (kvs:List (κ×V)) (k:κ) (v:V):(putK kvs k v).length<=kvs.length+1:=by
 unfold putK;split
 ·rw[Qe];lia
 ·rw[QA,Qu,Q4];lia
theorem RelO.q2P {o:Option V}{u:Option Value}(r:RelO o u):o.isSome=u.isSome:=by
 cases o with
 |none=>cases u with
  |none=>rfl
  |some _=>exact (show False from r).elim
 |some _=>cases u with
  |none=>exact (show False from r).elim
  |some _=>rfl
theorem KV.val {kvs:List (κ×V)}{vs:List (κ×Value)}(r:KV kvs vs) (k:κ):RelO (valV kvs k) (valueAt vs k):=by
 unfold KV at r
 induction r with
 |nil=>exact True.intro
 |@cons p q ps qs h t ih =>
  obtain⟨h1,h2⟩:=h
  by_cases e:p.1=k
  ·have e':q.1=k:=h1.symm.trans e;have b:valueAt (q::qs) k=some q.2:=(by simp[valueAt,JB,e']);rw[q3E e,b];exact h2
  ·have e':¬q.1=k:=λ z=>e (h1.trans z);have b:valueAt (q::qs) k=valueAt qs k:=(by simp[valueAt,JB,e']);rw[q2f e,b];exact ih
theorem KV.any {kvs:List (κ×V)}{vs:List (κ×Value)}(r:KV kvs vs) (k:κ):(kvs.any λ kv=>decide (kv.1=k))=vs.any λ kv=>decide (kv.1=k):=by
 unfold KV at r
 induction r with
 |nil=>rfl
 |cons h t ih=>rw[Q3,Q3,ih,h.1]
theorem KV.repl {kvs:List (κ×V)}{vs:List (κ×Value)}(r:KV kvs vs) (k:κ) {y:V}{u:Value}(ry:RelV y u) :
  KV (kvs.map λ kv=>if kv.1=k then (kv.1,y) else kv) (vs.map λ kv=>if kv.1=k then (kv.1,u) else kv):=by
 unfold KV at r |-
 induction r with
 |nil=>exact .nil
 |@cons p q ps qs h t ih =>
  rw[Qv,Qv];refine .cons ?_ ih;obtain⟨h1,h2⟩:=h
  by_cases e:p.1=k
  ·rw[if_pos e,if_pos (h1.symm.trans e)];exact⟨h1,ry⟩
  ·rw[if_neg e,if_neg (λ z=>e (h1.trans z))];exact⟨h1,h2⟩
theorem KV.put {kvs:List (κ×V)}{vs:List (κ×Value)}(r:KV kvs vs) (k:κ) {y:V}{u:Value}(ry:RelV y u):KV (putK kvs k y) (stored vs k u):=by
 unfold putK stored;rw[r.any k]
 by_cases e:(vs.any λ kv=>decide (kv.1=k))=true
 ·rw[if_pos e,if_pos e];exact r.repl k ry
 ·rw[if_neg e,if_neg e];exact Paired.snoc r ⟨rfl,ry⟩
theorem KV.length {kvs:List (κ×V)}{vs:List (κ×Value)}(r:KV kvs vs):kvs.length=vs.length:=Paired.length r
end
theorem qAI {P:Program}{w:World}{k:Key}{u:Value}(r:RelV (kV k) u):(q0k P w).is k u=true:=by
 cases k with
 |inl i=>obtain⟨t,e⟩:=(show ∃t,u=Value.int i t from r);subst e;exact q8B P w i t
 |inr x=>obtain⟨t,e⟩:=(show ∃t,u=Value.str x t from r);subst e;exact q8C P w x t
theorem q76 {P:Program}{w:World}:∀{ks:List Key}{us:List Value},Vals (ks.map kV) us->ItemsAre (q0k P w) ks us
 |[],_,r=>by rw[List.map_nil] at r;cases r;exact .nil
 |k::ks,_,r=>by
  rw[Qv] at r;cases r with
  |cons h t=>exact .cons (qAI h) (q76 t)
abbrev KT (H:Hp):List (List Key×V)->List (List Key×Addr×Value)->Prop:=Paired λ p q=>p.1=q.1/\H q.2.1=some (.tup (p.1.map kV))/\RelV p.2 q.2.2
theorem KT.val {H:Hp}{kvs:List (List Key×V)}(r:KT H kvs xs) (k:List Key):RelO (valV kvs k) ((atKey xs k).map (·.2)):=by
 induction r with
 |nil=>exact True.intro
 |@cons p q ps qs h t ih =>
  obtain⟨h1,_,h2⟩:=h
  by_cases e:p.1=k
  ·have e':q.1=k:=h1.symm.trans e;have b:atKey (q::qs) k=some q.2:=(by simp[atKey,JB,e']);rw[q3E e,b];exact h2
  ·have e':¬q.1=k:=λ z=>e (h1.trans z);have b:atKey (q::qs) k=atKey qs k:=(by simp[atKey,JB,e']);rw[q2f e,b];exact ih
theorem KT.repl {H:Hp}{kvs:List (List Key×V)}(r:KT H kvs xs) (k:List Key) {y:V}{u:Value}(ry:RelV y u) :
  KT H (kvs.map λ kv=>if kv.1=k then (kv.1,y) else kv) (xs.map (putAt k u)):=by
 induction r with
 |nil=>exact .nil
 |@cons p q ps qs h t ih =>
  rw[Qv,Qv];refine .cons ?_ ih;obtain⟨h1,h2,h3⟩:=h;unfold putAt
  by_cases e:p.1=k
  ·rw[if_pos e,if_pos (h1.symm.trans e)];exact⟨h1,h2,ry⟩
  ·rw[if_neg e,if_neg (λ z=>e (h1.trans z))];exact⟨h1,h2,h3⟩
theorem KT.put {H:Hp}{kvs:List (List Key×V)}(r:KT H kvs xs) (k:List Key) {b:Addr}{y:V}{u:Value}(hb:H b=some (.tup (k.map kV))) (ry:RelV y u) :
  KT H (putK kvs k y) (storedH xs k b u):=by
 have e:(kvs.any λ kv=>decide (kv.1=k))=(atKey xs k).isSome:=by rw[q98,(r.val k).q2P,Option.isSome_map]
 unfold putK storedH;rw[e]
 by_cases q:(atKey xs k).isSome=true
 ·rw[if_pos q,if_pos q];exact r.repl k ry
 ·rw[if_neg q,if_neg q];exact Paired.snoc r ⟨rfl,hb,ry⟩
theorem KT.keeps {H:Hp}{kvs:List (List Key×V)}(r:KT H kvs xs) (ht:∀b ys,H b=some (.tup ys)->H' b=some (.tup ys)):KT H' kvs xs :=
 Paired.mapP r λ _ _ z=>⟨z.1,ht _ _ z.2.1,z.2.2⟩
section
variable {P:Program}{w:World}{H:Hp}{h:Heap}{a:Addr}
theorem qI9 {u:HO}(ok:HOk P w H h) (e:Rd H a u):q1P P w H h a u:=e.ok ok
theorem q8E {kvs:List (Key×V)}(ok:HOk P w H h) (e:Rd H a (.dK kvs)):kvs.length<=sizeLine/\(a==sysModules)=false/\∃vs,KV kvs vs/\h.DictOf (q0k P w) a vs :=
 show q1P P w H h a (.dK kvs) from qI9 ok e
theorem qFe {kvs:List (Key×V)}(ok:HOk P w H h) (e:H a=some (.dK kvs)):kvs.length<=sizeLine/\(a==sysModules)=false/\∃vs,KV kvs vs/\h.DictOf (q0k P w) a vs:=q8E ok (.inl e)
theorem q77 {ks:List Key}(ok:HOk P w H h) (e:H a=some (.tup (ks.map kV))):(tupleKind (q0k P w)).is h ks a:=by
 obtain⟨_,its,r,o,h1,h2,n,h3⟩:=(show q1P P w H h a (.tup (ks.map kV)) from ok a _ e)
 exact⟨o,its.toArray,n,h1,h2,h3,by simpa using q76 r⟩
theorem qAz {kvs:List (List Key×V)}(ok:HOk P w H h) (e:Rd H a (.dT kvs)):kvs.length<=sizeLine/\(a==sysModules)=false/\
  ∃xs,KT H kvs xs/\h.DictOfH (tupleKind (q0k P w)) a xs:=by
 obtain⟨z,y,xs,r,o,es,ep,h1,h2,h3,h4,h5⟩:=(show q1P P w H h a (.dT kvs) from qI9 ok e)
 refine⟨z,y,xs,r,o,es,ep,h1,h2,h3,h4,λ x hx=>?_,h5⟩;have all:∀{l:List (List Key×V)}{m:List (List Key×Addr×Value)},KT H l m->∀x∈m,(tupleKind (q0k P w)).is h x.1 x.2.1:=by
  intro l m q
  induction q with
  |nil=>intro x hx;exact nomatch hx
  |@cons p q ps qs hq t ih =>
   intro x hx;rcases Qf.mp hx with e|hx
   ·subst e;exact q77 ok (by rw[<-hq.1];exact hq.2.1)
   ·exact ih x hx
 exact all r x hx
theorem qKf {kvs:List (List Key×V)}(ok:HOk P w H h) (e:H a=some (.dT kvs)):kvs.length<=sizeLine/\(a==sysModules)=false/\
  ∃xs,KT H kvs xs/\h.DictOfH (tupleKind (q0k P w)) a xs:=qAz ok (.inl e)
end
def DGet (H:Hp) (a:Addr) (y:V) (r:Option V):Prop :=
 (∃kvs k,Rd H a (.dK kvs)/\y=kV k/\r=valV kvs k)\/∃kvs k b,Rd H a (.dT kvs)/\y = .ref b/\H b=some (.tup (k.map kV))/\r=valV kvs k
def DPut (H:Hp) (a:Addr) (y v:V) (H':Hp):Prop :=
 (∃kvs k,H a=some (.dK kvs)/\y=kV k/\kvs.length<sizeLine/\H'=upd H a (.dK (putK kvs k v)))\/
 ∃kvs k b,H a=some (.dT kvs)/\y = .ref b/\H b=some (.tup (k.map kV))/\kvs.length<sizeLine/\H'=upd H a (.dT (putK kvs k v))
theorem DPut.k {H:Hp}{a:Addr}{kvs:List (Key×V)}{k:Key}{v:V}(e:H a=some (.dK kvs)) (hl:kvs.length<sizeLine):DPut H a (kV k) v (upd H a (.dK (putK kvs k v))):= .inl ⟨kvs,k,e,rfl,hl,rfl⟩
section
variable {X:Cx}{pins:List (Addr×Obj)}{σ:St}{H:Hp}{s:Shared}{a:Addr}{y v:V}{u r:Value}{o:Option V}{A:Around}{E:Value->Shared->Prop}
theorem Inv.big (I:Inv X pins σ H s):sysModules<s.heap.objs.size:=by have h:mainGlobals<s.heap.objs.size:=(I.mod.glob.keeps I.bk).lt;exact Nat.lt_trans (by decide) h
theorem qB0 (hu:A.units+1<cLine) (I:Inv X pins σ H s) (g:DGet H a y (some v)) (ry:RelV y u) (h:∀w' s',Inv X pins σ H s'->RelV v w'->Q w' s') :
  wpAny (model X.prog X.w) A (getItem (.ref a) u) Q E s:=by
 rcases g with ⟨kvs,k,e,ey,l⟩|⟨kvs,k,b,e,ey,eb,l⟩
 ·subst ey;obtain⟨z,hd,vs,rel,dd⟩:=q8E I.hok e;obtain⟨w',hw,rw'⟩:=RelO.some_of (v:=v) (o:=valueAt vs k) (by rw[l];exact rel.val k);exact wpAny_getItem_of (qAI ry) dd.mapOf hw (h w' _ (I.tok _) rw')
 ·subst ey;cases (show u=Value.ref b from ry);obtain⟨z,hd,xs,rel,dd⟩:=qAz I.hok e;obtain⟨w',hw,rw'⟩:=RelO.some_of (v:=v) (o:=(atKey xs k).map (·.2)) (by rw[l];exact rel.val k);obtain⟨p,hp,hp2⟩:=Jm.mp hw;refine wpAny_getItem_heap (tupleKind_room_in1 hu) (q77 I.hok eb) dd hp ?_;rw[hp2];exact h w' _ (I.tok _) rw'
theorem d_in (hu:A.units+1<cLine) (I:Inv X pins σ H s) (g:DGet H a y o) (ry:RelV y u) (h:∀s',Inv X pins σ H s'->Q (.bool o.isSome) s') :
  wpAny (model X.prog X.w) A (compareOp .In u (.ref a)) Q E s:=by
 rcases g with ⟨kvs,k,e,ey,l⟩|⟨kvs,k,b,e,ey,eb,l⟩
 ·subst ey;obtain⟨z,hd,vs,rel,dd⟩:=q8E I.hok e;refine wpAny_in_of (qAI ry) hd dd.mapOf ?_;rw[<-(rel.val k).q2P,<-l];exact h _ (I.tok _)
 ·subst ey;cases (show u=Value.ref b from ry);obtain⟨z,hd,xs,rel,dd⟩:=qAz I.hok e;refine wpAny_in_heap (tupleKind_room_in1 hu) (q77 I.hok eb) hd dd ?_;have q:=(rel.val k).q2P;rw[Option.isSome_map] at q;rw[<-q,<-l];exact h _ (I.tok _)
theorem qFf (hu:A.units+1<cLine) (I:Inv X pins σ H s) (g:DGet H a y o) (ry:RelV y u) (h:∀s',Inv X pins σ H s'->Q (.bool (!o.isSome)) s') :
  wpAny (model X.prog X.w) A (compareOp .NotIn u (.ref a)) Q E s:=by
 rcases g with ⟨kvs,k,e,ey,l⟩|⟨kvs,k,b,e,ey,eb,l⟩
 ·subst ey;obtain⟨z,hd,vs,rel,dd⟩:=q8E I.hok e;refine wpAny_notIn_of (qAI ry) hd dd.mapOf ?_;rw[<-(rel.val k).q2P,<-l];exact h _ (I.tok _)
 ·subst ey;cases (show u=Value.ref b from ry);obtain⟨z,hd,xs,rel,dd⟩:=qAz I.hok e;refine wpAny_notIn_heap (tupleKind_room_in1 hu) (q77 I.hok eb) hd dd ?_;have q:=(rel.val k).q2P;rw[Option.isSome_map] at q;rw[<-q,<-l];exact h _ (I.tok _)
theorem q8F {h':Heap}{t':Nat}{ob:HO}(I:Inv X pins σ H s) (mu:Mut (H a)) (hs:Heap.SameBut a s.heap h') (he:∃q,h'.get? a=some q) (new:q1P X.prog X.w (upd H a ob) h' a ob) :
  Inv X pins σ (upd H a ob) {s with heap:=h',toks:=t'} :=
 I.write (x:=a) (e:=a) mu (.inl rfl) (λ b q hb z=>(hs.2 b hb).trans z) he new
theorem qEm {P:Program}{w:World}{h':Heap}{kvs:List (Key×V)}{vs:List (Key×Value)}(z:kvs.length<=sizeLine) (hd:(a==sysModules)=false) (rel:KV kvs vs) (dd:h'.DictOf (q0k P w) a vs) :
  q1P P w H' h' a (.dK kvs):=⟨z,hd,vs,rel,dd⟩
theorem qB1 {Q:Unit->Shared->Prop}(hu:A.units+1<cLine) (I:Inv X pins σ H s) (g:DPut H a y v H') (ry:RelV y u) (rv:RelV v r) (h:∀s',Inv X pins σ H' s'->Q () s') :
  wpAny (model X.prog X.w) A (setItem (.ref a) u r) Q E s:=by
 rcases g with ⟨kvs,k,e,ey,l,eH⟩|⟨kvs,k,b,e,ey,eb,l,eH⟩
 ·subst ey eH;obtain⟨z,hd,vs,rel,dd⟩:=qFe I.hok e;have hz:vs.length<=sizeLine:=by rw[<-rel.length];exact z
  have hl:(putK kvs k v).length<=sizeLine:=by have:=q4p kvs k v;lia
  refine wpAny_setItem_pairs (hsz:=hz) (qAI ry) dd λ h' dd' hs=>h _ ?_;have he:∃q,h'.get? a=some q:=let ⟨q,_,_,hq,_⟩:=dd';⟨q,hq⟩;exact q8F I (by rw[e];exact True.intro) hs he (qEm hl hd (rel.put k rv) dd')
 ·subst ey eH;cases (show u=Value.ref b from ry);obtain⟨z,hd,xs,rel,dd⟩:=qKf I.hok e;have hz:xs.length<=sizeLine:=by rw[<-Paired.length rel];exact z
  have hl:(putK kvs k v).length<=sizeLine:=by have:=q4p kvs k v;lia
  refine wpAny_setItem_heap (hsz:=hz) (tupleKind_room_in1 hu) (q77 I.hok eb) dd λ h' dd' hs=>h _ ?_;obtain⟨q,es,ep,hq,h2,h3,h4,_,h5⟩:=dd';refine q8F I (by rw[e];exact True.intro) hs ⟨q,hq⟩ ⟨hl,hd,_,(rel.put k eb rv).keeps λ c ys ec=>?_,q,es,ep,hq,h2,h3,h4,h5⟩;rw[q05 (qKZ ec e (λ z=>nomatch z))];exact ec
end
section
variable {X:Cx}{pins:List (Addr×Obj)}{σ:St}{H:Hp}{s:Shared}{a:Addr}{kvs:List (Key×V)}{k:Key}{u:Value}{A:Around}{E:Value->Shared->Prop}
theorem qKg (I:Inv X pins σ H s) (e:Rd H a (.dK kvs)) (h:∀t s',Inv X pins σ H s'->Q (.int kvs.length t) s'):wpAny (model X.prog X.w) A (call (.builtin "len") [.ref a]) Q E s:=by obtain⟨z,hd,vs,rel,dd⟩:=q8E I.hok e;refine call_len_dict hd dd (by rw[<-rel.length];rw[sizeLine_eq] at z;lia) ?_;rw[<-rel.length];exact h _ _ (I.tok _)
end
theorem q99 {P:Program}{w:World}{H:Hp}(h:Heap) (hb:sysModules<h.objs.size):q1P P w H (h.push {cls:= .type "dict",data:= .dict #[]}) h.objs.size (.dK []) :=
 ⟨QM _,beq_eq_false_iff_ne.mpr (Ne.symm (Qy hb)),[],.nil,Heap.DictOf.new h⟩
abbrev VV:List (V×V)->List (Value×Value)->Prop:=Paired λ p q=>RelV p.1 q.1/\RelV p.2 q.2
def qEn (kvs more:List (Key×V)):List (Key×V):=more.foldl (λ acc kv=>putK acc kv.1 kv.2) kvs
theorem KV.merge:∀{more:List (Key×V)}{rs:List (Key×Value)}{kvs:List (Key×V)}{vs:List (Key×Value)},KV more rs->KV kvs vs->KV (qEn kvs more) (merged vs rs):=by
 intro more rs kvs vs r;unfold KV at r
 induction r generalizing kvs vs with
 |nil=>intro q;exact q
 |@cons p q ps qs h t ih =>
  intro r0;have e:KV (putK kvs p.1 p.2) (stored vs q.1 q.2):=by have:=r0.put p.1 h.2;rw[<-h.1];exact this
  exact ih e
theorem q5g {P:Program}{w:World}:∀{kvs:List (Key×V)}{ws:List (Value×Value)},VV (kvs.map λ kv=>(kV kv.1,kv.2)) ws->∃rs,Carries (q0k P w) ws rs/\KV kvs rs
 |[],_,r=>by rw[List.map_nil] at r;cases r;exact⟨[],True.intro,.nil⟩
 |p::kvs,_,r=>by
  rw[Qv] at r;cases r with
  |@cons a b as bs h t =>
   obtain⟨rs,c,q⟩:=q5g (P:=P) (w:=w) t;obtain⟨b1,b2⟩:=b;exact⟨(p.1,b2)::rs,⟨qAI h.1,rfl,c⟩,.cons ⟨rfl,h.2⟩ q⟩
def IsD (H:Hp) (a:Addr):Prop:=(∃kvs,Rd H a (.dK kvs))\/∃kvs,Rd H a (.dT kvs)
theorem qIA {X:Cx}{pins:List (Addr×Obj)}{σ:St}{H:Hp}{s:Shared}{a:Addr}(I:Inv X pins σ H s) (d:IsD H a) :
  s.TypeIs (.ref a) "dict"/\(∀b,Value.ref a = .ref b->∃ob,s.heap.get? b=some ob/\ob.dict=none)/\(a==sysModules)=false:=by
 rcases d with ⟨kvs,e⟩|⟨kvs,e⟩
 ·obtain⟨_,hd,vs,_,dd⟩:=q8E I.hok e;refine⟨dd.typeIs,λ b q=>?_,hd⟩;cases q;obtain⟨ob,_,_,h1,h2,_⟩:=dd;exact⟨ob,h1,h2.2.1⟩
 ·obtain⟨_,hd,xs,_,dd⟩:=qAz I.hok e;refine⟨dd.typeIs,λ b q=>?_,hd⟩;cases q;obtain⟨ob,_,_,h1,h2,_⟩:=dd;exact⟨ob,h1,h2.2.1⟩
end L2
namespace HT
open PySem PyProof.Rows
section
variable {prog:Program}{w:World}{A:Around}{E:Value->Shared->Prop}{s:Shared}
theorem qFg {t b:Addr}{vs ws:List Value}{Q:Value->Shared->Prop}(ht:IsTup s.heap t vs.toArray) (hb:IsTup s.heap b ws.toArray) (hv:vs≠[])
  (h1:ws=[]->Q (.ref t) s) (h2:ws≠[]->Q (.ref s.heap.objs.size) {s with heap:=s.heap.push {cls:= .type "tuple",data:= .seq (vs++ws).toArray}})
  (hsz:vs.length+ws.length<=sizeLine):wpAny (model prog w) A (binaryOp .Add (.ref t) (.ref b)) Q E s:=by
 obtain⟨⟨cls,dd,data,sl⟩,ho,hc,n,hd⟩:=id ht;obtain⟨⟨cls2,dd2,data2,sl2⟩,ho2,hc2,n2,hd2⟩:=id hb;simp only at hc hd hc2 hd2;subst hc hd hc2 hd2;have e:vs.toArray++ws.toArray=(vs++ws).toArray:=by simp
 by_cases hw:ws=[]
 ·exact concat_meets ⟨_,ho,rfl⟩ ⟨_,ho2,rfl⟩ noFill_tuple_add seq_tuple_add PySem.F.slot_tuple_add PySem.F.entry_tuple_add (PySem.F.args_tuple_add_2 _ _)
   (tuple_addW1 t b vs.toArray ws.toArray n n2 dd dd2 sl sl2 (by simpa using hv) (by simp[hw])) ⟨ho,ho2,h1 hw⟩
 ·refine concat_meets ⟨_,ho,rfl⟩ ⟨_,ho2,rfl⟩ noFill_tuple_add seq_tuple_add PySem.F.slot_tuple_add PySem.F.entry_tuple_add (PySem.F.args_tuple_add_2 _ _)
   (tuple_addW2 t b vs.toArray ws.toArray n n2 dd dd2 sl sl2 (by simpa using hv) (by simpa using hw) (by rw[Qo,Qo];exact hsz)) ⟨ho,ho2,?_⟩
  rw[e];exact h2 hw
def sIx (n d:Nat):Option Int->Nat
 |none=>d
 |some v=>if v<0 then (v+(n:Int)).toNat else min v.toNat n
theorem qIB (n d:Nat) (hd:d<=n) (o:Option Int):sIx n d o<=n:=by
 cases o with
 |none=>exact hd
 |some v =>
  show (if v<0 then (v+(n:Int)).toNat else min v.toNat n)<=n
  by_cases hv:v<0
  ·rw[if_pos hv];lia
  ·rw[if_neg hv];exact Nat.min_le_right _ _
theorem qB2 (v:Int) (n d:Nat):(if v<0 then max (v+(n:Int)) 0 else min v (n:Int))=((sIx n d (some v):Nat):Int):=by
 show (if v<0 then max (v+(n:Int)) 0 else min v (n:Int))=(((if v<0 then (v+(n:Int)).toNat else min v.toNat n):Nat):Int)
 by_cases hv:v<0
 ·simp only[if_pos hv];lia
 ·simp only[if_neg hv];lia
theorem qAJ (lo hi:Option Int) (n:Nat):Builtin.Slice.sliceAdjust lo hi 1 (n:Int)=(((sIx n 0 lo:Nat):Int),((sIx n n hi:Nat):Int)):=by
 have h1:¬((1:Int)<0):=by lia
 unfold Builtin.Slice.sliceAdjust;simp only[h1,if_false];refine Prod.ext ?_ ?_
 ·cases lo with
  |none=>rfl
  |some v=>exact qB2 v n 0
 ·cases hi with
  |none=>rfl
  |some v=>exact qB2 v n n
theorem qAK (i j:Nat):Builtin.Slice.slicePlaces (i:Int) (j:Int) 1=j-i:=by
 unfold Builtin.Slice.slicePlaces;have h1:(1:Int) > 0:=by lia
 simp only[h1,if_true,Int.ediv_one];split<;>lia
theorem q5h {v:Value}{o:Option Int}{Q:Option Int->Shared->Prop}(p:IsPart v o) (h:Q o s):wpAny (model prog w) A (Builtin.Slice.slicePartIndex v) Q E s:=by
 cases p with
 |none=>exact slicePart_none h
 |int i t=>exact slicePart_int h
theorem q2L {sl:Addr}{vl vu:Value}{lo hi:Option Int}{n:Nat}{Q:Int×Int×Nat->Shared->Prop}(hs:s.heap.IsSliceOf sl vl vu .none) (pl:IsPart vl lo) (pu:IsPart vu hi)
  (h:Q (((sIx n 0 lo:Nat):Int),1,sIx n n hi-sIx n 0 lo) s):wpAny (model prog w) A (Builtin.Slice.sliceApplied (.ref sl) (pure (n:Int))) Q E s:=by
 obtain⟨os,hos,hcs,hds⟩:=id hs;unfold Builtin.Slice.sliceApplied Builtin.Slice.sliceFields;refine wpAny_bind (wpAny_bind (wpAny_field hos hds (x:=vl) rfl (wpAny_bind (wpAny_field hos hds (x:=vu) rfl (wpAny_bind (wpAny_field hos hds (x:= .none) rfl (wpAny_pure ?_)))))));refine wpAny_bind (slicePart_none ?_);show wpAny _ _ (if ((1:Int)==0)=true then _ else _) _ _ s;rw[if_neg (by decide)];refine wpAny_bind (q5h pl (wpAny_bind (q5h pu (wpAny_bind (wpAny_pure ?_)))));show wpAny _ _ (match Builtin.Slice.sliceAdjust lo hi 1 (n:Int) with|(lo,hi)=>pure (lo,(1:Int),Builtin.Slice.slicePlaces lo hi 1)) _ _ s;rw[qAJ lo hi n];show wpAny _ _ (pure (((sIx n 0 lo:Nat):Int),(1:Int),Builtin.Slice.slicePlaces ((sIx n 0 lo:Nat):Int) ((sIx n n hi:Nat):Int) 1)) _ _ s;rw[qAK];exact wpAny_pure h
theorem qDM (xs:Array Value) (i k:Nat):((Qk k).filterMap λ (m:Nat)=>xs[((i:Int)+(m:Int)*1).toNat]?).toArray=((xs.toList.drop i).take k).toArray:=by
 have e:(λ (m:Nat)=>xs[((i:Int)+(m:Int)*1).toNat]?)=λ m=>xs[i+m]?:=by
  funext m;have:((i:Int)+(m:Int)*1).toNat=i+m:=by lia
  rw[this]
 rw[e];have:=pick_run xs i k;rw[List.filterMap_map] at this;have e2:((λ x=>xs[x]?) ∘ λ x=>i+x)=λ m=>xs[i+m]?:=rfl;rw[e2] at this;rw[this]
theorem q3u {t sl:Addr}{items:Array Value}{vl vu:Value}{lo hi:Option Int}{Q:Value->Shared->Prop}(ht:IsTup s.heap t items) (hs:s.heap.IsSliceOf sl vl vu .none) (pl:IsPart vl lo) (pu:IsPart vu hi)
  (hw:¬(sIx items.size 0 lo=0/\sIx items.size items.size hi=items.size))
  (h:Q (.ref s.heap.objs.size) {s with heap:=s.heap.push {cls:= .type "tuple",data:= .seq ((items.toList.drop (sIx items.size 0 lo)).take (sIx items.size items.size hi-sIx items.size 0 lo)).toArray}})
  (hsz:items.size<=sizeLine):wpAny (model prog w) A (getItem (.ref t) (.ref sl)) Q E s:=by
 have htake:sizeOk (.seq ((items.toList.drop (sIx items.size 0 lo)).take (sIx items.size items.size hi-sIx items.size 0 lo)).toArray):=by show ((items.toList.drop (sIx items.size 0 lo)).take (sIx items.size items.size hi-sIx items.size 0 lo)).toArray.size<=sizeLine;rw[Qo,List.length_take,List.length_drop,Array.length_toList];lia
 have hj:sIx items.size items.size hi<=items.size:=qIB _ _ (Qi _) hi;obtain⟨os,hos,hcs,hds⟩:=id hs;have hTs:s.TypeIs (.ref sl) "slice":=⟨os,hos,hcs⟩
 unfold getItem
 try with_reducible refine wpAny_holding ?_
 first|refine wpAny_bind (wpAny_pure ?_)|skip
 refine wpAny_bind (wpAny_sequenceKey ht.typeIs (by decide) ?_);refine wpAny_bind (wpAny_callSpecial?_slot (name:=Str.ofString "__getitem__") ht.typeIs PyProof.Rows.slot_tuple_getitem
  (wpAny_call_entry PyProof.Rows.slot_tuple_getitem ht.typeIs entry_tuple_getitem ?_ (args_tuple_getitem _ _)))
 show wpAny _ _ (Builtin.Tuple.tupleItemsOf (.ref t) >>= _) _ _ s;refine wpAny_bind (tupleItemsOf_ ht ?_);refine wpAny_bind (wpAny_typeOf hTs ?_);rw[if_pos (by decide)];refine wpAny_bind (q2L hs pl pu ?_);have hno:¬((((sIx items.size 0 lo:Nat):Int)==0&&(1:Int)==1&&(sIx items.size items.size hi-sIx items.size 0 lo)==items.size)=true):=by intro q;rw[Qc,Qc] at q;have q1:((sIx items.size 0 lo:Nat):Int)=0:=eq_of_beq q.1.1;have q2:sIx items.size items.size hi-sIx items.size 0 lo=items.size:=eq_of_beq q.2;exact hw ⟨by lia,by lia⟩
 show wpAny _ _ (if (((sIx items.size 0 lo:Nat):Int)==0&&(1:Int)==1&&(sIx items.size items.size hi-sIx items.size 0 lo)==items.size)=true then _ else _) _ _ s;rw[if_neg hno,qDM]
 first
  |exact wpAny_bind (m:=Builtin.Tuple.tupleExact _) (wpAny_newObj_type (wpAny_pure ⟨_,rfl,wpAny_pure h⟩) htake)
  |exact wpAny_bind (m:=Builtin.Tuple.tupleExact _) (wpAny_newObj_type (wpAny_bind (wpAny_pure (wpAny_pure ⟨_,rfl,wpAny_pure h⟩))) htake)
  |exact wpAny_bind (wpAny_bind (m:=Builtin.Tuple.tupleExact _) (wpAny_newObj_type (wpAny_pure (wpAny_pure ⟨_,rfl,wpAny_pure h⟩)) htake))
  |exact wpAny_bind (wpAny_bind (m:=Builtin.Tuple.tupleExact _) (wpAny_newObj_type (wpAny_pure ⟨_,rfl,wpAny_pure h⟩) htake))
end
end HT
namespace L2
open PySem PySem.Spec PyProof.Rows
section
variable {X:Cx}{e:Expr}{te:TE}{lo hi:Option Expr}{tl th:TO}{pos p2:Pos}
def SlR (X:Cx) (r:V->Option Int->Option Int->Hp->VK->Prop):Prop :=
 ∀(pins:List (Addr×Obj)) (s:Shared) (σ:St) (H:Hp) (x:V) (v vl vu:Value) (lo hi:Option Int) (sl:Addr) (Q:VK),Inv X pins σ H s->RelV x v->s.heap.IsSliceOf sl vl vu .none->IsPart vl lo->IsPart vu hi->r x lo hi H Q->
  ∃T id,typeLookup (.type T) "__getitem__" = pure (some (.builtin id))/\s.TypeIs v T/\wpAny (model X.prog X.w) X.A (getItem v (.ref sl)) (EP X pins σ Q) X.xe s
def cutV (xs:List V) (lo hi:Option Int):List V:=(xs.drop (HT.sIx xs.length 0 lo)).take (HT.sIx xs.length xs.length hi-HT.sIx xs.length 0 lo)
theorem q2u (xs:List V) (lo hi:Option Int):(cutV xs lo hi).length<=xs.length:=by unfold cutV;rw[List.length_take,List.length_drop];lia
def rSlT (K:PySem.W.Frag):V->Option Int->Option Int->Hp->VK->Prop:=λ x lo hi H Q=>∃a xs,x = .ref a/\SqT K H a xs/\
 ¬(HT.sIx xs.length 0 lo=0/\HT.sIx xs.length xs.length hi=xs.length)/\∀p,H p=none->Q (.ref p) (upd H p (.tup (cutV xs lo hi)))
theorem qIC:SlR X (rSlT X.K):=by
 intro pins s σ H x v vl vu lo hi sl Q I rx hs pl pu h;obtain⟨a,xs,rfl,hx,hw,q⟩:=h;cases rx;obtain⟨its,r,ht,hz⟩:=I.tuple hx;have hlen:its.toArray.size=xs.length:=by rw[Qo];exact r.length.symm
 refine⟨"tuple",_,PyProof.Rows.slot_tuple_getitem.lookup,ht.typeIs,?_⟩;refine HT.q3u ht hs pl pu (by rw[hlen];exact hw) ?_ (by rw[hlen];exact hz);rw[hlen];refine⟨.ref s.heap.objs.size,_,I.laid (t':=s.toks) (o:= .tup (cutV xs lo hi)) (λ b ob q=>Heap.get?_push_of_some _ q) (Qi _) ?_,rfl,q _ (I.hok.fresh (Qi _))⟩;exact⟨Qr (q2u xs lo hi) hz,_,(r.drop (HT.sIx xs.length 0 lo)).take (HT.sIx xs.length xs.length hi-HT.sIx xs.length 0 lo),IsTup.new _ _⟩
def qKh (K:PySem.W.Frag):R2:=λ x y H Q=>∃a b xs ys,x = .ref a/\y = .ref b/\SqT K H a xs/\SqT K H b ys/\xs≠[]/\xs.length+ys.length<=sizeLine/\
 (ys=[]->Q (.ref a) H)/\(ys≠[]->∀p,H p=none->Q (.ref p) (upd H p (.tup (xs++ys))))
theorem Vals.q6C {xs:List V}{us:List Value}(r:Vals xs us):us=[]↔xs=[]:=by
 cases r with
 |nil=>simp
 |cons _ _=>simp
theorem qFh:OpR X (binaryOp .Add) (qKh X.K):=by intro pins s σ H x y v u Q I rx ry h;obtain⟨a,b,xs,ys,rfl,rfl,ha,hb,hx,hz,q1,q2⟩:=h;cases rx;cases ry;obtain⟨its,r1,p1,_⟩:=I.tuple ha;obtain⟨its2,r2,p2,_⟩:=I.tuple hb;refine HT.qFg p1 p2 (λ z=>hx (r1.q6C.mp z)) (λ z=>⟨.ref a,H,I,rfl,q1 (r2.q6C.mp z)⟩) (λ z=>?_) (by rw[<-r1.length,<-r2.length];exact hz);refine⟨.ref s.heap.objs.size,_,I.laid (t':=s.toks) (o:= .tup (xs++ys)) (λ b ob q=>Heap.get?_push_of_some _ q) (Qi _) ?_,rfl,q2 (λ w=>z (r2.q6C.mpr w)) _ (I.hok.fresh (Qi _))⟩;exact⟨by rw[QA];exact hz,_,r1.append r2,IsTup.new _ _⟩
end
end L2
namespace L2
open PySem PySem.Spec PyProof.Rows
def ixN (n:Nat) (i:Int):Option Nat:=if 0<=i then (if i<n then some i.toNat else none) else if -(n:Int)<=i then some (i+n).toNat else none
def atI {α:Type}(xs:List α) (i:Int):Option α:=(ixN xs.length i).bind λ j=>xs[j]?
theorem qFi {n:Nat}{i:Int}{j:Nat}(h:ixN n i=some j):seqIndex? i n=some j/\j<n/\-(n:Int)<=i/\i<n:=by
 unfold ixN at h
 by_cases h0:0<=i
 ·rw[if_pos h0] at h
  by_cases h1:i<n
  ·rw[if_pos h1] at h;have e:i.toNat=j:=QR.inj h;exact⟨by rw[seqIndex_of h0 h1,e],by lia,by lia,h1⟩
  ·rw[if_neg h1] at h;cases h
 ·rw[if_neg h0] at h
  by_cases h1:-(n:Int)<=i
  ·rw[if_pos h1] at h;have e:(i+n).toNat=j:=QR.inj h;exact⟨by rw[seqIndex_neg (by lia) h1,e],by lia,h1,by lia⟩
  ·rw[if_neg h1] at h;cases h
theorem qB3 {α:Type}{xs:List α}{i:Int}{v:α}(h:atI xs i=some v):∃j,seqIndex? i xs.length=some j/\xs[j]? = some v/\j<xs.length/\-(xs.length:Int)<=i/\i<xs.length:=by
 unfold atI at h;cases e:ixN xs.length i with
 |none=>rw[e] at h;cases h
 |some j =>
  rw[e] at h;obtain⟨h1,h2,h3,h4⟩:=qFi e;exact⟨j,h1,h,h2,h3,h4⟩
def q8G (b:Expr):Prop:=∀o i,subscripted b false o i=operate [o,i] (getItem o i)
def IxR (X:Cx) (r:R2):Prop :=
 ∀(value slice:Expr) (pins:List (Addr×Obj)) (s:Shared) (σ:St) (H:Hp) (x y:V) (v u:Value) (Q:VK),Inv X pins σ H s->RelV x v->RelV y u->r x y H Q->
  subscripted slice false v u=operate [v,u] (getItem v u)->wpAny (model X.prog X.w) X.A (subscriptTail value slice v u) (EP X pins σ Q) X.xe s
section
variable {X:Cx}{a b:Expr}{ta tb:TE}{pos:Pos}
def rIxL (K:PySem.W.Frag):R2:=λ x y H Q=>∃p xs i v,x = .ref p/\y = .int i/\SqL K H p xs/\atI xs i=some v/\Q v H
def rIxT (K:PySem.W.Frag):R2:=λ x y H Q=>∃p xs i v,x = .ref p/\y = .int i/\SqT K H p xs/\atI xs i=some v/\Q v H
theorem qB4:IxR X (rIxL X.K):=by
 intro value slice pins s σ H x y v u Q I rx ry h hs;obtain⟨p,xs,i,z,rfl,rfl,hq,he,q⟩:=h;cases rx;obtain⟨t,rfl⟩:=ry;obtain⟨its,r,pl,hz⟩:=I.list hq;obtain⟨j,h1,h2,h3,h4,h5⟩:=qB3 he;obtain⟨w,ew,rw'⟩:=r.get h2;have hl:=r.length;have hn:=q71;have fin:EP X pins σ Q w s:=⟨z,H,I,rw',q⟩
 by_cases h0:0<=i
 ·have hj:i.toNat=j:=by rw[seqIndex_of h0 h5] at h1;exact QR.inj h1
  exact item_listR pl.isList h0 (by lia) (by rw[hj];simpa using ew) fin hs
 ·have hj:(i+(its.toArray.size:Int)).toNat=j:=by rw[seqIndex_neg (by lia) h4] at h1;rw[Qo,<-hl];exact QR.inj h1
  exact subscriptTail_builtinR (x:=w) pl.isList.typeIs slot_list_getitem.lookup
   (wpAny_getItem_list_neg (Q:=λ r s'=>r=w/\EP X pins σ Q r s') pl.isList (by lia) (by rw[Qo]<;>lia) (by lia) (by rw[hj];simpa using ew) ⟨rfl,fin⟩) hs
theorem qID:IxR X (rIxT X.K):=by
 intro value slice pins s σ H x y v u Q I rx ry h hs;obtain⟨p,xs,i,z,rfl,rfl,hq,he,q⟩:=h;cases rx;obtain⟨t,rfl⟩:=ry;obtain⟨its,r,pl,hz⟩:=I.tuple hq;obtain⟨j,h1,h2,h3,h4,h5⟩:=qB3 he;obtain⟨w,ew,rw'⟩:=r.get h2;have hl:=r.length;have hn:=q71;have fin:EP X pins σ Q w s:=⟨z,H,I,rw',q⟩
 exact subscriptTail_builtinR (x:=w) pl.typeIs slot_tuple_getitem.lookup
  (getItem_tuple (j:=j) (Q:=λ r s'=>r=w/\EP X pins σ Q r s') pl (by lia) (by lia) (by rw[Qo,<-hl];exact h1) (by simpa using ew) ⟨rfl,fin⟩) hs
theorem q78 (lo hi:Option Int) (n:Nat):(sliceBounds lo hi none n).1=((HT.sIx n 0 lo:Nat):Int)/\(sliceBounds lo hi none n).2.1=((HT.sIx n n hi:Nat):Int)/\(sliceBounds lo hi none n).2.2=1:=by
 refine⟨?_,?_,rfl⟩
 ·cases lo with
  |none=>simp[sliceBounds,HT.sIx]
  |some i =>
   simp only[sliceBounds,HT.sIx,Option.getD_none,show (1:Int) > 0 by decide,if_true]
   by_cases h:i<0
   ·simp only[h,if_true]<;>lia
   ·simp only[h,if_false]<;>lia
 ·cases hi with
  |none=>simp[sliceBounds,HT.sIx]
  |some i =>
   simp only[sliceBounds,HT.sIx,Option.getD_none,show (1:Int) > 0 by decide,if_true]
   by_cases h:i<0
   ·simp only[h,if_true]<;>lia
   ·simp only[h,if_false]<;>lia
theorem q6D (its:List Value) (lo hi:Option Int):slicePick its.toArray lo hi none=((its.drop (HT.sIx its.length 0 lo)).take (HT.sIx its.length its.length hi-HT.sIx its.length 0 lo)).toArray:=by obtain⟨h1,h2,h3⟩:=q78 lo hi its.toArray.size;unfold slicePick;rw[h1,h2,h3];simp only[sliceRange_one,pick_run,Qo]<;>rfl
def rSlL (K:PySem.W.Frag):V->Option Int->Option Int->Hp->VK->Prop:=λ x lo hi H Q=>∃a xs,x = .ref a/\SqL K H a xs/\∀p,H p=none->Q (.ref p) (upd H p (.lst (cutV xs lo hi)))
theorem qFj:SlR X (rSlL X.K):=by intro pins s σ H x v vl vu lo hi sl Q I rx hs pl pu h;obtain⟨a,xs,rfl,hx,q⟩:=h;cases rx;obtain⟨its,r,ht,hz⟩:=I.list hx;have hlen:=r.length;refine⟨"list",_,slot_list_getitem.lookup,ht.isList.typeIs,?_⟩;refine wpAny_getItem_list_slice ht.isList hs pl pu .none (by simp) ?_ (by rw[Qo]<;>lia);rw[q6D,<-hlen];refine⟨.ref s.heap.objs.size,_,I.laid (t':=s.toks) (o:= .lst (cutV xs lo hi)) (λ b ob q=>Heap.get?_push_of_some _ q) (Qi _) ?_,rfl,q _ (I.hok.fresh (Qi _))⟩;exact⟨Qr (q2u xs lo hi) hz,_,0,(r.drop (HT.sIx xs.length 0 lo)).take (HT.sIx xs.length xs.length hi-HT.sIx xs.length 0 lo),Heap.get?_push_size _ rfl⟩
theorem q4Q:qDK X (.builtin "len") (λ xs H Q=>∃p ys,xs=[.ref p]/\(SqL X.K H p ys\/SqT X.K H p ys)/\Q (.int ys.length) H):=by
 intro pins s σ H xs us Q I r h;obtain⟨p,ys,rfl,hq,q⟩:=h;obtain⟨u,rfl,rx⟩:=vals1 r;cases rx;have hn:=q71;rcases hq with hq|hq
 ·obtain⟨its,r',pl,hz⟩:=I.list hq;have hlen:=r'.length;exact Calls.call_len_list pl.isList (by simp only[Qo]<;>lia) ⟨.int ys.length,H,I.tok _,⟨s.toks+1,by rw[Qo,hlen]⟩,q⟩
 ·obtain⟨its,r',pl,hz⟩:=I.tuple hq;have hlen:=r'.length;exact len_tuple pl (by simp only[Qo]<;>lia) ⟨.int ys.length,H,I.tok _,⟨s.toks+1,by rw[Qo,hlen]⟩,q⟩
theorem q79:qDK X (.builtin "len") (λ xs H Q=>∃z,xs=[.str z]/\z.length<=sizeLine/\Q (.int z.length) H):=by intro pins s σ H xs us Q I r h;obtain⟨z,rfl,hz,q⟩:=h;obtain⟨u,rfl,t,rfl⟩:=vals1 r;have hn:=q71;exact len_str (by lia) ⟨.int z.length,H,I.tok _,⟨_,rfl⟩,q⟩
theorem q4R:qDK X (.type "list") (λ xs H Q=>∃p ys,xs=[.ref p]/\(SqL X.K H p ys\/SqT X.K H p ys)/\∀l,H l=none->Q (.ref l) (upd H l (.lst ys))):=by
 intro pins s σ H xs us Q I r h;obtain⟨p,ys,rfl,hq,q⟩:=h;obtain⟨u,rfl,rx⟩:=vals1 r;cases rx;have fin:∀(its:List Value),Vals ys its->ys.length<=sizeLine->∀(h':Heap) (c':Nat),(∀b o',s.heap.get? b=some o'->h'.get? b=some o')->
   h'.get? s.heap.objs.size=some {cls:= .type "list",dict:=none,data:= .seq its.toArray c',slots:=#[]}->EP X pins σ Q (.ref s.heap.objs.size) {s with heap:=h'}:=λ its r' hz h' c' kp e =>
  ⟨.ref s.heap.objs.size,_,I.laid (t':=s.toks) kp (Qi _) (show q1P X.prog X.w _ h' _ (.lst ys) from⟨hz,its,c',r',e⟩),rfl,q _ (I.hok.fresh (Qi _))⟩
 rcases hq with hq|hq
 ·obtain⟨its,r',pl,hz⟩:=I.list hq;have hlen:=r'.length;obtain⟨o,ho,hc,n,hd⟩:=pl.isList;exact call_list_seq p (.inl rfl) ho hc hd (λ h' c' kp e=>fin its r' hz h' c' kp e) (by simp only[Qo]<;>lia)
 ·obtain⟨its,r',pl,hz⟩:=I.tuple hq;have hlen:=r'.length;obtain⟨o,ho,hc,n,hd⟩:=pl;exact call_list_seq p (.inr rfl) ho hc hd (λ h' c' kp e=>fin its r' hz h' c' kp e) (by simp only[Qo]<;>lia)
theorem q3F:qDK X (.type "tuple") (λ xs H Q=>∃p ys,xs=[.ref p]/\((SqL X.K H p ys/\∀l,H l=none->Q (.ref l) (upd H l (.tup ys)))\/(SqT X.K H p ys/\Q (.ref p) H))):=by
 intro pins s σ H xs us Q I r h;obtain⟨p,ys,rfl,h⟩:=h;obtain⟨u,rfl,rx⟩:=vals1 r;cases rx;rcases h with ⟨hq,q⟩|⟨hq,q⟩
 ·obtain⟨its,r',pl,hz⟩:=I.list hq;have hlen:=r'.length;refine call_tuple_list pl.isList (λ h' kp=>?_) (by simp only[Qo]<;>lia);have I1:Inv X pins σ H {s with heap:=h'}:=I.kept (t':=s.toks) kp;have I2:Inv X pins σ (upd H h'.objs.size (.tup ys)) {s with heap:=h'.push {cls:= .type "tuple",data:= .seq its.toArray}} :=
   I1.laid (t':=s.toks) (λ b o e=>Heap.get?_push_of_some _ e) (Qi _) (show q1P X.prog X.w _ _ _ (.tup ys) from⟨hz,its,r',IsTup.new _ _⟩)
  exact⟨.ref h'.objs.size,_,I2,rfl,q _ (I1.hok.fresh (Qi _))⟩
 ·obtain⟨its,r',pl,hz⟩:=I.tuple hq;exact call_tuple_same pl ⟨.ref p,H,I,rfl,q⟩
def tyV (K:PySem.W.Frag) (T:String) (x:V) (H:Hp):Prop:=match x with
 | .str _=>T = "str"
 | .int _=>T = "int"
 | .ref p=>(T = "list"/\∃xs,SqL K H p xs)\/(T = "tuple"/\∃o,K.lookup p=some o/\o.cls = .type "tuple"/\o.dict=none)\/
   (T = "dict"/\((∃kvs,H p=some (.dK kvs))\/∃kvs,H p=some (.dT kvs)))\/(T = "set"/\∃S n,H p=some (.set S n))
 |_=>False
theorem q7A {pins:List (Addr×Obj)}{σ:St}{H:Hp}{s:Shared}{T:String}{x:V}{v:Value}(I:Inv X pins σ H s) (r:RelV x v) (ty:tyV X.K T x H) :
  s.TypeIs v T/\∀a,v = .ref a->∃ob,s.heap.get? a=some ob/\ob.dict=none:=by
 cases x with
 |str z =>
  obtain⟨t,rfl⟩:=r;cases (show T = "str" from ty);exact⟨typeIs_str s z t,λ _ e=>nomatch e⟩
 |int i =>
  obtain⟨t,rfl⟩:=r;cases (show T = "int" from ty);exact⟨typeIs_int s i t,λ _ e=>nomatch e⟩
 |ref p =>
  cases r;rcases ty with ⟨rfl,xs,hq⟩|⟨rfl,o,hk,hc,hd⟩|⟨rfl,hk⟩|⟨rfl,S,n,hk⟩
  ·obtain⟨its,_,pl,_⟩:=I.list hq;refine⟨pl.isList.typeIs,λ a e=>?_⟩;cases e;obtain⟨o,n,e,c,hd,_⟩:=pl;exact⟨o,e,hd⟩
  ·refine⟨⟨o,I.kIn p o hk,hc⟩,λ a e=>?_⟩;cases e;exact⟨o,I.kIn _ o hk,hd⟩
  ·have z:∃o,s.heap.get? p=some o/\o.ExactDict:=by
    rcases hk with ⟨kvs,hk⟩|⟨kvs,hk⟩
    ·obtain⟨_,_,_,_,o,_,_,e,ex,_⟩:=I.hok p _ hk;exact⟨o,e,ex⟩
    ·obtain⟨_,_,_,_,o,_,_,e,ex,_⟩:=I.hok p _ hk;exact⟨o,e,ex⟩
   obtain⟨o,e,ex⟩:=z;refine⟨⟨o,e,ex.1⟩,λ a e2=>?_⟩;cases e2;exact⟨o,e,ex.2.1⟩
  ·obtain⟨o,_,_,_,e,ex,_⟩:=I.hok p _ hk;refine⟨⟨o,e,ex.1⟩,λ a e2=>?_⟩;cases e2;exact⟨o,e,ex.2.1⟩
 |_=>exact False.elim ty
variable {o e:Expr}{es:List Expr}{to:TE}{t:TA}{name:Str}{apos cpos:Pos}{T id:String}{r:V->List V->Hp->VK->Prop}
end
end L2
namespace L2
open PySem PySem.Spec PyProof.Rows
def MtM (X:Cx) (id:String) (r:V->List V->Hp->VK->Prop):Prop :=
 ∀(pins:List (Addr×Obj)) (s:Shared) (σ:St) (H:Hp) (x:V) (xs:List V) (v:Value) (us:List Value) (Q:VK),Inv X pins σ H s->RelV x v->Vals xs us->r x xs H Q->
  wpAny (model X.prog X.w) X.A (call (.builtin id) (v::us)) (EP X pins σ Q) X.xe s
theorem Vals.one:∀{x:V}{us:List Value},Vals [x] us->∃u,us=[u]/\RelV x u
 |_,_,.cons r .nil=>⟨_,rfl,r⟩
theorem Vals.zero:∀{us:List Value},Vals [] us->us=[]
 |_,.nil=>rfl
theorem Vals.dropLast {xs:List V}{us:List Value}(h:Vals xs us):Vals xs.dropLast us.dropLast:=by
 induction h with
 |nil=>exact .nil
 |cons r t ih =>
  cases t with
  |nil=>exact .nil
  |cons q t'=>exact .cons r ih
theorem Vals.rep {xs:List V}{us:List Value}(h:Vals xs us):∀k:Nat,Vals (Qh k xs).flatten (Qh k us).flatten
 |0=> .nil
 |k+1=>by rw[Jk,Jk,Qx,Qx];exact Vals.append h (Vals.rep h k)
theorem qAL {α:Type}(l:List α):l.eraseIdx (l.length-1)=l.dropLast:=by
 induction l with
 |nil=>rfl
 |cons a r ih =>
  cases r with
  |nil=>rfl
  |cons b r =>
   have e:(a::b::r).length-1=((b::r).length-1)+1:=by have h1:(a::b::r).length=r.length+2:=rfl;have h2:(b::r).length=r.length+1:=rfl;lia
   rw[e,List.eraseIdx_cons_succ,ih]
   all_goals rfl
section
variable {X:Cx}{pins:List (Addr×Obj)}{σ:St}{H:Hp}{s:Shared}{l b:Addr}{xs ys zs:List V}
theorem Inv.lset {its its':List Value}{n:Nat}{f:Array Value->Array Value}{t':Nat}(I:Inv X pins σ H s) (hH:H l=some (.lst xs))
  (e:s.heap.get? l=some {cls:= .type "list",data:= .seq its.toArray n}) (hf:f its.toArray=its'.toArray) (hv:Vals ys its') (hz:ys.length<=sizeLine) :
  Inv X pins σ (upd H l (.lst ys)) {s with heap:=s.heap.update l (Obj.mapSeq f),toks:=t'}:=by
 have q:=PySem.IsL.update e f;rw[hf] at q;refine I.write (x:=l) (e:=l) (by rw[hH];exact trivial) (.inl rfl) (λ b' u hb hu=>(Heap.get?_update_other s.heap (Obj.mapSeq f) (Ne.symm hb)).trans hu) ⟨_,q⟩ ?_;exact⟨hz,its',_,hv,q⟩
theorem Inv.lnew {its:List Value}{t':Nat}(I:Inv X pins σ H s) (hv:Vals ys its) (hz:ys.length<=sizeLine) :
  Inv X pins σ (upd H s.heap.objs.size (.lst ys)) {s with heap:=s.heap.push {cls:= .type "list",data:= .seq its.toArray},toks:=t'} :=
 I.laid (λ _ _ q=>Heap.get?_push_of_some _ q) (Qi _) ⟨hz,its,0,hv,Heap.get?_push_size _ rfl⟩
theorem Inv.fresh (I:Inv X pins σ H s):H s.heap.objs.size=none:=I.hok.fresh (Qi _)
theorem Inv.lstM (I:Inv X pins σ H s) (hH:H l=some (.lst xs)):xs.length<=sizeLine/\∃(its:List Value) (n:Nat),Vals xs its/\xs.length=its.length/\s.heap.get? l=some {cls:= .type "list",data:= .seq its.toArray n}:=by obtain⟨z,its,n,r,e⟩:=I.hok l _ hH;exact⟨z,its,n,r,r.length,e⟩
theorem qDN {n:Nat}(h:n<=sizeLine):Builtin.List.listTooLong n=false:=by unfold Builtin.List.listTooLong;exact decide_eq_false (by lia)
end
section
variable {X:Cx}
def qFk:V->List V->Hp->VK->Prop:=λ x vs H Q=>∃l xs y,x = .ref l/\vs=[y]/\H l=some (.lst xs)/\xs.length<sizeLine/\Q .non (upd H l (.lst (xs++[y])))
theorem q3G:MtM X "list.append" qFk:=by intro pins s σ H x vs v us Q I rx rv h;obtain⟨l,xs,y,rfl,rfl,hH,hz,q⟩:=h;cases rx;obtain⟨u,rfl,ru⟩:=rv.one;obtain⟨z,its,n,r,hl,e⟩:=I.lstM hH;refine call_meets F.slot_list_append ⟨_,e,rfl⟩ F.entry_list_append (F.args_list_append_2 _ _) (PySem.list_append l its.toArray n u (by rw[Qo];lia)) ⟨e,?_⟩;refine⟨.non,_,I.lset (its':=its++[u]) hH e (by simp) (r.append (.cons ru .nil)) ?_,rfl,q⟩;rw[QA,Jd];lia
def rPop:V->List V->Hp->VK->Prop:=λ x vs H Q=>∃l xs y,x = .ref l/\vs=[]/\H l=some (.lst xs)/\xs[xs.length-1]? = some y/\Q y (upd H l (.lst xs.dropLast))
theorem qIE:MtM X "list.pop" rPop:=by
 intro pins s σ H x vs v us Q I rx rv h;obtain⟨l,xs,y,rfl,rfl,hH,hy,q⟩:=h;cases rx;have hus:=rv.zero;subst hus;obtain⟨z,its,n,r,hl,e⟩:=I.lstM hH;obtain⟨u,hu,ru⟩:=r.get hy;have hy':its.toArray[its.toArray.size-1]? = some u:=by show its.toArray[its.length-1]? = some u;rw[<-Array.getElem?_toList,<-hl];exact hu
 refine call_meets F.slot_list_pop ⟨_,e,rfl⟩ F.entry_list_pop (F.args_list_pop_1 _) (MeetsSeq.list_pop_last l its.toArray n u hy' (by rw[Qo];lia)) ⟨e,?_⟩;refine⟨y,_,I.lset (its':=its.dropLast) hH e ?_ r.dropLast ?_,ru,q⟩
 ·show its.toArray.eraseIdxIfInBounds (its.toArray.size-1)=its.dropLast.toArray;rw[Qo,List.eraseIdxIfInBounds_toArray,qAL]
 ·rw[List.length_dropLast];lia
theorem len_rep {α:Type}(xs:List α) (k:Nat):(Qh k xs).flatten.length=k*xs.length:=by
 induction k with
 |zero=>simp
 |succ k ih=>rw[Jk,Qx,QA,ih,Nat.succ_mul,Nat.add_comm]
end
end L2
namespace Att
open PySem PySem.W PySem.Calls PyProof.Rows
theorem q4q {P:Params}{h:Heap}:∀(ns:List Int) (vs:List Value),WellAll P h vs (ns.map WData.int)->IntsAre vs ns:=by
 intro ns
 induction ns with
 |nil =>
  intro vs w;rw[List.map_nil] at w;cases w;exact .nil
 |cons n ns ih =>
  intro vs w;rw[Qv] at w;cases w with
  |cons a b =>
   cases a;exact .cons _ _ (ih _ b)
theorem qB5 {l:OpenLaw}{n:Nat}(hn:l.most=some n) {P:Params}{h:Heap}{args:List WData}{vals:List Value}
  (hpre:l.row.toRowW.claim.pre args=true) (hwl:WellAll P h vals args) :
  ∃a vs ns,vals=[Value.ref a]/\args=[WData.list (ns.map WData.int)]/\h.get? a=some {cls:= .type "list",data:= .seq vs.toArray}/\IntsAre vs ns/\ns.length<=n:=by
 have hsh:WShape.hasAll [] args [.list .int]=true:=(pre_splitW hpre).1;have hc:l.pre.holds [] {args:=args}=true:=(pre_splitW hpre).2;obtain⟨d,r,rfl,h1,h2⟩:=hasAllW_cons hsh;obtain rfl:=hasAllW_nil h2;obtain⟨xs,rfl,h3⟩:=hasW_list h1;obtain⟨ns,rfl⟩:=items_int h3;have hlen:ns.length<=n:=by
  unfold OpenLaw.pre at hc;have h4:(WTm.not (.lt (.lit (.int (n:Int))) (.len (.arg 0)))).holds [] {args:=[.list (ns.map .int)]}=true:=by have h4:=(holds_andW hc).1;rw[hn] at h4;exact h4
  have h5:=condW_of h4 (w_not (w_lt w_lit (w_len_list (w_arg rfl))));rw[Qe] at h5;refine Nat.le_of_not_lt λ q=>?_;have q':(n:Int)<((ns.length:Nat):Int):=by lia
  first
   |(rw[decide_eq_true q'] at h5;exact absurd h5 (by decide))
   |(simp at h5;lia)
 cases hwl with
 |cons w1 w2 =>
  cases w2;cases w1 with
  |list ho hall=>exact⟨_,_,ns,rfl,rfl,ho,q4q ns _ hall,hlen⟩
theorem qB6 (l:OpenLaw) (args:List WData):l.row.toRowW.claim.post args (.bool true) args=true :=
 postW_of (r:=l.row.toRowW) (X:=(true==true))
  (show WShape.has [] (.bool true) .bool=true by first|rfl|decide|simp[WShape.has,WShape.arms,WShape.armsAll])
  (show (WTm.eq .res (.lit (.bool true))).value [] {args:=args,res:=some (.bool true),after:=args}=some (.bool (true==true)) from w_eq_bool (w_res rfl) w_lit) rfl
theorem q8H {l:OpenLaw}{n:Nat}{q:Program}{loose:List Str}{XP:(Str->Option Value)->Heap->Prop}{YP:World->Heap->Prop}{d:DefRec}
  (hn:l.most=some n) (hdf:d.params.defaults=[])
  (call:∀(w:World) (s₀ s₁:Shared) (mg mb:Str->Option Value) (fa:Addr) (o:Obj) (pm cd doc:Value) (a:Addr) (vs:List Value) (ns:List Int),
   Ground q loose [] XP w s₀ mg mb s₁.heap->YP w s₁.heap->
   s₁.heap.get? fa=some o->o.data = .func (docDef d.name d.params d.body d.scope pm cd doc)->s₁.heap.CodeRec cd d.name->mg d.name=some (.ref fa)->
   s₁.heap.get? a=some {cls:= .type "list",data:= .seq vs.toArray}->IntsAre vs ns->ns.length<=n->s₁.gens=#[]->
   codeAny (model l.prog w) callerA (.call (.ref fa) ⟨[.ref a],[]⟩) (λ r s'=>r = .ok (.ret (.bool true))/\OldK s₁.heap s'.heap/\s'.os=s₁.os/\AllBare s'.gens) s₁) :
  WalkO q loose XP YP l.row.toRowW d [] (λ f vs=>PySem.call f vs):=by
 intro w s₀ s₁ mg mb G Y fa o pm cd doc dV kV ho hd hcd hD hmg hg args vals as hpre hlay hrd hwl hlo;obtain rfl:dV = .none:=Dflts.none hD hdf;obtain rfl:kV = .none:=Dflts.noKw hD;obtain⟨a,vs,ns,rfl,rfl,hobj,hints,hlen⟩:=qB5 hn hpre hwl;refine enter_call (codeAny_mono (call w s₀ s₁ mg mb fa o pm cd doc a vs ns G Y ho (fd_plain hd) hcd hmg hobj hints hlen hg) λ r s' hq=>?_);obtain⟨rfl,h2,h3,h4⟩:=hq;exact⟨.inl ⟨.bool true,.bool true,[],rfl,λ _=>rfl,.bool true,qB6 l _,λ _=>⟨List.Pairwise.nil,λ _ hm=>(nomatch hm)⟩⟩,h2,h3,h4⟩
end Att
namespace L2
open PySem PySem.Spec PyProof.Rows
theorem q7B:∀{vs:List Value}{ns:List Int},IntsAre vs ns->Vals (ns.map V.int) vs
 |_,_,.nil=> .nil
 |_,_,.cons n t h=> .cons ⟨t,rfl⟩ (q7B h)
def Only (H:Hp):Prop:=∀b,H b=none\/∃o xs,H b=some (.frz o (.lst xs))
theorem qDO {P:Program}{w:World}{K:PySem.W.Frag}{mg mb:Str->Option Value}{CX:CXT}{k:Nat}{fa a:Addr}{fd:FuncData}{x:Str}{sp:Sp}{s₁:Shared}{vs:List Value}{ns:List Int}
  (KX:K.In s₁.heap) (hns:s₁.heap.Ns mainGlobals mg) (hb:s₁.heap.Ns builtinsNs mb) (hbb:∀x:Str,x ≠ "__name__"->mb x=bootBuiltins x) (hlim:s₁.heap.NoLimit) (hg:s₁.gens=#[])
  (ha:s₁.heap.get? a=some {cls:= .type "list",data:= .seq vs.toArray}) (hi:IntsAre vs ns) (hl:ns.length<=sizeLine) (hr:Room k callerA)
  (F:∀base:Heap,K.In base->base.Ns mainGlobals mg->FnOk P w K mg base CX k fa fd [x] sp) (hbind:∀(s:Shared) (u:Value),BindsTo s fd ⟨[u],[]⟩ [(x,u)])
  (hsp:∀H:Hp,Only H->SqL K H a (ns.map V.int)->sp [.ref a] H (λ v _=>v = .bl true) λ _ _ _=>False)
  (hCX:∀H e s',CX [] H s₁ (λ _ _ _=>False) e s'->False) :
  codeAny (model P w) callerA (.call (.ref fa) ⟨[.ref a],[]⟩) (λ r s'=>r = .ok (.ret (.bool true))/\OldK s₁.heap s'.heap/\s'.os=s₁.os/\AllBare s'.gens) s₁:=by
 have rv:=q7B hi;have lenV:=hi.length;have core:∀H:Hp,Only H->SqL K H a (ns.map V.int)->HOk P w H s₁.heap->(∀b,H b≠none->b=a)->(H a≠none->K.lookup a=none)->
   codeAny (model P w) callerA (.call (.ref fa) ⟨[.ref a],[]⟩) (λ r s'=>r = .ok (.ret (.bool true))/\OldK s₁.heap s'.heap/\s'.os=s₁.os/\AllBare s'.gens) s₁:=by
  intro H hO hS hok hA hK;have base_of:∀{b:Addr}{o:Obj},s₁.heap.get? b=some o->H b=none->(hidT s₁.heap H).get? b=some o:=λ e n=>qDH e n;have noA:∀{b:Addr}{o:Obj}{es:Array DictEntry}{ep:Nat},s₁.heap.get? b=some o->o.data = .dict es ep->H b=none:=λ {b o es ep} e d=>by
   cases q:H b with
   |none=>rfl
   |some u =>
    have e':b=a:=hA b (by rw[q];simp);subst e';rw[ha] at e;cases e;have d':Data.seq vs.toArray _=Data.dict es ep:=d;cases d'
  have nsK:∀{b:Addr}{m:Str->Option Value},s₁.heap.Ns b m->(hidT s₁.heap H).Ns b m:=λ {b m} ⟨o,es,ep,e,d,r⟩=>⟨o,es,ep,base_of e (noA e d),d,r⟩
  have hKb:K.In (hidT s₁.heap H):=λ b o e=>base_of (KX b o e) (by
   cases q:H b with
   |none=>rfl
   |some u =>
    have e':b=a:=hA b (by rw[q];simp);subst e';rw[hK (by rw[q];simp)] at e;cases e)
  have hM:Mod K mg (hidT s₁.heap H):=⟨hKb,nsK hns,⟨mb,nsK hb,hbb⟩,let ⟨mc,h1,h2⟩:=hlim;⟨mc,nsK h1,h2⟩⟩
  have e0:Env0 P w K mg (hidT s₁.heap H) callerA [] s₁ H:=⟨rfl,hM,λ b o e=>qFR e,Nat.le_of_eq (qAs _ _),trivial,λ b hb=>absurd (show b∈([]:List Addr) from hb) (by simp),hok,.of_eq hg⟩
  refine codeAny_mono ((F _ hKb (nsK hns)).run callerA [] s₁ H ⟨[.ref a],[]⟩ [.ref a] [.ref a] _ _ hr e0 (hbind s₁ (.ref a)) (.cons rfl .nil) (hsp H hO hS)) λ r s' h=>?_;cases r with
  |error e=>exact (hCX H e s' h).elim
  |ok fl =>
   cases fl with
   |next=>exact False.elim h
   |brk=>exact False.elim h
   |cont=>exact False.elim h
   |ret u =>
    obtain⟨v,H',os,bare,un,hok',r',q⟩:=h;have q':v = .bl true:=q;subst q';obtain rfl:u=Value.bool true:=r';refine⟨rfl,OldK.of_keep λ b o e=>?_,os,bare⟩;cases q:H b with
    |none=>exact un.keep b o e q (by intro z;exact absurd (show b∈([]:List Addr) from z) (by simp)) (by simp)
    |some u =>
     rcases hO b with z|⟨ob,xs,z⟩
     ·rw[q] at z;cases z
     ·have z2:=un.frzs b ob _ z;obtain⟨e1,_⟩:=hok b _ z;obtain⟨e2,_⟩:=hok' b _ z2;rw[e] at e1;cases e1;exact e2
 cases hk:K.lookup a with
 |some o =>
  have e:=KX a o hk;rw[ha] at e;cases e;refine core (λ _=>none) (λ _=> .inl rfl) (.inr ⟨_,vs.toArray,_,hk,rfl,rfl,rfl,by rw[Qo,lenV];exact hl,by simpa using rv⟩) (λ b u z=>by have z':(none:Option HO)=some u:=z;cases z') (λ b z=>absurd rfl z) λ z=>absurd rfl z
 |none =>
  refine core (λ b=>if b=a then some (.frz {cls:= .type "list",data:= .seq vs.toArray} (.lst (ns.map V.int))) else none) (λ b=>?_) (.inl (.inr ⟨{cls:= .type "list",data:= .seq vs.toArray},if_pos rfl⟩)) (λ b u z=>?_) (λ b z=>?_) λ _=>hk
  ·by_cases hb:b=a
   ·exact .inr ⟨_,_,if_pos hb⟩
   ·exact .inl (if_neg hb)
  ·by_cases hb:b=a
   ·have z':=(if_pos hb).symm.trans z;cases z';subst hb;exact⟨ha,by rw[Qe];exact hl,vs,_,rv,ha⟩
   ·have z':=(if_neg hb).symm.trans z;cases z'
  ·by_cases hb:b=a
   ·exact hb
   ·exact absurd (if_neg hb) z
end L2
namespace L2
open PySem PySem.Spec PyProof.Rows
abbrev KOf {K:PySem.W.Frag}{h:Heap}(_:K.In h):PySem.W.Frag:=K
theorem qFl {l:PySem.W.OpenLaw}{n k:Nat}{q:Program}{loose:List Str}{XP:(Str->Option Value)->Heap->Prop}{YP:World->Heap->Prop}{d:DefRec}{K:Params->PySem.W.Frag}{CX:World->CXT}{sp:World->Sp}{x:Str}
  (hn:l.most=some n) (hn2:n<=sizeLine) (hdf:d.params.defaults=[]) (hr:Room k callerA)
  (hY:∀(w:World) (h:Heap),YP w h->(K w.params).In h)
  (F:∀(w:World) (mg:Str->Option Value) (fa:Addr) (h:Heap),(K w.params).In h->h.Ns mainGlobals mg->mg d.name=some (.ref fa)->
   ∃fd:FuncData,(∀(s:Shared) (u:Value),BindsTo s fd ⟨[u],[]⟩ [(x,u)])/\
    ∀base:Heap,(K w.params).In base->base.Ns mainGlobals mg->FnOk l.prog w (K w.params) mg base (CX w) k fa fd [x] (sp w))
  (hsp:∀(w:World) (H:Hp) (a:Addr) (ns:List Int),ns.length<=n->Only H->SqL (K w.params) H a (ns.map V.int)->sp w [.ref a] H (λ v _=>v = .bl true) λ _ _ _=>False)
  (hCX:∀(w:World) (H:Hp) (s:Shared) (e:Value) (s':Shared),CX w [] H s (λ _ _ _=>False) e s'->False) :
  PySem.W.WalkO q loose XP YP l.row.toRowW d [] (λ f vs=>PySem.call f vs):=by
 refine Att.q8H hn hdf λ w s₀ s₁ mg mb fa o pm cd doc a vs ns G Y ho hd hcd hmg hobj hints hlen hg=>?_;have KX:=hY w _ Y;obtain⟨fd,hb,hF⟩:=F w mg fa _ KX G.T.g hmg;exact qDO KX G.T.g G.T.b G.T.builtins G.T.nolimit hg hobj hints (Qr hlen hn2) hr hF hb (λ H hO hS=>hsp w H a ns hlen hO hS) λ H e s'=>hCX w H s₁ e s'
end L2
namespace L2
open PySem PySem.Spec PyProof.Rows
def q3v (s:Stmt):Arguments:=match s with
 | .FunctionDef _ a _ _ _ _ _ _ _ _=>a
 |_=>{posonlyargs:=[],args:=[],vararg:=none,kwonlyargs:=[],kw_defaults:=[],kwarg:=none,defaults:=[]}
def q2v (s:Stmt):List Stmt:=match s with
 | .FunctionDef _ _ b _ _ _ _ _ _ _=>b
 |_=>[]
def q1s (s:Stmt):Scope:=match s with
 | .FunctionDef _ _ _ _ _ _ sc _ _ _=>sc
 |_=>{kind:= .function,names:=[],isGenerator:=false,isCoroutine:=false}
structure Fun (K:PySem.W.Frag) (x qual:Str) (st:Stmt) (f:Addr) (fd:FuncData):Prop where
 ex:∃(oc:Value) (od:Option Addr) (kV doc pm:Value) (an:Option Addr) (cdv ct:Value) (osl:Array (Option Value)),
  fd=PySem.W.fnOf x qual (q3v st) (q2v st) (q1s st) .none kV doc pm an cdv ct/\K.lookup f=some ⟨oc,od,.func fd,osl⟩/\PySem.W.codeIn K cdv qual=true
 kp:PySem.W.keepIn K (.ref f)=true
section
variable {P:Program}{w:World}{K:PySem.W.Frag}{mg:Str->Option Value}{base:Heap}
theorem Fun.binds {x qual:Str}{st:Stmt}{f:Addr}{fd:FuncData}{ps:List Str}(F:Fun K x qual st f fd)
  (h:∀(kV doc pm:Value) (an:Option Addr) (cdv ct:Value) (us:List Value),us.length=ps.length->bindArgs (PySem.W.fnOf x qual (q3v st) (q2v st) (q1s st) .none kV doc pm an cdv ct) ⟨us,[]⟩=pure (ps.zip us)):Binds K fd ps []:=by
 obtain⟨oc,od,kV,doc,pm,an,cdv,ct,osl,rfl,lk,hcd⟩:=F.ex;exact .all (h kV doc pm an cdv ct)
theorem qIF {x qual:Str}{st:Stmt}{f:Addr}{oc:Value}{od an:Option Addr}{osl:Array (Option Value)}{kV doc pm cdv ct:Value}(l:K.lookup f=some ⟨oc,od,.func (PySem.W.fnOf x qual (q3v st) (q2v st) (q1s st) .none kV doc pm an cdv ct),osl⟩)
  (c:PySem.W.codeIn K cdv qual=true) (k:PySem.W.keepIn K (.ref f)=true):Fun K x qual st f (PySem.W.fnOf x qual (q3v st) (q2v st) (q1s st) .none kV doc pm an cdv ct):=⟨⟨oc,od,kV,doc,pm,an,cdv,ct,osl,rfl,l,c⟩,k⟩
end
end L2
set_option autoImplicit false
namespace Ev
theorem oB {α β:Type}{o:Option α}{f:α->Option β}{b:β}(h:o.bind f=some b):∃a,o=some a/\f a=some b:=Option.bind_eq_some_iff.mp h
theorem oM {α β:Type}{o:Option α}{f:α->β}{b:β}(h:o.map f=some b):∃a,o=some a/\f a=b:=Jm.mp h
open PySem
inductive D where
 |non|bl (b:Bool)|int (i:Int)|str (x:Str)|tup (xs:List D)|lst (xs:List D)|dct (ks vs:List D)|exc (c:Nat)
 deriving Inhabited
inductive R (α:Type) where
 |ok (a:α)|err (c:Nat)|stuck
 deriving Inhabited
def R.bind {α β:Type}:R α->(α->R β)->R β
 | .ok a,f=>f a
 | .err c,_=> .err c
 | .stuck,_=> .stuck
@[simp] theorem q00 {α β:Type}(a:α) (f:α->R β):(R.ok a).bind f=f a:=rfl
@[simp] theorem qKJ {α β:Type}(c:Nat) (f:α->R β):(R.err c).bind f = .err c:=rfl
@[simp] theorem qHn {α β:Type}(f:α->R β):(R.stuck:R α).bind f = .stuck:=rfl
def b2i (b:Bool):Int:=if b then 1 else 0
mutual
noncomputable def eqb:D->D->Bool
 | .non,.non=>true
 | .bl a,.bl b=>a==b
 | .int a,.int b=>decide (a=b)
 | .bl a,.int b=>decide (b2i a=b)
 | .int a,.bl b=>decide (a=b2i b)
 | .str a,.str b=>decide (a=b)
 | .tup a,.tup b=>eqbL a b
 | .lst a,.lst b=>eqbL a b
 |_,_=>false
noncomputable def eqbL:List D->List D->Bool
 |[],[]=>true
 |a::l,b::m=>eqb a b&&eqbL l m
 |_,_=>false
end
def plN:Nat->D->Bool
 |_,.non=>true
 |_,.bl _=>true
 |_,.int _=>true
 |_,.str _=>true
 |k+1,.tup a=>a.all (plN k)
 |k+1,.lst a=>a.all (plN k)
 |_,_=>false
def pl (d:D):Bool:=plN 8 d
def plL (l:List D):Bool:=l.all pl
mutual
noncomputable def ltb:D->D->Bool
 | .int a,.int b=>decide (a<b)
 | .tup a,.tup b=>ltbL a b
 | .lst a,.lst b=>ltbL a b
 |_,_=>false
noncomputable def ltbL:List D->List D->Bool
 |[],_::_=>true
 |a::l,b::m=>if eqb a b then ltbL l m else ltb a b
 |_,[]=>false
end
mutual
noncomputable def q0V:D->D->Bool
 | .int _,.int _=>true
 | .tup a,.tup b=>q0l a b
 | .lst a,.lst b=>q0l a b
 |_,_=>false
noncomputable def q0l:List D->List D->Bool
 |a::l,b::m=>if eqb a b then q0l l m else q0V a b
 |_,_=>true
end
mutual
def q02:D->Bool
 | .int _=>true
 | .tup a=>q08 a
 |_=>false
def q08:List D->Bool
 |[]=>true
 |a::l=>q02 a&&q08 l
end
def ins (x:D):List D->List D
 |[]=>[x]
 |y::l=>if ltb x y then x::y::l else y::ins x l
def q20:List D->List D
 |[]=>[]
 |x::l=>ins x (q20 l)
def q1t (p:D->D->Bool) (l:List D):Bool:=l.all λ a=>l.all λ b=>p a b
def dedup:List D->List D
 |[]=>[]
 |x::l=>if l.any (eqb x) then dedup l else x::dedup l
def qAM (l:List D):Bool:=decide ((dedup l).length=l.length)
def tr:D->R Bool
 | .non=> .ok false
 | .bl b=> .ok b
 | .int i=> .ok (i != 0)
 | .str x=> .ok (x.length != 0)
 | .tup xs=> .ok (!xs.isEmpty)
 | .lst xs=> .ok (!xs.isEmpty)
 | .dct _ _=> .stuck
 | .exc _=> .stuck
inductive Op2 where|add|sub|mul|fdiv|mod|shl|shr|band|bor|bxor
 deriving DecidableEq,Repr
inductive Cm where|eq|ne|lt|le|gt|ge|isN|notN|mem|nmem
 deriving DecidableEq,Repr
inductive Bi where
 |len|sorted|sortedRev|sortedSet|tuple|list|sum|all|bits|count|index|min2|max2|any|maxT|toInt|abs|isTup|isLst|isInt|isBool|isVal|isExc (c:Nat)
 deriving DecidableEq,Repr
def big:Nat:=1000000
def lstD (f:List D->R D):D->R D
 | .lst xs=>f xs
 |_=> .stuck
def intD (f:Int->R D):D->R D
 | .int i=>f i
 |_=> .stuck
def tupD (f:List D->R D):D->R D
 | .tup xs=>f xs
 |_=> .stuck
def strD (f:Str->R D):D->R D
 | .str x=>f x
 |_=> .stuck
def nonD (r:R D):D->R D
 | .non=>r
 |_=> .stuck
noncomputable def addD (x y:D):R D:=match x with
 | .int a=>intD (λ b=> .ok (.int (a+b))) y
 | .lst a=>lstD (λ b=>if a.length+b.length<=big then .ok (.lst (a++b)) else .stuck) y
 | .tup a=>tupD (λ b=>if a.length+b.length<=big then .ok (.tup (a++b)) else .stuck) y
 | .str a=>strD (λ b=>if a.length+b.length<=big then .ok (.str (a++b)) else .stuck) y
 |_=> .stuck
noncomputable def mulD (x y:D):R D:=match x with
 | .int a=>intD (λ b=>if (-(2^62)<a/\a<2^62)\/(-(2^62)<b/\b<2^62) then .ok (.int (a*b)) else .stuck) y
 | .lst a=>intD (λ k=>if 0<=k/\k<=1000/\a.length*k.toNat<=big then .ok (.lst (Qh k.toNat a).flatten) else .stuck) y
 |_=> .stuck
noncomputable def opI:Op2->Int->Int->R D
 | .sub,a,b=> .ok (.int (a-b))
 | .fdiv,a,b=>if 0<b/\b<1073741824 then .ok (.int (a / b)) else .stuck
 | .mod,a,b=>if 0<b then .ok (.int (a % b)) else .stuck
 | .shl,a,b=>if 0<=a/\a<2^62/\0<=b/\b<=1000 then .ok (.int ((a.toNat <<< b.toNat:Nat):Int)) else .stuck
 | .shr,a,b=>if 0<=a/\0<=b then .ok (.int ((a.toNat >>> b.toNat:Nat):Int)) else .stuck
 | .band,a,b=>if 0<=a/\0<=b then .ok (.int ((a.toNat &&& b.toNat:Nat):Int)) else .stuck
 | .bor,a,b=>if 0<=a/\0<=b then .ok (.int ((a.toNat ||| b.toNat:Nat):Int)) else .stuck
 | .bxor,a,b=>if 0<=a/\0<=b then .ok (.int ((a.toNat ^^^ b.toNat:Nat):Int)) else .stuck
 |_,_,_=> .stuck
def opD (o:Op2) (x y:D):R D:=match o with
 | .add=>addD x y
 | .mul=>mulD x y
 |_=>intD (λ a=>intD (opI o a) y) x
theorem q7C (o:Op2) (h:o ≠ .add) (h2:o ≠ .mul) (a b:Int):opD o (.int a) (.int b)=opI o a b:=by
 unfold opD;split
 ·exact absurd rfl h
 ·exact absurd rfl h2
 ·dsimp only[intD]
noncomputable def memD (x:D):D->R Bool
 | .lst xs=>if pl x&&plL xs then .ok (xs.any λ y=>eqb y x) else .stuck
 | .tup xs=>if pl x&&plL xs then .ok (xs.any λ y=>eqb y x) else .stuck
 | .dct ks _=>match x with
  | .int i=> .ok (ks.any λ y=>eqb y (.int i))
  |_=> .stuck
 |_=> .stuck
noncomputable def cmD (o:Cm) (a b:D):R D:=match o with
 | .eq=>if pl a&&pl b then .ok (.bl (eqb a b)) else .stuck
 | .ne=>if pl a&&pl b then .ok (.bl (!eqb a b)) else .stuck
 | .lt=>if pl a&&pl b&&q02 a&&q02 b&&q0V a b then .ok (.bl (ltb a b)) else .stuck
 | .gt=>intD (λ a=>intD (λ b=> .ok (.bl (decide (b<a)))) b) a
 | .le=>intD (λ a=>intD (λ b=> .ok (.bl (decide (a<=b)))) b) a
 | .ge=>if pl a&&pl b&&q02 a&&q02 b&&q0V a b then .ok (.bl (!ltb a b)) else .stuck
 | .isN=>nonD (.ok (.bl (match a with | .non=>true|_=>false))) b
 | .notN=>nonD (.ok (.bl (match a with | .non=>false|_=>true))) b
 | .mem=>(memD a b).bind λ r=> .ok (.bl r)
 | .nmem=>(memD a b).bind λ r=> .ok (.bl (!r))
def nth (xs:List D) (i:Int):R D :=
 match (if 0<=i then xs[i.toNat]? else if -(xs.length:Int)<=i then xs[(i+xs.length).toNat]? else none) with
 |some d=> .ok d
 |none=> .stuck
def look (i:Int):List D->List D->R D
 | .int k::ks,v::vs=>if k=i then .ok v else look i ks vs
 |_,_=> .stuck
noncomputable def put (i:Int) (x:D):List D->List D->R (List D×List D)
 |[],[]=> .ok ([.int i],[x])
 | .int k::ks,v::vs=>if k=i then .ok (.int k::ks,x::vs) else (put i x ks vs).bind λ r=> .ok (.int k::r.1,v::r.2)
 |_,_=> .stuck
def idxD:D->D->R D
 | .lst xs,.int i=>nth xs i
 | .tup xs,.int i=>nth xs i
 | .dct ks vs,.int i=>look i ks vs
 |_,_=> .stuck
def bnd (n d:Nat):Option Int->Nat
 |none=>d
 |some v=>if v<0 then (v+n).toNat else min v.toNat n
def cutL {α:Type}(xs:List α) (lo hi:Option Int):List α:=(xs.drop (bnd xs.length 0 lo)).take (bnd xs.length xs.length hi-bnd xs.length 0 lo)
def qIG {α:Type}:List α->List α
 |[]=>[]
 |[a]=>[a]
 |[a,_]=>[a]
 |a::_::_::l=>a::qIG l
noncomputable def slD (st:Nat) (lo hi:Option Int):D->R D
 | .lst xs=>if st=0 then .ok (.lst (cutL xs lo hi)) else if st=1 then .ok (.lst xs.reverse) else if st=3 then .ok (.lst (qIG xs)) else .stuck
 | .tup xs=>if st=0 then .ok (.tup (cutL xs lo hi)) else .stuck
 |_=> .stuck
def ints?:List D->Option (List Int)
 |[]=>some []
 | .int i::l=>(ints? l).map (i::·)
 |_=>none
def bools?:List D->Option (List Bool)
 |[]=>some []
 | .bl i::l=>(bools? l).map (i::·)
 |_=>none
def q0W:D->R (List D)
 | .lst xs=> .ok xs
 | .tup xs=> .ok xs
 | .dct ks _=>if (ints? ks).isSome then .ok ks else .stuck
 |_=> .stuck
def q1u:D->R (List D)
 | .lst xs=> .ok xs
 | .tup xs=> .ok xs
 |_=> .stuck
def q4S:D->Bool
 | .int _=>true
 |_=>false
def q23:D->Bool
 | .tup (.int _::_)=>true
 |_=>false
def q1g:D->Bool
 | .tup []=>true
 | .tup (.int _::_)=>true
 |_=>false
def q1B (xs:List D):Bool:=decide (xs.length<64)&&q08 xs&&plL xs&&q1t q0V xs&&qAM xs&&(xs.all q4S || xs.all q1g)
def idxOf (x:D):List D->Nat->R D
 |[],_=> .stuck
 |y::l,n=>if eqb y x then .ok (.int n) else idxOf x l (n+1)
def oneD (f:D->R D):List D->R D
 |[d]=>f d
 |_=> .stuck
def twoD (f:D->D->R D):List D->R D
 |[d,e]=>f d e
 |_=> .stuck
def lenD:D->R D
 | .lst xs=> .ok (.int xs.length)
 | .tup xs=> .ok (.int xs.length)
 | .dct ks _=> .ok (.int ks.length)
 | .str x=> .ok (.int x.length)
 |_=> .stuck
def seqD (f:List D->R D):D->R D
 | .lst xs=>f xs
 | .tup xs=>f xs
 |_=> .stuck
def qIH:D->R D
 | .int a=> .ok (.int a)
 | .bl a=> .ok (.int (b2i a))
 |_=> .stuck
def qFm:D->R D
 | .int _=> .ok (.bl false)
 | .bl _=> .ok (.bl true)
 |_=> .stuck
def qII:D->R D
 | .tup _=> .ok (.bl true)
 |_=> .stuck
def excD (f:Nat->R D):D->R D
 | .exc c=>f c
 |_=> .stuck
def sumD (xs:List D):R D:=match ints? xs with
 |some ns=> .ok (.int ns.sum)
 |none=> .stuck
def allD (xs:List D):R D:=match bools? xs with
 |some bs=> .ok (.bl (bs.all id))
 |none=> .stuck
def anyD (xs:List D):R D:=match bools? xs with
 |some bs=> .ok (.bl (bs.any id))
 |none=> .stuck
def q4d:List Int->Int->Int
 |[],b=>b
 |x::l,b=>q4d l (if b<x then x else b)
def maxD (xs:List D):R D:=match ints? xs with
 |some (n::ns)=> .ok (.int (q4d ns n))
 |_=> .stuck
noncomputable def biD (sub:Nat->Nat->Bool) (b:Bi) (ds:List D):R D:=match b with
 | .len=>oneD lenD ds
 | .sorted=>oneD (λ d=>(q0W d).bind λ xs=>if q1B xs then .ok (.lst (q20 xs)) else .stuck) ds
 | .sortedRev=>oneD (λ d=>(q0W d).bind λ xs=>if q1B xs&&xs.all q4S then .ok (.lst (q20 xs).reverse) else .stuck) ds
 | .sortedSet=>oneD (λ d=>(q1u d).bind λ xs=>if q08 xs&&plL xs&&decide (xs.length<=1000)&&q1B (dedup xs) then .ok (.lst (q20 (dedup xs))) else .stuck) ds
 | .tuple=>oneD (seqD λ xs=> .ok (.tup xs)) ds
 | .list=>oneD (seqD λ xs=> .ok (.lst xs)) ds
 | .sum=>oneD (lstD sumD) ds
 | .all=>oneD (lstD allD) ds
 | .bits=>oneD (intD λ i=>if 0<=i then .ok (.int (if i=0 then 0 else ((i.toNat.log2+1:Nat):Int))) else .stuck) ds
 | .count=>twoD (λ d x=>lstD (λ xs=>if pl x&&plL xs then .ok (.int ((xs.filter λ y=>eqb y x).length)) else .stuck) d) ds
 | .index=>twoD (λ d x=>lstD (λ xs=>if pl x&&plL xs then idxOf x xs 0 else .stuck) d) ds
 | .min2=>twoD (λ x y=>intD (λ a=>intD (λ b=> .ok (.int (if b<a then b else a))) y) x) ds
 | .max2=>twoD (λ x y=>intD (λ a=>intD (λ b=> .ok (.int (if b > a then b else a))) y) x) ds
 | .any=>oneD (lstD anyD) ds
 | .maxT=>oneD (tupD maxD) ds
 | .toInt=>oneD qIH ds
 | .abs=>oneD (intD λ a=> .ok (.int (if a<0 then -a else a))) ds
 | .isTup=>oneD qII ds
 | .isLst=>oneD (lstD λ _=> .ok (.bl true)) ds
 | .isInt=>oneD (intD λ _=> .ok (.bl true)) ds
 | .isBool=>oneD qFm ds
 | .isVal=>oneD (excD λ _=> .ok (.bl true)) ds
 | .isExc c=>oneD (excD λ e=> .ok (.bl (sub e c))) ds
mutual
inductive L where
 |var (i:Nat)|bor (i:Nat)|con (d:D)
 |op (o:Op2) (a b:L)|cm (o:Cm) (a b:L)|neg (a:L)|not (a:L)|and (a b:L)|or (a b:L)|ite (c:T) (a b:L)
 |tup (xs:List L)|lst (xs:List L)|dct (k v:L)
 |idx (a i:L)|sl (st:Nat) (a:L) (lo hi:List L)
 |call (f:Nat) (xs:List L)|bi (b:Bi) (xs:List L)
 |comp (k:Nat) (elt:L) (it:I) (cond:List T)
 |skey (a:L) (f:Nat)|lrng (xs:List L)
inductive T where
 |e (a:L)|and (a b:T)|or (a b:T)|not (a:T)
inductive I where
 |rng (xs:List L)|e (a:L)|b (i:Nat)
end
inductive Sl where|val (d:D)|own (d:D)|own2 (xss:List (List D))
 deriving Inhabited
abbrev Env:=List (Option Sl)
def getV (ρ:Env) (i:Nat):R D:=match ρ[i]? with
 |some (some (.val d))=> .ok d
 |_=> .stuck
def getB (ρ:Env) (i:Nat):R D:=match ρ[i]? with
 |some (some (.val d))=> .ok d
 |some (some (.own d))=> .ok d
 |_=> .stuck
noncomputable def rngD:List D->R (List D)
 |[.int j]=>if -(2^62)<=j/\j<2^62 then .ok ((Qk j.toNat).map λ (k:Nat)=> .int k) else .stuck
 |[.int i,.int j]=>if -(2^62)<=i/\i<2^62/\-(2^62)<=j/\j<2^62 then .ok ((Qk (j-i).toNat).map λ (k:Nat)=> .int (i+k)) else .stuck
 |_=> .stuck
def unp (k:Nat) (d:D):R (List D) :=
 if k=0 then .ok [d] else match d with
  | .tup xs=>if xs.length=k then .ok xs else .stuck
  |_=> .stuck
def vals (ds:List D):Env:=ds.map λ d=>some (.val d)
noncomputable def q0U (elt:Env->R D) (cond:Env->R Bool) (k:Nat) (ρ:Env):List D->R (List D)
 |[]=> .ok []
 |d::ds=>(unp k d).bind λ xs=>(cond (vals xs++ρ)).bind λ b =>
   if b then (elt (vals xs++ρ)).bind λ e=>(q0U elt cond k ρ ds).bind λ es=> .ok (e::es) else q0U elt cond k ρ ds
def R.q6E {α:Type}:R α->R α
 | .err _=> .stuck
 |r=>r
@[simp] theorem q0b {α:Type}(a:α):(R.ok a).q6E = .ok a:=rfl
@[simp] theorem qFn {α:Type}:(R.stuck:R α).q6E = .stuck:=rfl
@[simp] theorem qIJ {α:Type}(c:Nat):(R.err c:R α).q6E = .stuck:=rfl
def optI:List D->R (Option Int)
 |[]=> .ok none
 |[.int i]=> .ok (some i)
 |_=> .stuck
def q7D (ps:List (D×D)):List (D×D):=ps.foldr (λ x l=>insK x l) []
where
 insK (x:D×D):List (D×D)->List (D×D)
  |[]=>[x]
  |y::l=>if ltb x.1 y.1 then x::y::l else y::insK x l
def mapR (f:D->R D):List D->R (List D)
 |[]=> .ok []
 |x::l=>(f x).bind λ y=>(mapR f l).bind λ m=> .ok (y::m)
section
variable (G:Nat->List D->R D) (sub:Nat->Nat->Bool)
mutual
noncomputable def ev:L->Env->R D
 | .var i,ρ=>getV ρ i
 | .bor i,ρ=>getB ρ i
 | .con d,_=> .ok d
 | .op o a b,ρ=>(ev a ρ).bind λ x=>(ev b ρ).bind λ y=>opD o x y
 | .cm o a b,ρ=>(ev a ρ).bind λ x=>(ev b ρ).bind λ y=>cmD o x y
 | .neg a,ρ=>(ev a ρ).bind λ x=>match x with
   | .int i=> .ok (.int (-i))
   |_=> .stuck
 | .not a,ρ=>(ev a ρ).bind λ x=>(tr x).bind λ b=> .ok (.bl (!b))
 | .and a b,ρ=>(ev a ρ).bind λ x=>match x with
   | .bl true=>ev b ρ
   | .bl false=> .ok (.bl false)
   |_=> .stuck
 | .or a b,ρ=>(ev a ρ).bind λ x=>match x with
   | .bl true=> .ok (.bl true)
   | .bl false=>ev b ρ
   |_=> .stuck
 | .ite c a b,ρ=>(tst c ρ).bind λ t=>if t then ev a ρ else ev b ρ
 | .tup xs,ρ=>(evs xs ρ).bind λ ds=>if ds.length<=big then .ok (.tup ds) else .stuck
 | .lst xs,ρ=>(evs xs ρ).bind λ ds=>if ds.length<=big then .ok (.lst ds) else .stuck
 | .dct k v,ρ=>(ev k ρ).bind λ x=>(ev v ρ).bind λ y=>match x with
   | .int i=> .ok (.dct [.int i] [y])
   |_=> .stuck
 | .idx a i,ρ=>(ev a ρ).bind λ x=>(ev i ρ).bind λ y=>idxD x y
 | .sl st a lo hi,ρ=>(ev a ρ).bind λ x=>(evs lo ρ).bind λ l=>(evs hi ρ).bind λ h=>(optI l).bind λ l=>(optI h).bind λ h=>slD st l h x
 | .call f xs,ρ=>(evs xs ρ).bind λ ds=>G f ds
 | .bi b xs,ρ=>(evs xs ρ).bind λ ds=>biD sub b ds
 | .comp k elt it cond,ρ=>(evi it ρ).bind λ ds=>(q0U (ev elt) (tsts cond) k ρ ds).q6E.bind λ es=>if es.length<=big then .ok (.lst es) else .stuck
 | .skey a f,ρ=>(ev a ρ).bind λ d=>(q0W d).bind λ xs=>(mapR (λ x=>G f [x]) xs).q6E.bind λ ks =>
   if q1B ks then .ok (.lst ((q7D (ks.zip xs)).map (·.2))) else .stuck
 | .lrng xs,ρ=>(evs xs ρ).bind λ ds=>(rngD ds).bind λ is=>if is.length<=big then .ok (.lst is) else .stuck
noncomputable def evs:List L->Env->R (List D)
 |[],_=> .ok []
 |a::l,ρ=>(ev a ρ).bind λ x=>(evs l ρ).bind λ xs=> .ok (x::xs)
noncomputable def evi:I->Env->R (List D)
 | .rng xs,ρ=>(evs xs ρ).bind rngD
 | .e a,ρ=>(ev a ρ).bind q0W
 | .b i,ρ=>(getB ρ i).bind q1u
noncomputable def tst:T->Env->R Bool
 | .and a b,ρ=>(tst a ρ).bind λ t=>if t then tst b ρ else .ok false
 | .or a b,ρ=>(tst a ρ).bind λ t=>if t then .ok true else tst b ρ
 | .not a,ρ=>(tst a ρ).bind λ t=> .ok (!t)
 | .e a,ρ=>(ev a ρ).bind tr
noncomputable def tsts:List T->Env->R Bool
 |[],_=> .ok true
 |a::l,ρ=>(tst a ρ).bind λ t=>if t then tsts l ρ else .ok false
end
end
inductive S where
 |set (i:Nat) (a:L)|setO (i:Nat) (a:L)|setT (is:List Nat) (a:L)|aug (i:Nat) (o:Op2) (a:L)
 |setE (i:Nat) (a:L)|app2 (i:Nat) (k a:L)|frz (i j:Nat)
 |app (i:Nat) (a:L)|ext (i:Nat) (a:L)|pop (j i:Nat)|put (i:Nat) (k v:L)
 |expr (a:L)|ifs (c:T) (a b:List S)|forr (k:Nat) (is:List Nat) (it:I) (body:List S)|whl (c:T) (body:List S)
 |ret (a:L)|retN|retO (i:Nat)|brk|cont|pass
 |raise (c:Nat)|tryE (body:List S) (c i j:Nat)|fz (i:Nat) (s:S)
inductive F where|nx|brk|cont|ret (d:D)
inductive RS where|ok (ρ:Env) (f:F)|err (c:Nat) (ρ:Env)|stuck
def R.go {α:Type}(r:R α) (ρ:Env) (f:α->RS):RS:=match r with
 | .ok a=>f a
 | .err c=> .err c ρ
 | .stuck=> .stuck
@[simp] theorem q07 {α:Type}(a:α) (ρ:Env) (f:α->RS):(R.ok a).go ρ f=f a:=rfl
@[simp] theorem go_err {α:Type}(c:Nat) (ρ:Env) (f:α->RS):(R.err c:R α).go ρ f = .err c ρ:=rfl
@[simp] theorem qKK {α:Type}(ρ:Env) (f:α->RS):(R.stuck:R α).go ρ f = .stuck:=rfl
def RS.nx (r:RS) (f:Env->RS):RS:=match r with
 | .ok ρ .nx=>f ρ
 |r=>r
@[simp] theorem q5b (ρ:Env) (f:Env->RS):(RS.ok ρ .nx).nx f=f ρ:=rfl
@[simp] theorem qIK (ρ:Env) (d:D) (f:Env->RS):(RS.ok ρ (.ret d)).nx f = .ok ρ (.ret d):=rfl
@[simp] theorem nx_brk (ρ:Env) (f:Env->RS):(RS.ok ρ .brk).nx f = .ok ρ .brk:=rfl
@[simp] theorem qKi (ρ:Env) (f:Env->RS):(RS.ok ρ .cont).nx f = .ok ρ .cont:=rfl
@[simp] theorem qEo (ρ:Env) (c:Nat) (f:Env->RS):(RS.err c ρ).nx f = .err c ρ:=rfl
def RS.turn (r:RS) (f:Env->RS):RS:=match r with
 | .ok ρ .nx=>f ρ
 | .ok ρ .cont=>f ρ
 | .ok ρ .brk=> .ok ρ .nx
 | .ok ρ (.ret d)=> .ok ρ (.ret d)
 | .err c ρ=> .err c ρ
 | .stuck=> .stuck
@[simp] theorem q21 (ρ:Env) (f:Env->RS):(RS.ok ρ .nx).turn f=f ρ:=rfl
@[simp] theorem qIL (ρ:Env) (f:Env->RS):(RS.ok ρ .cont).turn f=f ρ:=rfl
@[simp] theorem qKL (ρ:Env) (f:Env->RS):(RS.ok ρ .brk).turn f = .ok ρ .nx:=rfl
@[simp] theorem qKM (ρ:Env) (d:D) (f:Env->RS):(RS.ok ρ (.ret d)).turn f = .ok ρ (.ret d):=rfl
@[simp] theorem qKN (ρ:Env) (c:Nat) (f:Env->RS):(RS.err c ρ).turn f = .err c ρ:=rfl
def q2p:List Nat->List D->Env->Env
 |i::is,d::ds,ρ=>q2p is ds (ρ.set i (some (.val d)))
 |_,_,ρ=>ρ
def q0z (body:Env->RS) (k:Nat) (is:List Nat):List D->Env->RS
 |[],ρ=> .ok ρ .nx
 |d::ds,ρ=>(unp k d).go ρ λ xs=>(body (q2p is xs ρ)).turn λ ρ'=>q0z body k is ds ρ'
def q1R (c:Env->R Bool) (body:Env->RS):Nat->Env->RS
 |0,_=> .stuck
 |n+1,ρ=>(c ρ).go ρ λ t=>if t then (body ρ).turn λ ρ'=>q1R c body n ρ' else .ok ρ .nx
def augD (o:Op2):D->D->R D
 | .int m,.int n=>opD o (.int m) (.int n)
 |_,_=> .stuck
section
variable (G:Nat->List D->R D) (sub:Nat->Nat->Bool)
mutual
noncomputable def ex:S->Env->RS
 | .set i a,ρ=>(ev G sub a ρ).go ρ λ d=> .ok (ρ.set i (some (.val d))) .nx
 | .setO i a,ρ=>(ev G sub a ρ).go ρ λ d=> .ok (ρ.set i (some (.own d))) .nx
 | .setT is a,ρ=>(ev G sub a ρ).go ρ λ d=>(unp is.length d).go ρ λ xs=> .ok (q2p is xs ρ) .nx
 | .aug i o a,ρ=>(getV ρ i).go ρ λ x=>(ev G sub a ρ).go ρ λ y=>(augD o x y).go ρ λ z=> .ok (ρ.set i (some (.val z))) .nx
 | .app i a,ρ=>match ρ[i]? with
   |some (some (.own (.lst xs)))=>(ev G sub a ρ).go ρ λ d=>if xs.length<big then .ok (ρ.set i (some (.own (.lst (xs++[d]))))) .nx else .stuck
   |_=> .stuck
 | .ext i a,ρ=>match ρ[i]? with
   |some (some (.own (.lst xs)))=>(ev G sub a ρ).go ρ λ d=>match d with
     | .lst ys=>if xs.length+ys.length<=big then .ok (ρ.set i (some (.own (.lst (xs++ys))))) .nx else .stuck
     |_=> .stuck
   |_=> .stuck
 | .pop j i,ρ=>match ρ[i]? with
   |some (some (.own (.lst xs)))=>match xs.getLast? with
     |some d=> .ok ((ρ.set i (some (.own (.lst xs.dropLast)))).set j (some (.val d))) .nx
     |none=> .stuck
   |_=> .stuck
 | .put i k v,ρ=>match ρ[i]? with
   |some (some (.own (.dct ks vs)))=>(ev G sub v ρ).go ρ λ y=>(ev G sub k ρ).go ρ λ x=>match x with
     | .int n=>if ks.length<big then (put n y ks vs).go ρ λ r=> .ok (ρ.set i (some (.own (.dct r.1 r.2)))) .nx else .stuck
     |_=> .stuck
   |_=> .stuck
 | .setE i a,ρ=>(ev G sub a ρ).go ρ λ d=>match d with
   | .int n=>if 0<=n/\n<=1000 then .ok (ρ.set i (some (.own2 (Qh n.toNat [])))) .nx else .stuck
   |_=> .stuck
 | .app2 i k a,ρ=>match ρ[i]? with
   |some (some (.own2 xss))=>(ev G sub k ρ).go ρ λ x=>match x with
     | .int n=>if 0<=n then (match xss[n.toNat]? with
       |some ys=>(ev G sub a ρ).go ρ λ d=>if ys.length<big then .ok (ρ.set i (some (.own2 (xss.set n.toNat (ys++[d]))))) .nx else .stuck
       |none=> .stuck) else .stuck
     |_=> .stuck
   |_=> .stuck
 | .frz i j,ρ=>match ρ[j]? with
   |some (some (.own (.lst xs)))=>if i=j then .stuck else .ok ((ρ.set j (some (.val (.lst xs)))).set i (some (.val (.lst xs)))) .nx
   |_=> .stuck
 | .expr a,ρ=>(ev G sub a ρ).go ρ λ _=> .ok ρ .nx
 | .ifs c a b,ρ=>(tst G sub c ρ).go ρ λ t=>if t then exs a ρ else exs b ρ
 | .forr k is it body,ρ=>(evi G sub it ρ).go ρ λ ds=>q0z (exs body) k is ds ρ
 | .whl c body,ρ=>q1R (tst G sub c) (exs body) 100000 ρ
 | .ret a,ρ=>(ev G sub a ρ).go ρ λ d=> .ok ρ (.ret d)
 | .retN,ρ=> .ok ρ (.ret .non)
 | .retO i,ρ=>match ρ[i]? with
   |some (some (.own d))=> .ok (ρ.set i none) (.ret d)
   |some (some (.own2 xss))=> .ok (ρ.set i none) (.ret (.lst (xss.map .lst)))
   |_=> .stuck
 | .brk,ρ=> .ok ρ .brk
 | .cont,ρ=> .ok ρ .cont
 | .pass,ρ=> .ok ρ .nx
 | .raise c,ρ=> .err c ρ
 | .fz i s,ρ=>match ρ[i]? with
   |some (some (.own (.dct ks vs)))=>ex s (ρ.set i (some (.val (.dct ks vs))))
   |_=> .stuck
 | .tryE body c i j,ρ=>match exs body ρ with
   | .err e ρ'=>if sub e c then .ok ((ρ'.set j (some (.val (.exc e)))).set i none) .nx else .stuck
   |r=>r
noncomputable def exs:List S->Env->RS
 |[],ρ=> .ok ρ .nx
 |s::l,ρ=>(ex s ρ).nx λ ρ'=>exs l ρ'
end
def run (n:Nat) (body:List S) (ds:List D):R D:=match exs G sub body (vals ds++Qh (n-ds.length) none) with
 | .ok _ .nx=> .ok .non
 | .ok _ (.ret d)=> .ok d
 | .err c _=> .err c
 |_=> .stuck
end
structure Ct where
 N:List Str
 kinds:List (Str×NameKind)
 funs:List Str
 consts:List (Str×D)
 excs:List Str
 muts:List Str
 fresh:List Str
 deep:List Str
def ixOf (x:Str):List Str->Option Nat
 |[]=>none
 |y::l=>if x=y then some 0 else (ixOf x l).map (·+1)
def q2Q (x:Str):Bool:=!(x==Str.ofString "__debug__")&&!(x==Str.ofString "__classdict__")
def Ct.vis (C:Ct) (x:Str):Bool:=q2Q x&&match C.kinds.lookup x with
 |some .local|some .cell|some .free=>true
 |_=>false
def Ct.loc (C:Ct) (x:Str):Option Nat:=if q2Q x then (match C.kinds.lookup x with
 |some .local|some .cell=>ixOf x C.N
 |_=>none) else none
def Ct.glob (C:Ct) (x:Str):Bool:=q2Q x&&decide (C.kinds.lookup x=some .globalImplicit)
noncomputable def opOf:Operator->Option Op2
 | .Add=>some .add | .Sub=>some .sub | .Mult=>some .mul | .FloorDiv=>some .fdiv | .Mod=>some .mod | .LShift=>some .shl | .RShift=>some .shr
 | .BitAnd=>some .band | .BitOr=>some .bor | .BitXor=>some .bxor|_=>none
def cmOf:CmpOp->Cm
 | .Eq=> .eq | .NotEq=> .ne | .Lt=> .lt | .LtE=> .le | .Gt=> .gt | .GtE=> .ge | .Is=> .isN | .IsNot=> .notN | .In=> .mem | .NotIn=> .nmem
def q8I:Const->Option D
 | .none=>some .non | .bool b=>some (.bl b) | .int i=>some (.int i) | .str x=>if x.length<=1000 then some (.str x) else none|_=>none
def qB7 (x:Str):Str:=⟨#[33]++x.cps⟩
def Ct.inner (C:Ct) (ts:List Str) (sc:Scope):Ct :=
 {C with N:=ts++C.N.map (λ x=>if x∈ts then qB7 x else x),kinds:=sc.names,muts:=C.muts.filter (λ x=>!decide (x∈ts))}
noncomputable def Ct.scOk (C:Ct) (ts:List Str) (sc:Scope):Bool :=
 decide (sc.kind = .function)&&decide ((C.inner ts sc).N.Nodup)&&ts.all (λ x=>decide (sc.names.lookup x=some .local) || decide (sc.names.lookup x=some .cell)) &&
 sc.names.all (λ y=>(decide (y.2 ≠ .cell) || decide (y.1∈ts)&&decide (sc.names.lookup y.1=some .cell))&&(decide (y.2 ≠ .free) || decide (C.kinds.lookup y.1=some .cell) || decide (C.kinds.lookup y.1=some .free))&&(decide (y.2 ≠ .local) || decide (sc.names.lookup y.1=some .local))) &&
 C.N.all (λ y=>if y∈ts then decide (sc.names.lookup (qB7 y)=none) else decide (sc.names.lookup y≠some .local))
def Expr.isName:Expr->Option Str
 | .Name x _=>some x
 |_=>none
theorem q0E {e:Expr}{x:Str}(h:Expr.isName e=some x):∃q,e = .Name x q:=by
 unfold Expr.isName at h;split at h
 ·cases h;exact⟨_,rfl⟩
 ·cases h
def pair {α:Type}:List α->Option (α×α)
 |[a,b]=>some (a,b)
 |_=>none
theorem qFo {α:Type}{l:List α}{r:α×α}(h:pair l=some r):l=[r.1,r.2]:=by
 cases l with
 |nil=>cases h
 |cons a l=>cases l with
  |nil=>cases h
  |cons b l=>cases l with
   |nil=>cases h;rfl
   |cons _ _=>cases h
def tgs:Expr->Option (Nat×List Str)
 | .Name x _=>some (0,[x])
 | .Tuple xs _ _=>(pair xs).bind λ ab=>(Expr.isName ab.1).bind λ x=>(Expr.isName ab.2).map λ y=>(2,[x,y])
 |_=>none
noncomputable def bi1 (x:Str):Option Bi :=
 if x=Str.ofString "len" then some .len else if x=Str.ofString "sorted" then some .sorted else if x=Str.ofString "tuple" then some .tuple else if x=Str.ofString "list" then some .list
 else if x=Str.ofString "all" then some .all else if x=Str.ofString "any" then some .any else if x=Str.ofString "max" then some .maxT else none
noncomputable def isOf (C:Ct) (x:Str):Option Bi :=
 if C.glob x then
  if x=Str.ofString "tuple" then some .isTup else if x=Str.ofString "list" then some .isLst else if x=Str.ofString "int" then some .isInt else if x=Str.ofString "bool" then some .isBool
  else if x=Str.ofString "ValueError" then some .isVal else (ixOf x C.excs).map .isExc
 else none
def q8J:Expr->Bool
 | .BoolOp _ _ _=>true
 | .UnaryOp .Not _ _=>true
 |_=>false
def sole {α:Type}:List α->Option α
 |[a]=>some a
 |_=>none
theorem q11 {α:Type}{l:List α}{a:α}(h:sole l=some a):l=[a]:=by
 cases l with
 |nil=>cases h
 |cons b r=>cases r with
  |nil=>cases h;rfl
  |cons _ _=>cases h
def qEp:Option Expr->Option Nat
 |none=>some 0
 |_=>none
def qDP:Expr->Option (Str×List Expr)
 | .Call f args kws _=>if kws.isEmpty then (Expr.isName f).map λ f=>(f,args) else none
 |_=>none
theorem q9A {e:Expr}{f:Str}{args:List Expr}(h:qDP e=some (f,args)):∃q pos,e = .Call (.Name f q) args [] pos:=by
 unfold qDP at h;split at h
 ·split at h
  ·rename_i hk;obtain⟨x,e1,e2⟩:=oM h;obtain⟨q,rfl⟩:=q0E e1;cases e2;cases QO.mp hk;exact⟨_,_,rfl⟩
  ·cases h
 ·cases h
def qIM (C:Ct) (e:Expr):Option (List Expr):=(qDP e).bind λ y=>if y.1=Str.ofString "range"/\C.glob y.1/\ixOf y.1 C.funs=none then some y.2 else none
def q6F (e:Expr):Option (Str×Expr):=(qDP e).bind λ y=>(sole y.2).map λ a=>(y.1,a)
theorem q3w {e:Expr}{g:Str}{a:Expr}(h:q6F e=some (g,a)):∃q pos,e = .Call (.Name g q) [a] [] pos:=by obtain⟨⟨f,as⟩,g1,h⟩:=oB h;obtain⟨b,g2,h⟩:=oM h;cases h;have z:as=[_]:=q11 g2;subst z;exact q9A g1
mutual
/-- a value -/
noncomputable def cE:Nat->Ct->Expr->Option L
 |0,_,_=>none
 |n+1,C,e=>match e with
  | .Constant c _ _=>(q8I c).map .con
  | .Name x _=>if C.vis x then (if x∈C.muts then none else (ixOf x C.N).map .var) else if C.glob x then (C.consts.lookup x).map .con else none
  | .BinOp a op b _=>(opOf op).bind λ o=>(cB n C a).bind λ a=>(cB n C b).map (.op o a)
  | .Compare a ops bs _=>(sole ops).bind λ op=>(sole bs).bind λ b=>(cB n C a).bind λ a=>(cB n C b).map (.cm (cmOf op) a)
  | .UnaryOp op a _=>match op with
   | .Not=>(cB n C a).map .not
   | .USub=>(cE n C a).map .neg
   |_=>none
  | .BoolOp op xs _=>cBo n C op xs
  | .IfExp c a b _=>(cT n C c).bind λ c=>(cE n C a).bind λ a=>(cE n C b).map (.ite c a)
  | .Tuple xs _ _=>(cEs n C xs).map .tup
  | .List xs _=>(cEs n C xs).map .lst
  | .Subscript a i _=>match i with
   | .Slice lo hi st _=>(qEp st).bind λ k=>(cB n C a).bind λ a=>(cEs n C lo.toList).bind λ lo=>(cEs n C hi.toList).bind λ hi=>if k=0\/(lo.isEmpty/\hi.isEmpty) then some (.sl k a lo hi) else none
   |i=>(cB n C a).bind λ a=>(cE n C i).map (.idx a)
  | .Call g args kws cp=>match g with
   | .Name f _=>if C.glob f then (match ixOf f C.funs with
    |some i=>if kws.isEmpty/\¬args.isEmpty then (cEs n C args).map (.call i) else none
    |none=>if kws.isEmpty then qDQ n C f args else none)
    else none
   | .Attribute o m ap=>if kws.isEmpty/\ap.endLine==cp.line then (cB n C o).bind λ o=>if args.isEmpty then (if m=Str.ofString "bit_length" then some (.bi .bits [o]) else none) else (sole args).bind λ y=>match y with
    | .Constant c _ _=>(q8I c).bind λ d=>if m=Str.ofString "count" then some (.bi .count [o,.con d]) else if m=Str.ofString "index" then some (.bi .index [o,.con d]) else none
    |_=>none
    else none
   |_=>none
  | .ListComp elt gs sc _=>(sole gs).bind λ g=>if g.is_async=0 then (tgs g.target).bind λ t=>(cI n C g.iter).bind λ it=>(cE n (C.inner t.2 sc) elt).bind λ elt=>(cTs n (C.inner t.2 sc) g.ifs).bind λ ifs=>if C.scOk t.2 sc&&decide (ifs.length<=1) then some (.comp t.1 elt it ifs) else none else none
  |_=>none
/-- a value that is looked at and not kept: an owned name may stand here -/
noncomputable def cB:Nat->Ct->Expr->Option L
 |0,_,_=>none
 |n+1,C,e=>match e with
  | .Name x p=>if C.vis x/\x∈C.muts then (ixOf x C.N).map .bor else cE n C (.Name x p)
  |e=>cE n C e
noncomputable def cEs:Nat->Ct->List Expr->Option (List L)
 |0,_,_=>none
 |_+1,_,[]=>some []
 |n+1,C,e::es=>(cE n C e).bind λ a=>(cEs n C es).map λ l=>a::l
noncomputable def cBo:Nat->Ct->BoolOp->List Expr->Option L
 |0,_,_,_=>none
 |n+1,C,_,[a]=>cE n C a
 |n+1,C,op,a::b::r=>(cE n C a).bind λ a=>(cBo n C op (b::r)).map λ b=>match op with | .And=> .and a b | .Or=> .or a b
 |_+1,_,_,[]=>none
noncomputable def cT:Nat->Ct->Expr->Option T
 |0,_,_=>none
 |n+1,C,e=>match e with
  | .BoolOp op xs _=>cTo n C op xs
  | .UnaryOp .Not a _=>(cT n C a).map .not
  | .IfExp _ _ _ _=>none
  |e=>(cB n C e).map .e
noncomputable def cTo:Nat->Ct->BoolOp->List Expr->Option T
 |0,_,_,_=>none
 |n+1,C,_,[a]=>cT n C a
 |n+1,C,op,a::b::r=>(cT n C a).bind λ a=>(cTo n C op (b::r)).map λ b=>match op with | .And=> .and a b | .Or=> .or a b
 |_+1,_,_,[]=>none
noncomputable def cTs:Nat->Ct->List Expr->Option (List T)
 |0,_,_=>none
 |_+1,_,[]=>some []
 |n+1,C,e::es=>(cT n C e).bind λ a=>(cTs n C es).map λ l=>a::l
noncomputable def cI:Nat->Ct->Expr->Option I
 |0,_,_=>none
 |n+1,C,e=>match qIM C e with
  |some args=>if args.length=1\/args.length=2 then (cEs n C args).map .rng else none
  |none=>match Expr.isName e with
   |some x=>if C.vis x/\x∈C.muts then (ixOf x C.N).map .b else (cE n C e).map .e
   |none=>(cE n C e).map .e
noncomputable def qDQ:Nat->Ct->Str->List Expr->Option L
 |0,_,_,_=>none
 |n+1,C,f,args=>match args with
  |[y]=>match q6F y with
   |some (g,a)=>if f=Str.ofString "list"/\g=Str.ofString "range"/\C.glob g/\ixOf g C.funs=none then (cE n C a).map λ l=> .lrng [l] else if f=Str.ofString "sorted"/\g=Str.ofString "set"/\C.glob g/\ixOf g C.funs=none then (cB n C a).map λ a=> .bi .sortedSet [a]
    else (bi1 f).bind λ b=>(cB n C y).map λ a=> .bi b [a]
   |none=>(bi1 f).bind λ b=>(cB n C y).map λ a=> .bi b [a]
  |[a,y]=>if f=Str.ofString "isinstance" then (Expr.isName y).bind λ c=>(cB n C a).bind λ a=>(isOf C c).map λ b=> .bi b [a] else none
  |_=>none
end
def Ct.q8K (C:Ct):Expr->Bool
 | .Name x _=>decide (x∈C.muts)
 |_=>false
def qDR:Expr->Bool
 | .Constant (.str x) _ _=>decide (x.length<=1000)
 |_=>false
noncomputable def Ct.qFp (C:Ct):Expr->Bool
 | .FormattedValue e k sp _=>decide (k = -1)&&sp.isNone&&match Expr.isName e with
  |some y=>C.glob y&&match C.consts.lookup y with
   |some (.int a)=>decide (a.natAbs.log2<1920)&&decide ((Str.ofString (toString a)).length<=1000)
   |_=>false
  |none=>false
 |_=>false
def Ct.qDS (C:Ct):Expr->Bool
 | .JoinedStr xs _=>match xs with
  |a::b::r=>qDR a&&C.qFp b&&(match r with
   |[]=>true
   |[c]=>qDR c
   |_=>false)
  |_=>false
 |e=>qDR e
def qB8:Expr->Option (Expr×List Expr×List Keyword×Pos)
 | .Call f a k p=>some (f,a,k,p)
 |_=>none
theorem qB9 {e:Expr}{r:Expr×List Expr×List Keyword×Pos}(h:qB8 e=some r):e = .Call r.1 r.2.1 r.2.2.1 r.2.2.2:=by
 unfold qB8 at h;split at h
 ·cases h;rfl
 ·cases h
def qBA (e:Expr):Option (Expr×Str×List Expr×Pos×Pos):=(qB8 e).bind λ c=>if c.2.2.1.isEmpty then (match c.1 with
 | .Attribute o m ap=>some (o,m,c.2.1,ap,c.2.2.2)
 |_=>none) else none
theorem q7E {e o:Expr}{m:Str}{as:List Expr}{ap cp:Pos}(h:qBA e=some (o,m,as,ap,cp)):e = .Call (.Attribute o m ap) as [] cp:=by
 obtain⟨⟨f,a,k,p⟩,h1,h⟩:=oB h;rw[qB9 h1];dsimp only at h |-;split at h
 ·rename_i hk;cases QO.mp hk;split at h
  ·cases h;rfl
  ·cases h
 ·cases h
def nilL:Expr->Bool
 | .List xs _=>xs.isEmpty
 |_=>false
noncomputable def deepOf:Expr->Option (Str×Str×Expr×Scope×Pos)
 | .ListComp elt gs sc vp=>if nilL elt then (sole gs).bind λ g=>if g.ifs.isEmpty/\g.is_async=0 then (Expr.isName g.target).bind λ t=>(q6F g.iter).map λ f=>(t,f.1,f.2,sc,vp) else none else none
 |_=>none
theorem qBB {v:Expr}{t g:Str}{a:Expr}{sc:Scope}{vp:Pos}(h:deepOf v=some (t,g,a,sc,vp)):∃q1 q2 q3 q4,v = .ListComp (.List [] q1) [⟨.Name t q2,.Call (.Name g q3) [a] [] q4,[],0⟩] sc vp:=by
 unfold deepOf at h;split at h
 ·split at h
  ·rename_i hn;obtain⟨⟨tg,it,ifs,k⟩,hg,h⟩:=oB h;dsimp only at h;split at h
   ·rename_i hc;obtain⟨x,h1,h⟩:=oB h;obtain⟨⟨f,b⟩,h2,h⟩:=oM h;cases h;obtain⟨q2,rfl⟩:=q0E h1;obtain⟨q3,q4,rfl⟩:=q3w h2;obtain⟨hc1,hc2⟩:=hc;rw[q11 hg,QO.mp hc1,hc2];unfold nilL at hn;split at hn
    ·rw[QO.mp hn];exact⟨_,_,_,_,rfl⟩
    ·cases hn
   ·cases h
  ·cases h
 ·cases h
noncomputable def qFq (C:Ct) (fE:Expr->Option L) (x:Str) (xp:Pos) (i:Nat) (v:Expr):Option S:=(deepOf v).bind λ d=>if d.2.1=Str.ofString "range"/\C.glob d.2.1/\ixOf d.2.1 C.funs=none/\x∈C.muts/\C.scOk [d.1] d.2.2.2.1/\C.kinds.lookup x=some .local/\(xp.line==d.2.2.2.2.line)=true/\d.2.2.2.1.names.lookup d.1=some .local/\
 (d.2.2.2.1.names.any λ y=>y.1==x&&(y.2 == .local || y.2 == .cell))=false then (fE d.2.2.1).map (.setE i) else none
noncomputable def qFr (C:Ct) (fE:Expr->Option L) (fEs:List Expr->Option (List L)) (i:Nat):Expr->Option S
 | .List xs _=>(fEs xs).map λ l=> .setO i (.lst l)
 | .Dict ks ws _=>if ks.isEmpty/\ws.isEmpty then some (.setO i (.con (.dct [] []))) else (sole ks).bind λ k=>k.bind λ k=>(sole ws).bind λ w=>(fE k).bind λ k=>(fE w).map λ w=> .setO i (.dct k w)
 |_=>none
noncomputable def qFs (C:Ct) (fE:Expr->Option L) (i:Nat) (v:Expr):Option S:=match qBA v with
 |some (o,m,as,ap,cp)=>(match Expr.isName o with
  |some y=>if y∈C.muts/\m=Str.ofString "pop" then (if as.isEmpty&&ap.endLine==cp.line&&q2Q y then (C.loc y).map (.pop i) else none) else (fE v).map (.set i)
  |none=>(fE v).map (.set i))
 |none=>match Expr.isName v with
  |some y=>if y∈C.muts then none else (fE v).map (.set i)
  |none=>(fE v).map (.set i)
noncomputable def cAsg (C:Ct) (fE:Expr->Option L) (fEs:List Expr->Option (List L)) (ts:List Expr) (v:Expr):Option S:=(sole ts).bind λ t=>match t with
 | .Name x xp=>(C.loc x).bind λ i=>if x∈C.deep then qFq C fE x xp i v else if x∈C.muts then qFr C fE fEs i v else qFs C fE i v
 | .Subscript o k _=>(Expr.isName o).bind λ x=>if x∈C.muts/\q2Q x then (C.loc x).bind λ i=>(fE k).bind λ k=>(fE v).map (.put i k) else none
 |_=>none
def cAug (C:Ct) (fE:Expr->Option L) (t:Expr) (op:Operator) (v:Expr):Option S:=(Expr.isName t).bind λ x=>if x∈C.muts then none else (C.loc x).bind λ i=>(opOf op).bind λ o=>(fE v).map (.aug i o)
noncomputable def qIN (C:Ct) (fE:Expr->Option L) (fEs:List Expr->Option (List L)) (m:Str) (as:List Expr) (ap cp:Pos):Expr->Option S
 | .Name x _=>if x∈C.muts/\(ap.endLine==cp.line)=true/\q2Q x/\m=Str.ofString "extend" then (sole as).bind λ a=>(C.loc x).bind λ i=>(fE a).map (.ext i) else if x∈C.muts/\(ap.endLine==cp.line)=true/\q2Q x/\m=Str.ofString "append" then (sole as).bind λ a=>(C.loc x).bind λ i=>(fE a).map (.app i) else none
 | .Subscript o k _=>(Expr.isName o).bind λ x=>if (ap.endLine==cp.line)=true/\q2Q x/\x∈C.deep/\x∈C.muts/\m=Str.ofString "append" then (sole as).bind λ a=>(C.loc x).bind λ i=>(fE k).bind λ k=>(fE a).map (.app2 i k) else none
 |_=>none
def qIO:Expr->Bool
 | .ListComp _ _ _ _=>true
 |_=>false
def qEq:Expr->Bool
 | .Constant c _ _=>match c with
  | .str _=>true
  |_=>false
 |_=>false
noncomputable def cExp (C:Ct) (fE:Expr->Option L) (fEs:List Expr->Option (List L)) (e:Expr):Option S:=if qEq e then some .pass else match qBA e with
 |some (o,m,as,ap,cp)=>qIN C fE fEs m as ap cp o
 |none=>if qIO e then none else (fE e).map .expr
def qFt (C:Ct):Expr->Option Str
 | .Call _ args _ _=>args.getLast?.bind λ e=>(Expr.isName e).bind λ x=>if x∈C.muts/\x∉C.deep then some x else none
 |_=>none
def Ct.less (C:Ct) (x:Str):Ct:={C with muts:=C.muts.filter λ y=>!decide (y=x)}
noncomputable def cRet (C:Ct) (fE:Expr->Option L) (fZ:Str->Expr->Option L):Option Expr->Option S
 |some e=>(match Expr.isName e with
  |some x=>if x∈C.muts then (C.loc x).map .retO else (fE e).map .ret
  |none=>match qFt C e with
   |some x=>(C.loc x).bind λ i=>(fZ x e).map λ l=> .fz i (.ret l)
   |none=>(fE e).map .ret)
 |none=>some .retN
def cRai (C:Ct) (a b:Option Expr):Option S:=a.bind λ e=>if b.isNone then (q6F e).bind λ c=>if C.glob c.1/\C.qDS c.2 then (ixOf c.1 C.excs).map .raise else none else none
def setN:Stmt->Option (Str×Str)
 | .Assign ts v _=>(sole ts).bind λ t=>(Expr.isName t).bind λ y=>(Expr.isName v).map λ x=>(y,x)
 |_=>none
theorem qFu {s:Stmt}{r:Str×Str}(h:setN s=some r):∃q q2 pos,s = .Assign [.Name r.1 q] (.Name r.2 q2) pos:=by
 unfold setN at h;split at h
 ·obtain⟨t,h1,h⟩:=oB h;obtain⟨y,h2,h⟩:=oB h;obtain⟨x,h3,rfl⟩:=oM h;obtain⟨q,rfl⟩:=q0E h2;obtain⟨q2,rfl⟩:=q0E h3;rw[q11 h1];exact⟨_,_,_,rfl⟩
 ·cases h
noncomputable def cHan (C:Ct):ExceptHandler->Option (Nat×Nat×Nat)
 | .ExceptHandler ty nm b _=>ty.bind λ ty=>(Expr.isName ty).bind λ c=>nm.bind λ x=>(sole b).bind λ st=>(setN st).bind λ s=>if C.glob c/\q2Q x/\x∉C.muts/\s.1∉C.muts/\s.2=x/\x≠s.1/\C.kinds.lookup x=some .local then (ixOf c C.excs).bind λ c=>(C.loc x).bind λ i=>(C.loc s.1).map λ j=>(c,i,j) else none
noncomputable def cTry (C:Ct) (fS:List Stmt->Option (List S)) (body:List Stmt) (hs:List ExceptHandler) (oe fb:List Stmt):Option S:=if oe.isEmpty/\fb.isEmpty then (sole hs).bind λ h=>(cHan C h).bind λ r=>(fS body).map λ b=> .tryE b r.1 r.2.1 r.2.2 else none
mutual
noncomputable def cS:Nat->Ct->Stmt->Option S
 |0,_,_=>none
 |n+1,C,s=>match s with
  | .Assign ts v _=>cAsg C (cE n C) (cEs n C) ts v
  | .AugAssign t op v _=>cAug C (cE n C) t op v
  | .Expr e _=>cExp C (cE n C) (cEs n C) e
  | .If c a b _=>(cT n C c).bind λ c=>(cSs n C a).bind λ a=>(cSs n C b).map (.ifs c a)
  | .For tg it body oe _=>if oe.isEmpty/\¬C.q8K it then (Expr.isName tg).bind λ x=>(cI n C it).bind λ it=>(cSs n C body).bind λ body=>(C.loc x).bind λ i=>if x∈C.muts then none else some (.forr 0 [i] it body) else none
  | .While c body oe _=>if oe.isEmpty then (cT n C c).bind λ c=>(cSs n C body).map (.whl c) else none
  | .Return r _=>cRet C (cE n C) (λ x=>cE n (C.less x)) r
  | .Break _=>some .brk
  | .Continue _=>some .cont
  | .Pass _=>some .pass
  | .Raise a b _=>cRai C a b
  | .Try body hs oe fb _=>cTry C (cSs n C) body hs oe fb
  |_=>none
noncomputable def cSs:Nat->Ct->List Stmt->Option (List S)
 |0,_,_=>none
 |_+1,_,[]=>some []
 |n+1,C,e::es=>(cS n C e).bind λ a=>(cSs n C es).map λ l=>a::l
end
end Ev
namespace Ev
open PySem
variable {a b:D}
theorem D.ind {P:D->Prop}{Q:List D->Prop}(hn:P .non) (hb:∀b,P (.bl b)) (hi:∀i,P (.int i)) (hs:∀x,P (.str x)) (ht:∀l,Q l->P (.tup l)) (hl:∀l,Q l->P (.lst l)) (hd:∀k v,Q k->Q v->P (.dct k v)) (he:∀c,P (.exc c))
  (q0:Q []) (q1:∀a l,P a->Q l->Q (a::l)):(∀d,P d)/\∀l,Q l :=
 ⟨λ d=>D.rec (motive_1:=P) (motive_2:=Q) hn hb hi hs ht hl hd he q0 q1 d,λ l=>D.rec_1 (motive_1:=P) (motive_2:=Q) hn hb hi hs ht hl hd he q0 q1 l⟩
theorem q3H {l:List D}:q08 (a::l)=true↔q02 a=true/\q08 l=true:=by simp[q08]
theorem q4r:(∀a b:D,q02 a=true->q02 b=true->(eqb a b=true↔a=b))/\(∀a b:List D,q08 a=true->q08 b=true->(eqbL a b=true↔a=b)):=by
 have:=D.ind (P:=λ a=>∀b,q02 a=true->q02 b=true->(eqb a b=true↔a=b)) (Q:=λ a=>∀b,q08 a=true->q08 b=true->(eqbL a b=true↔a=b))
  (λ b h=>by simp[q02] at h) (λ _ b h=>by simp[q02] at h) (λ i b h1 h2=>by cases b<;>simp_all [q02,eqb]) (λ _ b h=>by simp[q02] at h)
  (λ l ih b h1 h2=>by cases b<;>simp_all [q02,eqb])
  (λ _ _ b h=>by simp[q02] at h) (λ _ _ _ _ b h=>by simp[q02] at h) (λ _ b h=>by simp[q02] at h)
  (λ b h1 h2=>by cases b<;>simp[eqbL])
  (λ a l iha ihl b h1 h2=>by
   cases b with
   |nil=>simp[eqbL]
   |cons c m =>
    rw[q3H] at h1 h2;simp only[eqbL,Qc,List.cons.injEq];rw[iha c h1.1 h2.1,ihl m h1.2 h2.2])
 exact this
theorem q0T (ha:q02 a=true) (hb:q02 b=true):eqb a b=true↔a=b:=q4r.1 a b ha hb
theorem qDT {a b:List D}(ha:q08 a=true) (hb:q08 b=true):eqbL a b=true↔a=b:=q4r.2 a b ha hb
theorem q8L:(∀a:D,q02 a=true->ltb a a=false)/\(∀a:List D,q08 a=true->ltbL a a=false):=by
 refine D.ind (P:=λ a=>q02 a=true->ltb a a=false) (Q:=λ a=>q08 a=true->ltbL a a=false)
  (λ h=>by simp[q02] at h) (λ _ h=>by simp[q02] at h) (λ i h=>by simp[ltb]) (λ _ h=>by simp[q02] at h) (λ l ih h=>by simpa[ltb] using ih (by simpa[q02] using h))
  (λ _ _ h=>by simp[q02] at h) (λ _ _ _ _ h=>by simp[q02] at h) (λ _ h=>by simp[q02] at h) (λ _=>by simp[ltbL]) (λ a l iha ihl h=>?_)
 rw[q3H] at h;rw[ltbL,if_pos ((q0T h.1 h.1).mpr rfl)];exact ihl h.2
theorem q8M (h:q02 a=true):ltb a a=false:=q8L.1 a h
theorem q8N:(∀a b:D,q02 a=true->q02 b=true->q0V a b=true->ltb a b=true\/a=b\/ltb b a=true)/\(∀a b:List D,q08 a=true->q08 b=true->q0l a b=true->ltbL a b=true\/a=b\/ltbL b a=true):=by
 refine D.ind (P:=λ a=>∀b,q02 a=true->q02 b=true->q0V a b=true->ltb a b=true\/a=b\/ltb b a=true) (Q:=λ a=>∀b,q08 a=true->q08 b=true->q0l a b=true->ltbL a b=true\/a=b\/ltbL b a=true)
  (λ b h=>by simp[q02] at h) (λ _ b h=>by simp[q02] at h) (λ i b h1 h2 c=>?_) (λ _ b h=>by simp[q02] at h) (λ l ih b h1 h2 c=>?_)
  (λ _ _ b h=>by simp[q02] at h) (λ _ _ _ _ b h=>by simp[q02] at h) (λ _ b h=>by simp[q02] at h) (λ b h1 h2 c=>by cases b<;>simp[ltbL]) (λ a l iha ihl b h1 h2 c=>?_)
 ·cases b<;>simp_all [q02,q0V,ltb];lia
 ·cases b<;>simp_all [q02,q0V,ltb]
 ·cases b with
  |nil=>simp[ltbL]
  |cons d m =>
   rw[q3H] at h1 h2;simp only[q0l] at c
   by_cases e:a=d
   ·subst e;have ee:eqb a a=true:=(q0T h1.1 h1.1).mpr rfl;rw[ltbL,ltbL,if_pos ee,if_pos ee];rw[if_pos ee] at c;rcases ihl m h1.2 h2.2 c with q|q|q
    ·exact .inl q
    ·exact .inr (.inl (by rw[q]))
    ·exact .inr (.inr q)
   ·have e1:¬eqb a d=true:=λ q=>e ((q0T h1.1 h2.1).mp q);have e2:¬eqb d a=true:=λ q=>e ((q0T h2.1 h1.1).mp q).symm;rw[ltbL,ltbL,if_neg e1,if_neg e2];rw[if_neg e1] at c;rcases iha d h1.1 h2.1 c with q|q|q
    ·exact .inl q
    ·exact absurd q e
    ·exact .inr (.inr q)
theorem q8O (ha:q02 a=true) (hb:q02 b=true) (c:q0V a b=true):ltb a b=true\/a=b\/ltb b a=true:=q8N.1 a b ha hb c
theorem q6G:(∀a b c:D,q02 a=true->q02 b=true->q02 c=true->ltb a b=true->ltb b c=true->ltb a c=true)/\(∀a b c:List D,q08 a=true->q08 b=true->q08 c=true->ltbL a b=true->ltbL b c=true->ltbL a c=true):=by
 refine D.ind (P:=λ a=>∀b c,q02 a=true->q02 b=true->q02 c=true->ltb a b=true->ltb b c=true->ltb a c=true) (Q:=λ a=>∀b c,q08 a=true->q08 b=true->q08 c=true->ltbL a b=true->ltbL b c=true->ltbL a c=true)
  (λ b c h=>by simp[q02] at h) (λ _ b c h=>by simp[q02] at h) (λ i b c h1 h2 h3 p q=>?_) (λ _ b c h=>by simp[q02] at h) (λ l ih b c h1 h2 h3 p q=>?_)
  (λ _ _ b c h=>by simp[q02] at h) (λ _ _ _ _ b c h=>by simp[q02] at h) (λ _ b c h=>by simp[q02] at h) (λ b c h1 h2 h3 p q=>?_) (λ a l iha ihl b c h1 h2 h3 p q=>?_)
 ·cases b with
  |int j=>cases c with
   |int k =>
    have p':i<j:=(by simpa[ltb] using p);have q':j<k:=(by simpa[ltb] using q);have:i<k:=(by lia);simpa[ltb] using this
   |tup _=>cases (show false=true from q)
   |non=>cases (show false=true from q)
   |bl _=>cases (show false=true from q)
   |str _=>cases (show false=true from q)
   |lst _=>cases (show false=true from q)
   |dct _ _=>cases (show false=true from q)
   |exc _=>cases (show false=true from q)
  |tup _=>cases (show false=true from p)
  |non=>cases (show false=true from p)
  |bl _=>cases (show false=true from p)
  |str _=>cases (show false=true from p)
  |lst _=>cases (show false=true from p)
  |dct _ _=>cases (show false=true from p)
  |exc _=>cases (show false=true from p)
 ·cases b with
  |tup j=>cases c with
   |tup k=>exact ih j k (by simpa[q02] using h1) (by simpa[q02] using h2) (by simpa[q02] using h3) p q
   |int _=>cases (show false=true from q)
   |non=>cases (show false=true from q)
   |bl _=>cases (show false=true from q)
   |str _=>cases (show false=true from q)
   |lst _=>cases (show false=true from q)
   |dct _ _=>cases (show false=true from q)
   |exc _=>cases (show false=true from q)
  |int _=>cases (show false=true from p)
  |non=>cases (show false=true from p)
  |bl _=>cases (show false=true from p)
  |str _=>cases (show false=true from p)
  |lst _=>cases (show false=true from p)
  |dct _ _=>cases (show false=true from p)
  |exc _=>cases (show false=true from p)
 ·cases b with
  |nil=>simp[ltbL] at p
  |cons d m=>cases c with
   |nil=>simp[ltbL] at q
   |cons e n=>simp[ltbL]
 ·cases b with
  |nil=>simp[ltbL] at p
  |cons d m=>cases c with
   |nil=>simp[ltbL] at q
   |cons e n =>
    rw[q3H] at h1 h2 h3;rw[ltbL] at p q |-
    by_cases e1:a=d
    ·subst e1;rw[if_pos ((q0T h1.1 h1.1).mpr rfl)] at p
     by_cases e2:a=e
     ·subst e2;have ee:=(q0T h1.1 h1.1).mpr rfl;rw[if_pos ee] at q |-;exact ihl m n h1.2 h2.2 h3.2 p q
     ·have ne:¬eqb a e=true:=λ z=>e2 ((q0T h1.1 h3.1).mp z);rw[if_neg ne] at q |-;exact q
    ·have ne1:¬eqb a d=true:=λ z=>e1 ((q0T h1.1 h2.1).mp z);rw[if_neg ne1] at p
     by_cases e2:d=e
     ·subst e2;rw[if_neg ne1];exact p
     ·have ne2:¬eqb d e=true:=λ z=>e2 ((q0T h2.1 h3.1).mp z);rw[if_neg ne2] at q;have r:=iha d e h1.1 h2.1 h3.1 p q
      by_cases e3:a=e
      ·subst e3;rw[q8M h1.1] at r;cases r
      ·have ne3:¬eqb a e=true:=λ z=>e3 ((q0T h1.1 h3.1).mp z);rw[if_neg ne3];exact r
theorem q4s {c:D}(ha:q02 a=true) (hb:q02 b=true) (hc:q02 c=true) (p:ltb a b=true) (q:ltb b c=true):ltb a c=true:=q6G.1 a b c ha hb hc p q
theorem q6H (x:D):∀l:List D,(ins x l).Perm (x::l)
 |[]=> .refl _
 |y::l=>by
  unfold ins;split
  ·exact .refl _
  ·exact ((q6H x l).cons y).trans (.swap x y l)
theorem q0F:∀l:List D,(q20 l).Perm l
 |[]=> .refl _
 |x::l=>(q6H x (q20 l)).trans ((q0F l).cons x)
theorem q0D {l:List D}:q08 l=true↔∀d∈l,q02 d=true:=by
 induction l with
 |nil=>simp[q08]
 |cons a l ih=>rw[q3H,ih];simp
def Srt (l:List D):Prop:=l.Pairwise λ a b=>ltb b a=false
theorem qBC {x:D}:∀{l:List D},q02 x=true->(∀d∈l,q02 d=true)->Srt l->Srt (ins x l)
 |[],_,_,_=>by unfold ins;exact List.pairwise_singleton _ _
 |y::l,hx,hl,s=>by
  have s':=QC.mp s;unfold ins;split
  ·rename_i c;refine QC.mpr ⟨λ d hd=>?_,s⟩;rcases Qf.mp hd with rfl|hd
   ·cases q:ltb d x with
    |false=>rfl
    |true=>rw[<-q8M hx];exact (q4s hx (hl d Qb) hx c q).symm▸rfl
   ·cases q:ltb d x with
    |false=>rfl
    |true =>
     have r:=q4s (hl d (Qa _ hd)) hx (hl y Qb) q c;rw[s'.1 d hd] at r;cases r
  ·rename_i c;have hl':∀d∈l,q02 d=true:=λ d hd=>hl d (Qa _ hd);refine QC.mpr ⟨λ d hd=>?_,qBC hx hl' s'.2⟩;rcases Qf.mp ((q6H x l).mem_iff.mp hd) with rfl|hd
   ·simpa using c
   ·exact s'.1 d hd
theorem q1h:∀{l:List D},(∀d∈l,q02 d=true)->Srt (q20 l)
 |[],_=>List.Pairwise.nil
 |x::l,h=>qBC (h x Qb) (λ d hd=>h d (Qa _ ((q0F l).mem_iff.mp hd))) (q1h λ d hd=>h d (Qa _ hd))
theorem q24:∀{l m:List D},l.Perm m->(∀d∈l,q02 d=true)->(∀a∈l,∀b∈l,q0V a b=true)->Srt l->Srt m->l=m
 |[],m,p,_,_,_,_=>(List.Perm.nil_eq p)
 |a::l,[],p,_,_,_,_=>absurd p.length_eq (by simp)
 |a::l,b::m,p,h,c,s1,s2=>by
  have s1':=QC.mp s1;have s2':=QC.mp s2;have hb:b∈a::l:=p.mem_iff.mpr Qb;have ha:a∈b::m:=p.mem_iff.mp Qb;have e:a=b:=by
   rcases Qf.mp hb with q|q
   ·exact q.symm
   ·rcases Qf.mp ha with r|r
    ·exact r
    ·have z1:=s1'.1 b q;have z2:=s2'.1 a r;rcases q8O (h a Qb) (h b hb) (c a Qb b hb) with t|t|t
     ·rw[z2] at t;cases t
     ·exact t
     ·rw[z1] at t;cases t
  subst e;have p':l.Perm m:=p.cons_inv;rw[q24 p' (λ d hd=>h d (Qa _ hd)) (λ x hx y hy=>c x (Qa _ hx) y (Qa _ hy)) s1'.2 s2'.2]
end Ev
namespace Ev
open PySem
section
variable {G:Nat->List D->R D}{sub:Nat->Nat->Bool}
@[simp] theorem q1X (i:Nat) (ρ:Env):ev G sub (.var i) ρ=getV ρ i:=rfl
@[simp] theorem qEr (i:Nat) (ρ:Env):ev G sub (.bor i) ρ=getB ρ i:=rfl
@[simp] theorem q0M (d:D) (ρ:Env):ev G sub (.con d) ρ = .ok d:=rfl
@[simp] theorem q0h (o:Op2) (a b:L) (ρ:Env):ev G sub (.op o a b) ρ=(ev G sub a ρ).bind λ x=>(ev G sub b ρ).bind λ y=>opD o x y:=rfl
@[simp] theorem qAN (o:Cm) (a b:L) (ρ:Env):ev G sub (.cm o a b) ρ=(ev G sub a ρ).bind λ x=>(ev G sub b ρ).bind λ y=>cmD o x y:=rfl
@[simp] theorem qIP (a:L) (ρ:Env):ev G sub (.neg a) ρ=(ev G sub a ρ).bind λ x=>match x with
   | .int i=> .ok (.int (-i))
   |_=> .stuck:=rfl
@[simp] theorem qEs (a:L) (ρ:Env):ev G sub (.not a) ρ=(ev G sub a ρ).bind λ x=>(tr x).bind λ b=> .ok (.bl (!b)):=rfl
@[simp] theorem qEt (a b:L) (ρ:Env):ev G sub (.and a b) ρ=(ev G sub a ρ).bind λ x=>match x with
   | .bl true=>ev G sub b ρ
   | .bl false=> .ok (.bl false)
   |_=> .stuck:=rfl
@[simp] theorem qKj (a b:L) (ρ:Env):ev G sub (.or a b) ρ=(ev G sub a ρ).bind λ x=>match x with
   | .bl true=> .ok (.bl true)
   | .bl false=>ev G sub b ρ
   |_=> .stuck:=rfl
@[simp] theorem qBD (c:T) (a b:L) (ρ:Env):ev G sub (.ite c a b) ρ=(tst G sub c ρ).bind λ t=>if t then ev G sub a ρ else ev G sub b ρ:=rfl
@[simp] theorem qBE (xs:List L) (ρ:Env):ev G sub (.tup xs) ρ=(evs G sub xs ρ).bind λ ds=>if ds.length<=big then .ok (.tup ds) else .stuck:=rfl
@[simp] theorem q7F (xs:List L) (ρ:Env):ev G sub (.lst xs) ρ=(evs G sub xs ρ).bind λ ds=>if ds.length<=big then .ok (.lst ds) else .stuck:=rfl
@[simp] theorem qIQ (k v:L) (ρ:Env):ev G sub (.dct k v) ρ=(ev G sub k ρ).bind λ x=>(ev G sub v ρ).bind λ y=>match x with
   | .int i=> .ok (.dct [.int i] [y])
   |_=> .stuck:=rfl
@[simp] theorem q3I (a i:L) (ρ:Env):ev G sub (.idx a i) ρ=(ev G sub a ρ).bind λ x=>(ev G sub i ρ).bind λ y=>idxD x y:=rfl
@[simp] theorem qDU (st:Nat) (a:L) (lo hi:List L) (ρ:Env):ev G sub (.sl st a lo hi) ρ=(ev G sub a ρ).bind λ x=>(evs G sub lo ρ).bind λ l=>(evs G sub hi ρ).bind λ h=>(optI l).bind λ l=>(optI h).bind λ h=>slD st l h x:=rfl
@[simp] theorem q12 (f:Nat) (xs:List L) (ρ:Env):ev G sub (.call f xs) ρ=(evs G sub xs ρ).bind λ ds=>G f ds:=rfl
@[simp] theorem q1S (b:Bi) (xs:List L) (ρ:Env):ev G sub (.bi b xs) ρ=(evs G sub xs ρ).bind λ ds=>biD sub b ds:=rfl
@[simp] theorem q13 (k:Nat) (elt:L) (it:I) (cond:List T) (ρ:Env):ev G sub (.comp k elt it cond) ρ=(evi G sub it ρ).bind λ ds=>(q0U (ev G sub elt) (tsts G sub cond) k ρ ds).q6E.bind λ es=>if es.length<=big then .ok (.lst es) else .stuck:=rfl
@[simp] theorem qKk (a:L) (f:Nat) (ρ:Env):ev G sub (.skey a f) ρ=(ev G sub a ρ).bind λ d=>(q0W d).bind λ xs=>(mapR (λ x=>G f [x]) xs).q6E.bind λ ks =>
   if q1B ks then .ok (.lst ((q7D (ks.zip xs)).map (·.2))) else .stuck:=rfl
@[simp] theorem qBF (xs:List L) (ρ:Env):ev G sub (.lrng xs) ρ=(evs G sub xs ρ).bind λ ds=>(rngD ds).bind λ is=>if is.length<=big then .ok (.lst is) else .stuck:=rfl
@[simp] theorem q0c (ρ:Env):evs G sub [] ρ = .ok []:=rfl
@[simp] theorem q0H (a:L) (l:List L) (ρ:Env):evs G sub (a::l) ρ=(ev G sub a ρ).bind λ x=>(evs G sub l ρ).bind λ xs=> .ok (x::xs):=rfl
@[simp] theorem q1T (xs:List L) (ρ:Env):evi G sub (.rng xs) ρ=(evs G sub xs ρ).bind rngD:=rfl
@[simp] theorem qIR (i:Nat) (ρ:Env):evi G sub (.b i) ρ=(getB ρ i).bind q1u:=rfl
@[simp] theorem q2l (a:L) (ρ:Env):evi G sub (.e a) ρ=(ev G sub a ρ).bind q0W:=rfl
@[simp] theorem q8P (a b:T) (ρ:Env):tst G sub (.and a b) ρ=(tst G sub a ρ).bind λ t=>if t then tst G sub b ρ else .ok false:=rfl
@[simp] theorem qIS (a b:T) (ρ:Env):tst G sub (.or a b) ρ=(tst G sub a ρ).bind λ t=>if t then .ok true else tst G sub b ρ:=rfl
@[simp] theorem q8Q (a:T) (ρ:Env):tst G sub (.not a) ρ=(tst G sub a ρ).bind λ t=> .ok (!t):=rfl
@[simp] theorem q8R (a:L) (ρ:Env):tst G sub (.e a) ρ=(ev G sub a ρ).bind tr:=rfl
@[simp] theorem q1v (ρ:Env):tsts G sub [] ρ = .ok true:=rfl
@[simp] theorem q1Q (a:T) (l:List T) (ρ:Env):tsts G sub (a::l) ρ=(tst G sub a ρ).bind λ t=>if t then tsts G sub l ρ else .ok false:=rfl
@[simp] theorem q0O (i:Nat) (a:L) (ρ:Env):ex G sub (.set i a) ρ=(ev G sub a ρ).go ρ λ d=> .ok (ρ.set i (some (.val d))) .nx:=rfl
@[simp] theorem q4t (i:Nat) (a:L) (ρ:Env):ex G sub (.setO i a) ρ=(ev G sub a ρ).go ρ λ d=> .ok (ρ.set i (some (.own d))) .nx:=rfl
@[simp] theorem qKl (is:List Nat) (a:L) (ρ:Env):ex G sub (.setT is a) ρ=(ev G sub a ρ).go ρ λ d=>(unp is.length d).go ρ λ xs=> .ok (q2p is xs ρ) .nx:=rfl
@[simp] theorem ex_aug (i:Nat) (o:Op2) (a:L) (ρ:Env):ex G sub (.aug i o a) ρ=(getV ρ i).go ρ λ x=>(ev G sub a ρ).go ρ λ y=>(augD o x y).go ρ λ z=> .ok (ρ.set i (some (.val z))) .nx:=rfl
@[simp] theorem qBG (i:Nat) (a:L) (ρ:Env):ex G sub (.app i a) ρ=match ρ[i]? with
   |some (some (.own (.lst xs)))=>(ev G sub a ρ).go ρ λ d=>if xs.length<big then .ok (ρ.set i (some (.own (.lst (xs++[d]))))) .nx else .stuck
   |_=> .stuck:=rfl
@[simp] theorem qEu (i:Nat) (a:L) (ρ:Env):ex G sub (.ext i a) ρ=match ρ[i]? with
   |some (some (.own (.lst xs)))=>(ev G sub a ρ).go ρ λ d=>match d with
     | .lst ys=>if xs.length+ys.length<=big then .ok (ρ.set i (some (.own (.lst (xs++ys))))) .nx else .stuck
     |_=> .stuck
   |_=> .stuck:=rfl
@[simp] theorem ex_pop (j i:Nat) (ρ:Env):ex G sub (.pop j i) ρ=match ρ[i]? with
   |some (some (.own (.lst xs)))=>match xs.getLast? with
     |some d=> .ok ((ρ.set i (some (.own (.lst xs.dropLast)))).set j (some (.val d))) .nx
     |none=> .stuck
   |_=> .stuck:=rfl
@[simp] theorem qBH (i:Nat) (k v:L) (ρ:Env):ex G sub (.put i k v) ρ=match ρ[i]? with
   |some (some (.own (.dct ks vs)))=>(ev G sub v ρ).go ρ λ y=>(ev G sub k ρ).go ρ λ x=>match x with
     | .int n=>if ks.length<big then (put n y ks vs).go ρ λ r=> .ok (ρ.set i (some (.own (.dct r.1 r.2)))) .nx else .stuck
     |_=> .stuck
   |_=> .stuck:=rfl
@[simp] theorem qFv (i:Nat) (a:L) (ρ:Env):ex G sub (.setE i a) ρ=(ev G sub a ρ).go ρ λ d=>match d with
   | .int n=>if 0<=n/\n<=1000 then .ok (ρ.set i (some (.own2 (Qh n.toNat [])))) .nx else .stuck
   |_=> .stuck:=rfl
@[simp] theorem qFw (i:Nat) (k a:L) (ρ:Env):ex G sub (.app2 i k a) ρ=match ρ[i]? with
   |some (some (.own2 xss))=>(ev G sub k ρ).go ρ λ x=>match x with
     | .int n=>if 0<=n then (match xss[n.toNat]? with
       |some ys=>(ev G sub a ρ).go ρ λ d=>if ys.length<big then .ok (ρ.set i (some (.own2 (xss.set n.toNat (ys++[d]))))) .nx else .stuck
       |none=> .stuck) else .stuck
     |_=> .stuck
   |_=> .stuck:=rfl
@[simp] theorem ex_frz (i j:Nat) (ρ:Env):ex G sub (.frz i j) ρ=match ρ[j]? with
   |some (some (.own (.lst xs)))=>if i=j then .stuck else .ok ((ρ.set j (some (.val (.lst xs)))).set i (some (.val (.lst xs)))) .nx
   |_=> .stuck:=rfl
@[simp] theorem q8S (a:L) (ρ:Env):ex G sub (.expr a) ρ=(ev G sub a ρ).go ρ λ _=> .ok ρ .nx:=rfl
@[simp] theorem q3J (c:T) (a b:List S) (ρ:Env):ex G sub (.ifs c a b) ρ=(tst G sub c ρ).go ρ λ t=>if t then exs G sub a ρ else exs G sub b ρ:=rfl
@[simp] theorem q1C (k:Nat) (is:List Nat) (it:I) (body:List S) (ρ:Env):ex G sub (.forr k is it body) ρ=(evi G sub it ρ).go ρ λ ds=>q0z (exs G sub body) k is ds ρ:=rfl
@[simp] theorem qEv (c:T) (body:List S) (ρ:Env):ex G sub (.whl c body) ρ=q1R (tst G sub c) (exs G sub body) 100000 ρ:=rfl
@[simp] theorem q2q (a:L) (ρ:Env):ex G sub (.ret a) ρ=(ev G sub a ρ).go ρ λ d=> .ok ρ (.ret d):=rfl
@[simp] theorem qKm (ρ:Env):ex G sub .retN ρ = .ok ρ (.ret .non):=rfl
@[simp] theorem q8T (i:Nat) (ρ:Env):ex G sub (.retO i) ρ=match ρ[i]? with
   |some (some (.own d))=> .ok (ρ.set i none) (.ret d)
   |some (some (.own2 xss))=> .ok (ρ.set i none) (.ret (.lst (xss.map .lst)))
   |_=> .stuck:=rfl
@[simp] theorem ex_brk (ρ:Env):ex G sub .brk ρ = .ok ρ .brk:=rfl
@[simp] theorem qKn (ρ:Env):ex G sub .cont ρ = .ok ρ .cont:=rfl
@[simp] theorem qKo (ρ:Env):ex G sub .pass ρ = .ok ρ .nx:=rfl
@[simp] theorem qKO (c:Nat) (ρ:Env):ex G sub (.raise c) ρ = .err c ρ:=rfl
@[simp] theorem qIT (i:Nat) (s:S) (ρ:Env):ex G sub (.fz i s) ρ=match ρ[i]? with
   |some (some (.own (.dct ks vs)))=>ex G sub s (ρ.set i (some (.val (.dct ks vs))))
   |_=> .stuck:=rfl
@[simp] theorem qKp (body:List S) (c i j:Nat) (ρ:Env):ex G sub (.tryE body c i j) ρ=match exs G sub body ρ with
   | .err e ρ'=>if sub e c then .ok ((ρ'.set j (some (.val (.exc e)))).set i none) .nx else .stuck
   |r=>r:=rfl
@[simp] theorem q0X (ρ:Env):exs G sub [] ρ = .ok ρ .nx:=rfl
@[simp] theorem q0y (s:S) (l:List S) (ρ:Env):exs G sub (s::l) ρ=(ex G sub s ρ).nx λ ρ'=>exs G sub l ρ':=rfl
end
end Ev
namespace Ev
open PySem
def nI (t:Nat):D:= .int (t:Int)
def nL (l:List Nat):List D:=l.map nI
@[simp] theorem nL_nil:nL []=[]:=rfl
@[simp] theorem q1J (a:Nat) (l:List Nat):nL (a::l)=nI a::nL l:=rfl
@[simp] theorem q7G (a b:List Nat):nL (a++b)=nL a++nL b:=Js
@[simp] theorem q0K (l:List Nat):(nL l).length=l.length:=Qe _
@[simp] theorem qBI (a b:Nat):nI a=nI b↔a=b:=by unfold nI;simp;lia
theorem qBJ {a b:List Nat}:nL a=nL b↔a=b:=by unfold nL;exact⟨λ h=>(List.map_inj_right (λ x y e=>(qBI x y).mp e)).mp h,λ h=>by rw[h]⟩
@[simp] theorem add_n (a b:Nat):opD .add (nI a) (nI b) = .ok (nI (a+b)):=rfl
@[simp] theorem qKq (a b:Nat) (ha:a<2^62) (hb:b<=1000):opD .shl (nI a) (nI b) = .ok (nI (a <<< b)):=by unfold nI;rw[q7C _ (by decide) (by decide)];unfold opI;dsimp only;rw[if_pos (by lia)];rfl
@[simp] theorem shr_n (a b:Nat):opD .shr (nI a) (nI b) = .ok (nI (a >>> b)):=by unfold nI;rw[q7C _ (by decide) (by decide)];unfold opI;dsimp only;rw[if_pos (by lia)];rfl
@[simp] theorem qBK (a b:Nat):opD .band (nI a) (nI b) = .ok (nI (a &&& b)):=by unfold nI;rw[q7C _ (by decide) (by decide)];unfold opI;dsimp only;rw[if_pos (by lia)];rfl
@[simp] theorem qIU (a b:Nat):opD .bor (nI a) (nI b) = .ok (nI (a ||| b)):=by unfold nI;rw[q7C _ (by decide) (by decide)];unfold opI;dsimp only;rw[if_pos (by lia)];rfl
@[simp] theorem qIV (a b:Nat):opD .bxor (nI a) (nI b) = .ok (nI (a ^^^ b)):=by unfold nI;rw[q7C _ (by decide) (by decide)];unfold opI;dsimp only;rw[if_pos (by lia)];rfl
theorem qIW (a b:Nat) (h:b<=a):opD .sub (nI a) (nI b) = .ok (nI (a-b)):=by unfold nI;rw[q7C _ (by decide) (by decide)];unfold opI;dsimp only;congr 2;lia
@[simp] theorem qBL (a b:Nat) (h:0<b):opD .mod (nI a) (nI b) = .ok (nI (a % b)):=by unfold nI;rw[q7C _ (by decide) (by decide)];unfold opI;dsimp only;rw[if_pos (by lia)];rfl
@[simp] theorem qEw (a b:Nat) (h:0<b) (h2:b<1073741824):opD .fdiv (nI a) (nI b) = .ok (nI (a / b)):=by unfold nI;rw[q7C _ (by decide) (by decide)];unfold opI;dsimp only;rw[if_pos (by lia)];rfl
@[simp] theorem pl_n (a:Nat):pl (nI a)=true:=rfl
@[simp] theorem pl_int (a:Int):pl (.int a)=true:=rfl
@[simp] theorem pl_bl (a:Bool):pl (.bl a)=true:=rfl
@[simp] theorem pl_str (a:Str):pl (.str a)=true:=rfl
@[simp] theorem pl_non:pl .non=true:=rfl
@[simp] theorem plN_n (k a:Nat):plN k (nI a)=true:=by cases k<;>rfl
@[simp] theorem qKr (k:Nat) (a:Int):plN k (.int a)=true:=by cases k<;>rfl
@[simp] theorem plN_bl (k:Nat) (a:Bool):plN k (.bl a)=true:=by cases k<;>rfl
@[simp] theorem qKs (k:Nat) (a:Str):plN k (.str a)=true:=by cases k<;>rfl
@[simp] theorem qKt (k:Nat):plN k .non=true:=by cases k<;>rfl
@[simp] theorem q1U (k:Nat) (l:List D):plN (k+1) (.tup l)=l.all (plN k):=by simp[plN]
@[simp] theorem q2w (k:Nat) (l:List D):plN (k+1) (.lst l)=l.all (plN k):=by simp[plN]
@[simp] theorem all_n (k:Nat) (l:List Nat):(nL l).all (plN k)=true:=by simp[nL]
@[simp] theorem qDV (l:List Nat):pl (.tup (nL l))=true:=by unfold pl;simp
@[simp] theorem pl_ln (l:List Nat):pl (.lst (nL l))=true:=by unfold pl;simp
@[simp] theorem qKu:plL []=true:=rfl
@[simp] theorem qKP (a:D) (l:List D):plL (a::l)=(pl a&&plL l):=rfl
theorem q1V {l:List D}:plL l=true↔∀d∈l,pl d=true:=by unfold plL;simp
@[simp] theorem qKv (l:List Nat):plL (nL l)=true:=q1V.mpr λ d hd=>by obtain⟨a,_,rfl⟩:=Qg.mp hd;rfl
@[simp] theorem qKw (a b:Nat):eqb (nI a) (nI b)=decide (a=b):=by
 have:eqb (.int (a:Int)) (.int (b:Int))=decide ((a:Int)=b):=by simp[eqb]
 rw[nI,nI,this];exact decide_eq_decide.mpr (by lia)
@[simp] theorem qFx (a:Nat):q02 (nI a)=true:=by simp[nI,q02]
@[simp] theorem q9B (l:List Nat):q08 (nL l)=true:=q0D.mpr λ d hd=>by obtain⟨a,_,rfl⟩:=Qg.mp hd;exact qFx a
@[simp] theorem qBM (l:List Nat):q02 (.tup (nL l))=true:=by simp[q02]
@[simp] theorem q9C (a b:List Nat):eqb (.tup (nL a)) (.tup (nL b))=decide (a=b):=by rw[QE,q0T (qBM a) (qBM b)];simp[qBJ]
@[simp] theorem lt_n (a b:Nat):cmD .lt (nI a) (nI b) = .ok (.bl (decide (a<b))):=by simp[nI,cmD,q0V,ltb,pl,q02]
@[simp] theorem ge_n (a b:Nat):cmD .ge (nI a) (nI b) = .ok (.bl (decide (b<=a))):=by simp[nI,cmD,q0V,ltb,pl,q02];rw[QE];simp
@[simp] theorem gt_n (a b:Nat):cmD .gt (nI a) (nI b) = .ok (.bl (decide (b<a))):=by simp[nI,cmD,intD]
@[simp] theorem le_n (a b:Nat):cmD .le (nI a) (nI b) = .ok (.bl (decide (a<=b))):=by simp[nI,cmD,intD]
@[simp] theorem eq_n (a b:Nat):cmD .eq (nI a) (nI b) = .ok (.bl (decide (a=b))):=by simp[cmD]
@[simp] theorem ne_n (a b:Nat):cmD .ne (nI a) (nI b) = .ok (.bl (!decide (a=b))):=by simp[cmD]
@[simp] theorem qBN (b:Bool):tr (.bl b) = .ok b:=rfl
@[simp] theorem tr_lst (l:List D):tr (.lst l) = .ok (!l.isEmpty):=rfl
@[simp] theorem tr_tup (l:List D):tr (.tup l) = .ok (!l.isEmpty):=rfl
@[simp] theorem q1i (l:List D):q0W (.lst l) = .ok l:=rfl
@[simp] theorem q5i (l:List D):q1u (.lst l) = .ok l:=rfl
@[simp] theorem qHo (l:List D):q1u (.tup l) = .ok l:=rfl
@[simp] theorem qIX (l:List D):q0W (.tup l) = .ok l:=rfl
theorem qBO:∀l:List Nat,ints? (nL l)=some (l.map λ (a:Nat)=>(a:Int))
 |[]=>rfl
 |a::l=>by simp[ints?,nI,qBO l]
@[simp] theorem q2R (k:List Nat) (v:List D):q0W (.dct (nL k) v) = .ok (nL k):=by simp[q0W,qBO]
theorem num0:D.int 0=nI 0:=rfl
theorem num1:D.int 1=nI 1:=rfl
theorem num2:D.int 2=nI 2:=rfl
theorem num10:D.int 10=nI 10:=rfl
theorem qKx:D.int 1300=nI 1300:=rfl
@[simp] theorem q4T (j:Nat) (h:j<2^62):rngD [nI j] = .ok (nL (Qk j)):=by unfold rngD nI;simp only;rw[if_pos (by lia)];simp[nL,nI]
@[simp] theorem unp0 (d:D):unp 0 d = .ok [d]:=rfl
@[simp] theorem unp2 (a b:D):unp 2 (.tup [a,b]) = .ok [a,b]:=rfl
@[simp] theorem qKy (i:Nat) (d:D) (ρ:Env):q2p [i] [d] ρ=ρ.set i (some (.val d)):=rfl
@[simp] theorem qKz (i j:Nat) (d e:D) (ρ:Env):q2p [i,j] [d,e] ρ=(ρ.set i (some (.val d))).set j (some (.val e)):=rfl
@[simp] theorem qDW:vals []=[]:=rfl
@[simp] theorem qBP (d:D) (l:List D):vals (d::l)=some (.val d)::vals l:=rfl
@[simp] theorem qHp (elt:Env->R D) (cond:Env->R Bool) (k:Nat) (ρ:Env):q0U elt cond k ρ [] = .ok []:=rfl
theorem q4u {elt:Env->R D}{cond:Env->R Bool}{k:Nat}{ρ:Env}{g:D->D}{p:D->Bool}:∀{ds:List D},
  (∀d∈ds,∃xs,unp k d = .ok xs/\cond (vals xs++ρ) = .ok (p d)/\(p d=true->elt (vals xs++ρ) = .ok (g d)))->q0U elt cond k ρ ds = .ok ((ds.filter p).map g)
 |[],_=>rfl
 |d::ds,h=>by
  obtain⟨xs,h1,h2,h3⟩:=h d Qb;have ih:=q4u (elt:=elt) (cond:=cond) (k:=k) (ρ:=ρ) (g:=g) (p:=p) (ds:=ds) λ e he=>h e (Qa _ he);unfold q0U;rw[h1,q00,h2,q00];cases hp:p d with
  |true=>rw[if_pos rfl,h3 hp,q00,ih];simp[Q9,hp]
  |false=>rw[if_neg (by simp),ih];simp[Q9,hp]
@[simp] theorem q9D (ρ:Env) (i:Nat):getV ρ i=match ρ[i]? with
 |some (some (.val d))=> .ok d
 |_=> .stuck:=rfl
@[simp] theorem qKQ (ρ:Env) (i:Nat):getB ρ i=match ρ[i]? with
 |some (some (.val d))=> .ok d
 |some (some (.own d))=> .ok d
 |_=> .stuck:=rfl
@[simp] theorem augD_n (o:Op2) (a b:Nat):augD o (nI a) (nI b)=opD o (nI a) (nI b):=rfl
theorem q0P:big=1000000:=rfl
theorem q1j (body:Env->RS) (k:Nat) (is:List Nat) (ρ:Env):q0z body k is [] ρ = .ok ρ .nx:=rfl
theorem q0L (body:Env->RS) (i:Nat) (d:D) (ds:List D) (ρ:Env):q0z body 0 [i] (d::ds) ρ=(body (ρ.set i (some (.val d)))).turn λ ρ'=>q0z body 0 [i] ds ρ':=rfl
theorem qIY (body:Env->RS) (i j:Nat) (a b:D) (ds:List D) (ρ:Env):q0z body 2 [i,j] (.tup [a,b]::ds) ρ=(body ((ρ.set i (some (.val a))).set j (some (.val b)))).turn λ ρ'=>q0z body 2 [i,j] ds ρ':=rfl
theorem q5j (c:Env->R Bool) (body:Env->RS) (n:Nat) (ρ:Env):q1R c body (n+1) ρ=(c ρ).go ρ λ t=>if t then (body ρ).turn λ ρ'=>q1R c body n ρ' else .ok ρ .nx:=rfl
section
variable {sub:Nat->Nat->Bool}
@[simp] theorem q3x (xs:List D):biD sub .len [.lst xs] = .ok (nI xs.length):=rfl
@[simp] theorem qAO (xs:List D):biD sub .len [.tup xs] = .ok (nI xs.length):=rfl
@[simp] theorem qHq (ks vs:List D):biD sub .len [.dct ks vs] = .ok (nI ks.length):=rfl
@[simp] theorem q1w (xs:List D):biD sub .tuple [.lst xs] = .ok (.tup xs):=rfl
@[simp] theorem qEx (xs:List D):biD sub .tuple [.tup xs] = .ok (.tup xs):=rfl
@[simp] theorem qFy (xs:List D):biD sub .list [.lst xs] = .ok (.lst xs):=rfl
@[simp] theorem qFz (xs:List D):biD sub .list [.tup xs] = .ok (.lst xs):=rfl
@[simp] theorem qKR (sub:Nat->Nat->Bool) (l:List D):biD sub .isTup [.tup l] = .ok (.bl true):=rfl
@[simp] theorem qKS (sub:Nat->Nat->Bool) (l:List D):biD sub .isLst [.lst l] = .ok (.bl true):=rfl
@[simp] theorem qKT (sub:Nat->Nat->Bool) (i:Int):biD sub .isInt [.int i] = .ok (.bl true):=rfl
@[simp] theorem qIZ (sub:Nat->Nat->Bool) (i:Nat):biD sub .isInt [nI i] = .ok (.bl true):=rfl
@[simp] theorem qIa (sub:Nat->Nat->Bool) (i:Int):biD sub .isBool [.int i] = .ok (.bl false):=rfl
@[simp] theorem qHr (sub:Nat->Nat->Bool) (i:Nat):biD sub .isBool [nI i] = .ok (.bl false):=rfl
@[simp] theorem qHs (sub:Nat->Nat->Bool) (b:Bool):biD sub .isBool [.bl b] = .ok (.bl true):=rfl
@[simp] theorem qKU (sub:Nat->Nat->Bool) (e:Nat):biD sub .isVal [.exc e] = .ok (.bl true):=rfl
@[simp] theorem qKV (sub:Nat->Nat->Bool) (c e:Nat):biD sub (.isExc c) [.exc e] = .ok (.bl (sub e c)):=rfl
@[simp] theorem q4v (d:D):biD sub .sorted [d]=(q0W d).bind λ xs=>if q1B xs then .ok (.lst (q20 xs)) else .stuck:=rfl
@[simp] theorem q4U (d:D):biD sub .sortedSet [d]=(q1u d).bind λ xs=>if q08 xs&&plL xs&&decide (xs.length<=1000)&&q1B (dedup xs) then .ok (.lst (q20 (dedup xs))) else .stuck:=rfl
@[simp] theorem qIb (xs:List D):biD sub .all [.lst xs]=match bools? xs with
   |some bs=> .ok (.bl (bs.all id))
   |none=> .stuck:=rfl
@[simp] theorem qIc (xs:List D):biD sub .any [.lst xs]=match bools? xs with
 |some bs=> .ok (.bl (bs.any id))
 |none=> .stuck:=rfl
@[simp] theorem qKW (xs:List D) (x:D):biD sub .count [.lst xs,x]=if pl x&&plL xs then .ok (.int ((xs.filter λ y=>eqb y x).length)) else .stuck:=rfl
@[simp] theorem qKX (xs:List D) (x:D):biD sub .index [.lst xs,x]=if pl x&&plL xs then idxOf x xs 0 else .stuck:=rfl
end
end Ev
namespace Ev
open PySem
structure Ix where
 (mask_of things_of holds mask_of_all needs_of may_learn next_within core_within states_within is_whole is_set look_rules look_way look_set next_things states is_state greatest core:Nat)
 (law_cell law_mix law_subset law_rules law_sets law_next law_states law_refusal law_spoilt law_told:Nat)
namespace B
def q4w:List S:=[.aug 1 .bor (.op .shl (.con (.int 1)) (.var 2))]
def mask_of:List S:=[
 .set 1 (.con (.int 0)),
 .forr 0 [2] (.e (.var 0)) q4w,
 .ret (.var 1)]
def holds:List S:=[
 .ret (.cm .eq (.op .band (.op .shr (.var 0) (.var 1)) (.con (.int 1))) (.con (.int 1)))]
def things_of (f:Ix):List S:=[
 .ret (.bi .tuple [.comp 0 (.var 0) (.rng [.bi .bits [.var 0]]) [.e (.call f.holds [.var 1,.var 0])]])]
def mask_of_all:List S:=[
 .ret (.op .sub (.op .shl (.con (.int 1)) (.var 0)) (.con (.int 1)))]
def q2A:List S:=[.ifs (.e (.cm .eq (.op .band (.var 3) (.var 1)) (.var 3))) [.ret (.con (.bl true))] []]
def may_learn (f:Ix):List S:=[
 .ifs (.e (.call f.holds [.var 1,.var 2])) [.ret (.con (.bl false))] [],
 .forr 0 [3] (.e (.idx (.var 0) (.var 2))) q2A,
 .ret (.con (.bl false))]
def next_within (f:Ix):List S:=[
 .ret (.comp 0 (.var 0) (.e (.call f.things_of [.var 2])) [.e (.call f.may_learn [.var 1,.var 2,.var 0])])]
end B
section
variable {G:Nat->List D->R D}{sub:Nat->Nat->Bool}{f:Ix}
def q04 (m:Nat) (ts:List Nat):Nat:=ts.foldl (λ m t=>m ||| (1 <<< t)) m
theorem q7H:∀(ts:List Nat) (m:Nat) (x y:Option Sl),(∀t∈ts,t<=1000)->
  ∃y',q0z (exs G sub B.q4w) 0 [2] (nL ts) [x,some (.val (nI m)),y] = .ok [x,some (.val (nI (q04 m ts))),y'] .nx
 |[],m,x,y,_=>⟨y,rfl⟩
 |t::ts,m,x,y,h=>by have ht:=h t Qb;obtain⟨y',e⟩:=q7H ts (m ||| (1 <<< t)) x (some (.val (nI t))) (λ u hu=>h u (Qa _ hu));refine⟨y',Eq.trans ?_ e⟩;rw[q1J,q0L];simp[B.q4w,num1,ht]
theorem q8U (ts:List Nat) (h:∀t∈ts,t<=1000) (d:D) (hd:d = .tup (nL ts)\/d = .lst (nL ts)):run G sub 3 B.mask_of [d] = .ok (nI (q04 0 ts)):=by obtain⟨y',e⟩:=q7H (G:=G) (sub:=sub) ts 0 (some (.val d)) none h;rcases hd with rfl|rfl<;>simp[run,B.mask_of,num0,e]
theorem qBQ (m t:Nat):run G sub 2 B.holds [nI m,nI t] = .ok (.bl (m.testBit t)):=by simp only[run,B.holds];simp[num1,Nat.testBit_eq_decide_div_mod_eq,Nat.and_one_is_mod,Nat.shiftRight_eq_div_pow]
def blen (m:Nat):Nat:=if m=0 then 0 else m.log2+1
def q01 (m:Nat):List Nat:=(Qk (blen m)).filter m.testBit
theorem qId (m:Nat):biD sub .bits [nI m] = .ok (nI (blen m)):=by
 show (if 0<=(m:Int) then R.ok (D.int (if (m:Int)=0 then 0 else (((m:Int).toNat.log2+1:Nat):Int))) else R.stuck)=_;unfold nI blen;rw[if_pos (by lia)]
 by_cases h:m=0
 ·subst h;rfl
 ·rw[if_neg (by lia),if_neg h];rfl
theorem qBR (m:Nat) (h:m<2^62):blen m<=62:=by
 unfold blen;split
 ·lia
 ·have:=(Nat.log2_lt (by assumption)).mpr h;lia
theorem q7I (l:List Nat) (p:Nat->Bool) (q:D->Bool) (h:∀a∈l,q (nI a)=p a):(nL l).filter q=nL (l.filter p):=by
 induction l with
 |nil=>rfl
 |cons a l ih =>
  have h1:=h a Qb;have ih':=ih λ b hb=>h b (Qa _ hb);rw[q1J,Q9,Q9,h1,ih'];split<;>simp
def natOf:D->Nat
 | .int i=>i.toNat
 |_=>0
@[simp] theorem qL0 (a:Nat):natOf (nI a)=a:=by simp[natOf,nI]
theorem q1Z {elt:Env->R D}{cond:Env->R Bool}{ρ:Env}{p:Nat->Bool}{l:List Nat}(hc:∀a∈l,cond (some (.val (nI a))::ρ) = .ok (p a)) (he:∀a∈l,elt (some (.val (nI a))::ρ) = .ok (nI a)) :
  q0U elt cond 0 ρ (nL l) = .ok (nL (l.filter p)):=by
 rw[q4u (g:=id) (p:=λ d=>p (natOf d))]
 ·rw[List.map_id,q7I l p];intro a _;simp
 ·intro d hd;obtain⟨a,ha,rfl⟩:=Qg.mp hd;refine⟨[nI a],rfl,?_,λ _=>?_⟩
  ·simp[hc a ha]
  ·simp[he a ha]
theorem q6I (hH:∀m t:Nat,G f.holds [nI m,nI t] = .ok (.bl (m.testBit t))) (m:Nat) (h:m<2^62):run G sub 1 (B.things_of f) [nI m] = .ok (.tup (nL (q01 m))):=by
 have hb:=qBR m h;have hl:((Qk (blen m)).filter m.testBit).length<=big:=Qr (QD _ _) (by rw[QK,q0P];lia);have e:=q1Z (elt:=ev G sub (.var 0)) (cond:=tsts G sub [.e (.call f.holds [.var 1,.var 0])]) (ρ:=[some (.val (nI m))]) (p:=m.testBit) (l:=Qk (blen m))
  (λ a _=>by cases q:m.testBit a<;>simp[hH,q]) (λ a _=>by simp)
 have e0:evi G sub (.rng [.bi .bits [.var 0]]) [some (.val (nI m))] = .ok (nL (Qk (blen m))):=by rw[q1T,q0H,q1S,q0H,q1X,q0c];show ((biD sub .bits [nI m]).bind λ x=>R.ok [x]).bind rngD=_;rw[qId,q00,q00,q4T _ (Q8 hb (by decide))]
 have e1:ev G sub (.comp 0 (.var 0) (.rng [.bi .bits [.var 0]]) [.e (.call f.holds [.var 1,.var 0])]) [some (.val (nI m))] = .ok (.lst (nL (q01 m))):=by rw[q13,e0,q00,e,q0b,q00,q0K,if_pos hl];rfl
 show run G sub 1 [.ret (.bi .tuple [.comp 0 (.var 0) (.rng [.bi .bits [.var 0]]) [.e (.call f.holds [.var 1,.var 0])]])] [nI m]=_;generalize (L.comp 0 (.var 0) (.rng [.bi .bits [.var 0]]) [.e (.call f.holds [.var 1,.var 0])])=cc at e1;simp only[run];simp[e1]
theorem q4x (n:Nat) (h:n<=1000):run G sub 1 B.mask_of_all [nI n] = .ok (nI (2^n-1)):=by simp only[run,B.mask_of_all];simp[num1,h];rw[qIW _ _ (by rw[Nat.one_shiftLeft];exact Nat.one_le_two_pow)];simp[Nat.one_shiftLeft]
def mayL (nd:List (List Nat)) (k t:Nat):Bool:=!k.testBit t&&((nd.getD t []).any λ x=>x &&& k==x)
def ndD (nd:List (List Nat)):D:= .lst (nd.map λ l=> .lst (nL l))
theorem qDX (k x:Nat) (a c d:Option Sl):exs G sub B.q2A [a,some (.val (nI k)),c,some (.val (nI x))] = .ok [a,some (.val (nI k)),c,some (.val (nI x))] (if x &&& k=x then .ret (.bl true) else .nx):=by
 by_cases h:x &&& k=x<;>simp[B.q2A,h]
theorem q9E (k:Nat) (a c:Option Sl):∀(l:List Nat) (d:Option Sl),∃d',q0z (exs G sub B.q2A) 0 [3] (nL l) [a,some (.val (nI k)),c,d] =
  .ok [a,some (.val (nI k)),c,d'] (if l.any (λ x=>x &&& k==x)=true then .ret (.bl true) else .nx)
 |[],d=>⟨d,rfl⟩
 |x::l,d=>by
  obtain⟨d',e⟩:=q9E k a c l (some (.val (nI x)));rw[q1J,q0L];simp only[QZ,Q0,Q3];rw[qDX k x a c d]
  by_cases h:x &&& k=x
  ·exact⟨some (.val (nI x)),by simp[h]⟩
  ·refine⟨d',?_⟩;rw[if_neg h,q21,e];simp[h]
theorem q7J (l:List D) (t:Nat) (d:D) (h:l[t]? = some d):nth l (t:Int) = .ok d:=by unfold nth;rw[if_pos (by lia)];simp[h]
theorem q6J (hH:∀m t:Nat,G f.holds [nI m,nI t] = .ok (.bl (m.testBit t))) (nd:List (List Nat)) (k t:Nat) (h:t<nd.length):run G sub 4 (B.may_learn f) [ndD nd,nI k,nI t] = .ok (.bl (mayL nd k t)):=by
 unfold mayL;have e1:nd.getD t []=nd[t]:=by simp[QY,h]
 have e2:idxD (ndD nd) (nI t) = .ok (.lst (nL (nd.getD t []))):=by show nth _ (t:Int)=_;refine q7J _ _ _ ?_;rw[Qt,Ql h,e1];rfl
 generalize nd.getD t []=l at e2 |-;obtain⟨d',e⟩:=q9E (G:=G) (sub:=sub) k (some (.val (ndD nd))) (some (.val (nI t))) l none;simp only[run,B.may_learn];cases q:k.testBit t
 ·cases r:l.any (λ x=>x &&& k==x)
  ·rw[r] at e;simp[hH,q,e2,e]
  ·rw[r] at e;simp[hH,q,e2,e]
 ·simp[hH,q]
def q2O (nd:List (List Nat)) (k b:Nat):List Nat:=(q01 b).filter (mayL nd k)
theorem q03 {m t:Nat}:t∈q01 m↔m.testBit t=true:=by
 unfold q01;rw[QF,Qw];refine⟨λ h=>h.2,λ h=>⟨?_,h⟩⟩;have h2:=Nat.ge_two_pow_of_testBit h;have:m≠0:=by intro z;subst z;simp at h
 unfold blen;rw[if_neg this];have:=(Nat.le_log2 this).mpr h2;lia
theorem q4y (hT:∀m:Nat,m<2^62->G f.things_of [nI m] = .ok (.tup (nL (q01 m)))) (nd:List (List Nat)) (hM:∀k t:Nat,t<nd.length->G f.may_learn [ndD nd,nI k,nI t] = .ok (.bl (mayL nd k t))) (k b:Nat) (hb:b<2^nd.length) (hn:nd.length<=60) :
  run G sub 3 (B.next_within f) [ndD nd,nI k,nI b] = .ok (.lst (nL (q2O nd k b))):=by
 have hb2:b<2^62:=Qn hb (QN (by decide) (by lia));have hlt:∀t∈q01 b,t<nd.length:=λ t ht=>by have:=Nat.ge_two_pow_of_testBit (q03.mp ht);exact (Nat.pow_lt_pow_iff_right (by decide)).mp (Q8 this hb)
 have e:=q1Z (elt:=ev G sub (.var 0)) (cond:=tsts G sub [.e (.call f.may_learn [.var 1,.var 2,.var 0])]) (ρ:=[some (.val (ndD nd)),some (.val (nI k)),some (.val (nI b))]) (p:=mayL nd k) (l:=q01 b)
  (λ a ha=>by cases q:mayL nd k a<;>simp[hM k a (hlt a ha),q]) (λ a _=>by simp)
 have hl:((q01 b).filter (mayL nd k)).length<=big:=by refine Qr (QD _ _) (Qr (QD _ _) ?_);rw[QK,q0P];have:=qBR b hb2;lia
 simp only[run,B.next_within];simp[hT b hb2,e,hl,q2O]
end
end Ev
namespace Ev
open PySem PySem.SeqAt
variable {h:Heap}{a:Addr}{us vs:List Value}{A:Around}{s:Shared}{u v u1 u2:Value}{b c:Bool}{d e:D}
mutual
noncomputable def Dv (h:Heap):D->Value->Prop
 | .non,u=>u = .none
 | .bl b,u=>u = .bool b
 | .int i,u=>∃t,u = .int i t
 | .str x,u=>∃t,u = .str x t
 | .tup ds,u=>∃a us,u = .ref a/\h.IsTuple a (Jn us)/\DvL h ds us
 | .lst ds,u=>∃a us,u = .ref a/\h.IsList a (Jn us)/\DvL h ds us
 | .dct _ _,_=>True
 | .exc _,_=>True
noncomputable def DvL (h:Heap):List D->List Value->Prop
 |[],us=>us=[]
 |d::ds,us=>∃u r,us=u::r/\Dv h d u/\DvL h ds r
end
theorem DvL.length:∀{ds:List D}{us:List Value},DvL h ds us->ds.length=us.length
 |[],us,x=>by cases (show us=[] from x);rfl
 |d::ds,us,x=>by obtain⟨u,r,e,_,y⟩:=x;subst e;simp[DvL.length y]
theorem DvL.get:∀{ds:List D}{us:List Value}{i:Nat}{d:D},DvL h ds us->ds[i]? = some d->∃u,us[i]? = some u/\Dv h d u
 |[],us,i,d,x,e=>by simp at e
 |a::ds,us,0,d,x,e=>by obtain⟨u,r,q,y,_⟩:=x;subst q;simp at e;subst e;exact⟨u,rfl,y⟩
 |a::ds,us,i+1,d,x,e=>by obtain⟨u,r,q,_,y⟩:=x;subst q;obtain⟨v,e1,e2⟩:=DvL.get (i:=i) y (by simpa using e);exact⟨v,by simpa using e1,e2⟩
theorem DvL.mem:∀{ds:List D}{us:List Value}{u:Value},DvL h ds us->u∈us->∃d∈ds,Dv h d u
 |[],us,u,x,e=>by cases (show us=[] from x);cases e
 |a::ds,us,u,x,e=>by
  obtain⟨w,r,q,y1,y2⟩:=x;subst q;rcases Qf.mp e with rfl|e
  ·exact⟨a,Qb,y1⟩
  ·obtain⟨d,hd,z⟩:=DvL.mem y2 e;exact⟨d,Qa _ hd,z⟩
def q6K (ds es:List D) (j:Nat):Bool:=match ds[j]?,es[j]? with
 |some d,some e=>eqb d e
 |_,_=>true
theorem all_succ (f:Nat->Bool) (n:Nat):(Qk (n+1)).all f=(f 0&&(Qk n).all (λ i=>f (i+1))):=by rw[List.range_succ_eq_map,List.all_cons,List.all_map];rfl
theorem q3K:∀ds es:List D,((Qk (min ds.length es.length)).all (q6K ds es)&&ds.length==es.length)=eqbL ds es
 |[],[]=>rfl
 |[],_::_=>by simp[eqbL]
 |_::_,[]=>by simp[eqbL]
 |d::ds,e::es=>by
  have ih:=q3K ds es;rw[Qu,Qu,Nat.succ_min_succ,all_succ,eqbL,<-ih];have h1:q6K (d::ds) (e::es) 0=eqb d e:=rfl;have h2:(λ i=>q6K (d::ds) (e::es) (i+1))=q6K ds es:=by funext i;simp[q6K]
  rw[h1,h2];have h3:(ds.length+1==es.length+1)=(ds.length==es.length):=by simp
  rw[h3,Bool.and_assoc]
theorem q4z {ds es:List D}(h:ds.length=es.length):(Qk ds.length).all (q6K ds es)=eqbL ds es:=by have:=q3K ds es;rw[<-h,Nat.min_self] at this;simpa using this
theorem q3L:∀{ds es:List D},ds.length≠es.length->eqbL ds es=false
 |[],[],h=>absurd rfl h
 |[],_::_,_=>by simp[eqbL]
 |_::_,[],_=>by simp[eqbL]
 |d::ds,e::es,h=>by rw[eqbL,q3L (ds:=ds) (es:=es) (λ q=>h (by simp[q]))];simp
theorem qG0 (x:h.IsTuple a us.toArray) (y:h.IsTuple a vs.toArray):us=vs:=by
 obtain⟨o,e,_,n,d⟩:=x;obtain⟨o',e',_,n',d'⟩:=y;rw[e] at e';cases e';rw[d] at d';injection d' with d1 _
 simpa using congrArg Array.toList d1
theorem qG1 (x:h.IsList a us.toArray) (y:h.IsList a vs.toArray):us=vs:=by
 obtain⟨o,e,_,n,d⟩:=x;obtain⟨o',e',_,n',d'⟩:=y;rw[e] at e';cases e';rw[d] at d';injection d' with d1 _
 simpa using congrArg Array.toList d1
theorem q5k (x:h.IsTuple a us.toArray) (y:h.IsList a vs.toArray):False:=by
 obtain⟨o,e,c,_⟩:=x;obtain⟨o',e',c',_⟩:=y;rw[e] at e';cases e';rw[c] at c';injection c' with q
 exact absurd q (by decide)
theorem q2x:∀(k:Nat) {h:Heap}{d e:D}{u:Value},plN k d=true->plN k e=true->Dv h d u->Dv h e u->eqb d e=true:=by
 have lists:∀(k:Nat),(∀{h:Heap}{d e:D}{u:Value},plN k d=true->plN k e=true->Dv h d u->Dv h e u->eqb d e=true)->∀{h:Heap}{ds es:List D}{us:List Value},ds.all (plN k)=true->es.all (plN k)=true->DvL h ds us->DvL h es us->eqbL ds es=true:=by
  intro k ih h ds
  induction ds with
  |nil =>
   intro es us _ _ x y;cases (show us=[] from x);cases es with
   |nil=>simp[eqbL]
   |cons e es=>obtain⟨_,_,q,_⟩:=y;cases q
  |cons d ds ihl =>
   intro es us p q x y;obtain⟨u,r,e1,x1,x2⟩:=x;subst e1;cases es with
   |nil=>cases (show u::r=[] from y)
   |cons e es =>
    obtain⟨u',r',e2,y1,y2⟩:=y;injection e2 with e3 e4
    subst e3 e4;simp only[List.all_cons,Qc] at p q;rw[eqbL,ih p.1 q.1 x1 y1,ihl p.2 q.2 x2 y2];rfl
 intro k
 induction k with
 |zero =>
  intro h d e u p q x y;cases d<;>cases e<;>first
   |(simp[plN] at p;done)
   |(simp[plN] at q;done)
   |(obtain⟨t,rfl⟩:=x;obtain⟨t',q'⟩:=y;injection q' with q1 _;subst q1;simp[eqb];done)
   |(obtain⟨t,rfl⟩:=x;obtain⟨t',q'⟩:=y;cases q';done)
   |(obtain⟨t,rfl⟩:=x;cases (show _=_ from y);done)
   |(obtain⟨t,rfl⟩:=y;cases (show _=_ from x);done)
   |(cases (show u=_ from x);cases (show _=_ from y);simp[eqb];done)
   |(cases (show u=_ from x);cases (show _=_ from y);done)
 |succ k ih =>
  intro h d e u p q x y;cases d<;>cases e<;>first
   |(simp[plN] at p;done)
   |(simp[plN] at q;done)
   |(obtain⟨a,us,rfl,x1,x2⟩:=x;obtain⟨a',us',q',y1,y2⟩:=y;injection q' with q1;subst q1;cases qG0 x1 y1;rw[q1U] at p q;simpa[eqb] using lists k (λ {h d e u}=>ih) p q x2 y2;done)
   |(obtain⟨a,us,rfl,x1,x2⟩:=x;obtain⟨a',us',q',y1,y2⟩:=y;injection q' with q1;subst q1;cases qG1 x1 y1;rw[q2w] at p q;simpa[eqb] using lists k (λ {h d e u}=>ih) p q x2 y2;done)
   |(obtain⟨a,us,rfl,x1,x2⟩:=x;obtain⟨a',us',q',y1,y2⟩:=y;injection q' with q1;subst q1;exact (q5k x1 y1).elim)
   |(obtain⟨a,us,rfl,x1,x2⟩:=x;obtain⟨a',us',q',y1,y2⟩:=y;injection q' with q1;subst q1;exact (q5k y1 x1).elim)
   |(obtain⟨a,us,rfl,x1,x2⟩:=x;obtain⟨t',q'⟩:=y;cases q';done)
   |(obtain⟨a,us,rfl,x1,x2⟩:=x;cases (show _=_ from y);done)
   |(obtain⟨a,us,rfl,x1,x2⟩:=y;obtain⟨t',q'⟩:=x;cases q';done)
   |(obtain⟨a,us,rfl,x1,x2⟩:=y;cases (show _=_ from x);done)
   |(obtain⟨t,rfl⟩:=x;obtain⟨t',q'⟩:=y;injection q' with q1 _;subst q1;simp[eqb];done)
   |(obtain⟨t,rfl⟩:=x;obtain⟨t',q'⟩:=y;cases q';done)
   |(obtain⟨t,rfl⟩:=x;cases (show _=_ from y);done)
   |(obtain⟨t,rfl⟩:=y;cases (show _=_ from x);done)
   |(cases (show u=_ from x);cases (show _=_ from y);simp[eqb];done)
   |(cases (show u=_ from x);cases (show _=_ from y);done)
theorem eqTo (h:EqAt A s u v b) (e:b=c:=by first|rfl|simp[eqb,b2i,Bool.beq_eq_decide_eq]):EqAt A s u v c:=e▸h
theorem q5l (hk:∀l,d = .tup l->∀m,e = .tup m->EqAt A s u1 u2 (eqb d e)) (hl:∀l,d = .lst l->∀m,e = .lst m->EqAt A s u1 u2 (eqb d e)) (p:∃k,plN k d=true) (q:∃k,plN k e=true) (x1:Dv s.heap d u1) (x2:Dv s.heap e u2) (hu:A.units<cLine):EqAt A s u1 u2 (eqb d e):=by
 cases d with
 |non =>
  cases (show u1=_ from x1);cases e with
  |non=>cases (show u2=_ from x2);exact eqTo (EqAt.same .none)
  |bl b2=>cases (show u2=_ from x2);exact eqTo (EqAt.none_bool b2)
  |int i2=>obtain⟨t2,rfl⟩:=x2;exact eqTo (EqAt.none_int i2 t2)
  |str w2=>obtain⟨t2,rfl⟩:=x2;exact eqTo (EqAt.none_str w2 t2)
  |tup l2=>obtain⟨a2,us2,rfl,y2,z2⟩:=x2;exact eqTo (EqAt.none_tuple y2 hu)
  |lst l2=>obtain⟨a2,us2,rfl,y2,z2⟩:=x2;exact eqTo (EqAt.none_list y2 hu)
  |_=>obtain⟨k,q⟩:=q;cases k<;>simp[plN] at q
 |bl b1 =>
  cases (show u1=_ from x1);cases e with
  |non=>cases (show u2=_ from x2);exact eqTo (EqAt.bool_none b1)
  |bl b2=>cases (show u2=_ from x2);exact eqTo (EqAt.bool_bool b1 b2)
  |int i2=>obtain⟨t2,rfl⟩:=x2;exact eqTo (EqAt.bool_int b1 i2 t2)
  |str w2=>obtain⟨t2,rfl⟩:=x2;exact eqTo (EqAt.bool_str b1 w2 t2)
  |tup l2=>obtain⟨a2,us2,rfl,y2,z2⟩:=x2;exact eqTo (EqAt.bool_tuple b1 y2 hu)
  |lst l2=>obtain⟨a2,us2,rfl,y2,z2⟩:=x2;exact eqTo (EqAt.bool_list b1 y2 hu)
  |_=>obtain⟨k,q⟩:=q;cases k<;>simp[plN] at q
 |int i1 =>
  obtain⟨t1,rfl⟩:=x1;cases e with
  |non=>cases (show u2=_ from x2);exact eqTo (EqAt.int_none i1 t1)
  |bl b2=>cases (show u2=_ from x2);exact eqTo (EqAt.int_bool i1 t1 b2)
  |int i2=>obtain⟨t2,rfl⟩:=x2;exact eqTo (EqAt.int_int i1 t1 i2 t2)
  |str w2=>obtain⟨t2,rfl⟩:=x2;exact eqTo (EqAt.int_str i1 t1 w2 t2)
  |tup l2=>obtain⟨a2,us2,rfl,y2,z2⟩:=x2;exact eqTo (EqAt.int_tuple i1 t1 y2 hu)
  |lst l2=>obtain⟨a2,us2,rfl,y2,z2⟩:=x2;exact eqTo (EqAt.int_list i1 t1 y2 hu)
  |_=>obtain⟨k,q⟩:=q;cases k<;>simp[plN] at q
 |str w1 =>
  obtain⟨t1,rfl⟩:=x1;cases e with
  |non=>cases (show u2=_ from x2);exact eqTo (EqAt.str_none w1 t1)
  |bl b2=>cases (show u2=_ from x2);exact eqTo (EqAt.str_bool w1 t1 b2)
  |int i2=>obtain⟨t2,rfl⟩:=x2;exact eqTo (EqAt.str_int w1 t1 i2 t2)
  |str w2=>obtain⟨t2,rfl⟩:=x2;exact eqTo (EqAt.str_str w1 t1 w2 t2)
  |tup l2=>obtain⟨a2,us2,rfl,y2,z2⟩:=x2;exact eqTo (EqAt.str_tuple w1 t1 y2 hu)
  |lst l2=>obtain⟨a2,us2,rfl,y2,z2⟩:=x2;exact eqTo (EqAt.str_list w1 t1 y2 hu)
  |_=>obtain⟨k,q⟩:=q;cases k<;>simp[plN] at q
 |tup l1 =>
  obtain⟨a1,us1,rfl,y1,z1⟩:=x1;cases e with
  |non=>cases (show u2=_ from x2);exact eqTo (EqAt.tuple_none y1 hu)
  |bl b2=>cases (show u2=_ from x2);exact eqTo (EqAt.tuple_bool b2 y1 hu)
  |int i2=>obtain⟨t2,rfl⟩:=x2;exact eqTo (EqAt.tuple_int i2 t2 y1 hu)
  |str w2=>obtain⟨t2,rfl⟩:=x2;exact eqTo (EqAt.tuple_str w2 t2 y1 hu)
  |tup l2=>exact hk _ rfl _ rfl
  |lst l2=>obtain⟨a2,us2,rfl,y2,z2⟩:=x2;exact eqTo (EqAt.tuple_list y1 y2 hu)
  |_=>obtain⟨k,q⟩:=q;cases k<;>simp[plN] at q
 |lst l1 =>
  obtain⟨a1,us1,rfl,y1,z1⟩:=x1;cases e with
  |non=>cases (show u2=_ from x2);exact eqTo (EqAt.list_none y1 hu)
  |bl b2=>cases (show u2=_ from x2);exact eqTo (EqAt.list_bool b2 y1 hu)
  |int i2=>obtain⟨t2,rfl⟩:=x2;exact eqTo (EqAt.list_int i2 t2 y1 hu)
  |str w2=>obtain⟨t2,rfl⟩:=x2;exact eqTo (EqAt.list_str w2 t2 y1 hu)
  |tup l2=>obtain⟨a2,us2,rfl,y2,z2⟩:=x2;exact eqTo (EqAt.list_tuple y1 y2 hu)
  |lst l2=>exact hl _ rfl _ rfl
  |_=>obtain⟨k,q⟩:=q;cases k<;>simp[plN] at q
 |_=>obtain⟨k,p⟩:=p;cases k<;>simp[plN] at p
theorem rcTo (h:RcAt A s u v b) (e:b=c:=by first|rfl|simp[eqb,b2i,Bool.beq_eq_decide_eq]):RcAt A s u v c:=e▸h
theorem qAP (hk:∀l,d = .tup l->∀m,e = .tup m->RcAt A s u1 u2 (eqb d e)) (hl:∀l,d = .lst l->∀m,e = .lst m->RcAt A s u1 u2 (eqb d e)) (p:∃k,plN k d=true) (q:∃k,plN k e=true) (x1:Dv s.heap d u1) (x2:Dv s.heap e u2) (hu:A.units<cLine):RcAt A s u1 u2 (eqb d e):=by
 cases d with
 |non =>
  cases (show u1=_ from x1);cases e with
  |non=>cases (show u2=_ from x2);exact rcTo RcAt.none_none
  |bl b2=>cases (show u2=_ from x2);exact rcTo (RcAt.none_bool b2)
  |int i2=>obtain⟨t2,rfl⟩:=x2;exact rcTo (RcAt.none_int i2 t2)
  |str w2=>obtain⟨t2,rfl⟩:=x2;exact rcTo (RcAt.none_str w2 t2)
  |tup l2=>obtain⟨a2,us2,rfl,y2,z2⟩:=x2;exact rcTo (RcAt.none_tuple y2 hu)
  |lst l2=>obtain⟨a2,us2,rfl,y2,z2⟩:=x2;exact rcTo (RcAt.none_list y2 hu)
  |_=>obtain⟨k,q⟩:=q;cases k<;>simp[plN] at q
 |bl b1 =>
  cases (show u1=_ from x1);cases e with
  |non=>cases (show u2=_ from x2);exact rcTo (RcAt.bool_none b1)
  |bl b2=>cases (show u2=_ from x2);exact rcTo (RcAt.bool_bool b1 b2)
  |int i2=>obtain⟨t2,rfl⟩:=x2;exact rcTo (RcAt.bool_int b1 i2 t2)
  |str w2=>obtain⟨t2,rfl⟩:=x2;exact rcTo (RcAt.bool_str b1 w2 t2)
  |tup l2=>obtain⟨a2,us2,rfl,y2,z2⟩:=x2;exact rcTo (RcAt.bool_tuple b1 y2 hu)
  |lst l2=>obtain⟨a2,us2,rfl,y2,z2⟩:=x2;exact rcTo (RcAt.bool_list b1 y2 hu)
  |_=>obtain⟨k,q⟩:=q;cases k<;>simp[plN] at q
 |int i1 =>
  obtain⟨t1,rfl⟩:=x1;cases e with
  |non=>cases (show u2=_ from x2);exact rcTo (RcAt.int_none i1 t1)
  |bl b2=>cases (show u2=_ from x2);exact rcTo (RcAt.int_bool i1 t1 b2)
  |int i2=>obtain⟨t2,rfl⟩:=x2;exact rcTo (RcAt.int_int i1 t1 i2 t2)
  |str w2=>obtain⟨t2,rfl⟩:=x2;exact rcTo (RcAt.int_str i1 t1 w2 t2)
  |tup l2=>obtain⟨a2,us2,rfl,y2,z2⟩:=x2;exact rcTo (RcAt.int_tuple i1 t1 y2 hu)
  |lst l2=>obtain⟨a2,us2,rfl,y2,z2⟩:=x2;exact rcTo (RcAt.int_list i1 t1 y2 hu)
  |_=>obtain⟨k,q⟩:=q;cases k<;>simp[plN] at q
 |str w1 =>
  obtain⟨t1,rfl⟩:=x1;cases e with
  |non=>cases (show u2=_ from x2);exact rcTo (RcAt.str_none w1 t1)
  |bl b2=>cases (show u2=_ from x2);exact rcTo (RcAt.str_bool w1 t1 b2)
  |int i2=>obtain⟨t2,rfl⟩:=x2;exact rcTo (RcAt.str_int w1 t1 i2 t2)
  |str w2=>obtain⟨t2,rfl⟩:=x2;exact rcTo (RcAt.str_str w1 t1 w2 t2)
  |tup l2=>obtain⟨a2,us2,rfl,y2,z2⟩:=x2;exact rcTo (RcAt.str_tuple w1 t1 y2 hu)
  |lst l2=>obtain⟨a2,us2,rfl,y2,z2⟩:=x2;exact rcTo (RcAt.str_list w1 t1 y2 hu)
  |_=>obtain⟨k,q⟩:=q;cases k<;>simp[plN] at q
 |tup l1 =>
  obtain⟨a1,us1,rfl,y1,z1⟩:=x1;cases e with
  |non=>cases (show u2=_ from x2);exact rcTo (RcAt.tuple_none y1 hu)
  |bl b2=>cases (show u2=_ from x2);exact rcTo (RcAt.tuple_bool b2 y1 hu)
  |int i2=>obtain⟨t2,rfl⟩:=x2;exact rcTo (RcAt.tuple_int i2 t2 y1 hu)
  |str w2=>obtain⟨t2,rfl⟩:=x2;exact rcTo (RcAt.tuple_str w2 t2 y1 hu)
  |tup l2=>exact hk _ rfl _ rfl
  |lst l2=>obtain⟨a2,us2,rfl,y2,z2⟩:=x2;exact rcTo (RcAt.tuple_list y1 y2 hu)
  |_=>obtain⟨k,q⟩:=q;cases k<;>simp[plN] at q
 |lst l1 =>
  obtain⟨a1,us1,rfl,y1,z1⟩:=x1;cases e with
  |non=>cases (show u2=_ from x2);exact rcTo (RcAt.list_none y1 hu)
  |bl b2=>cases (show u2=_ from x2);exact rcTo (RcAt.list_bool b2 y1 hu)
  |int i2=>obtain⟨t2,rfl⟩:=x2;exact rcTo (RcAt.list_int i2 t2 y1 hu)
  |str w2=>obtain⟨t2,rfl⟩:=x2;exact rcTo (RcAt.list_str w2 t2 y1 hu)
  |tup l2=>obtain⟨a2,us2,rfl,y2,z2⟩:=x2;exact rcTo (RcAt.list_tuple y1 y2 hu)
  |lst l2=>exact hl _ rfl _ rfl
  |_=>obtain⟨k,q⟩:=q;cases k<;>simp[plN] at q
 |_=>obtain⟨k,p⟩:=p;cases k<;>simp[plN] at p
theorem neTo (h:RcNeAt A s u v b) (e:b=c:=by first|rfl|simp[eqb,b2i,Bool.beq_eq_decide_eq]):RcNeAt A s u v c:=e▸h
theorem q7K (hk:∀l,d = .tup l->∀m,e = .tup m->RcNeAt A s u1 u2 (!eqb d e)) (hl:∀l,d = .lst l->∀m,e = .lst m->RcNeAt A s u1 u2 (!eqb d e)) (p:∃k,plN k d=true) (q:∃k,plN k e=true) (x1:Dv s.heap d u1) (x2:Dv s.heap e u2) (hu:A.units<cLine):RcNeAt A s u1 u2 (!eqb d e):=by
 cases d with
 |non =>
  cases (show u1=_ from x1);cases e with
  |non=>cases (show u2=_ from x2);exact neTo RcNeAt.none_none
  |bl b2=>cases (show u2=_ from x2);exact neTo (RcNeAt.none_bool b2)
  |int i2=>obtain⟨t2,rfl⟩:=x2;exact neTo (RcNeAt.none_int i2 t2)
  |str w2=>obtain⟨t2,rfl⟩:=x2;exact neTo (RcNeAt.none_str w2 t2)
  |tup l2=>obtain⟨a2,us2,rfl,y2,z2⟩:=x2;exact neTo (RcNeAt.none_tuple y2 hu)
  |lst l2=>obtain⟨a2,us2,rfl,y2,z2⟩:=x2;exact neTo (RcNeAt.none_list y2 hu)
  |_=>obtain⟨k,q⟩:=q;cases k<;>simp[plN] at q
 |bl b1 =>
  cases (show u1=_ from x1);cases e with
  |non=>cases (show u2=_ from x2);exact neTo (RcNeAt.bool_none b1)
  |bl b2=>cases (show u2=_ from x2);exact neTo (RcNeAt.bool_bool b1 b2)
  |int i2=>obtain⟨t2,rfl⟩:=x2;exact neTo (RcNeAt.bool_int b1 i2 t2)
  |str w2=>obtain⟨t2,rfl⟩:=x2;exact neTo (RcNeAt.bool_str b1 w2 t2)
  |tup l2=>obtain⟨a2,us2,rfl,y2,z2⟩:=x2;exact neTo (RcNeAt.bool_tuple b1 y2 hu)
  |lst l2=>obtain⟨a2,us2,rfl,y2,z2⟩:=x2;exact neTo (RcNeAt.bool_list b1 y2 hu)
  |_=>obtain⟨k,q⟩:=q;cases k<;>simp[plN] at q
 |int i1 =>
  obtain⟨t1,rfl⟩:=x1;cases e with
  |non=>cases (show u2=_ from x2);exact neTo (RcNeAt.int_none i1 t1)
  |bl b2=>cases (show u2=_ from x2);exact neTo (RcNeAt.int_bool i1 t1 b2)
  |int i2=>obtain⟨t2,rfl⟩:=x2;exact neTo (RcNeAt.int_int i1 t1 i2 t2)
  |str w2=>obtain⟨t2,rfl⟩:=x2;exact neTo (RcNeAt.int_str i1 t1 w2 t2)
  |tup l2=>obtain⟨a2,us2,rfl,y2,z2⟩:=x2;exact neTo (RcNeAt.int_tuple i1 t1 y2 hu)
  |lst l2=>obtain⟨a2,us2,rfl,y2,z2⟩:=x2;exact neTo (RcNeAt.int_list i1 t1 y2 hu)
  |_=>obtain⟨k,q⟩:=q;cases k<;>simp[plN] at q
 |str w1 =>
  obtain⟨t1,rfl⟩:=x1;cases e with
  |non=>cases (show u2=_ from x2);exact neTo (RcNeAt.str_none w1 t1)
  |bl b2=>cases (show u2=_ from x2);exact neTo (RcNeAt.str_bool w1 t1 b2)
  |int i2=>obtain⟨t2,rfl⟩:=x2;exact neTo (RcNeAt.str_int w1 t1 i2 t2)
  |str w2=>obtain⟨t2,rfl⟩:=x2;exact neTo (RcNeAt.str_str w1 t1 w2 t2)
  |tup l2=>obtain⟨a2,us2,rfl,y2,z2⟩:=x2;exact neTo (RcNeAt.str_tuple w1 t1 y2 hu)
  |lst l2=>obtain⟨a2,us2,rfl,y2,z2⟩:=x2;exact neTo (RcNeAt.str_list w1 t1 y2 hu)
  |_=>obtain⟨k,q⟩:=q;cases k<;>simp[plN] at q
 |tup l1 =>
  obtain⟨a1,us1,rfl,y1,z1⟩:=x1;cases e with
  |non=>cases (show u2=_ from x2);exact neTo (RcNeAt.tuple_none y1 hu)
  |bl b2=>cases (show u2=_ from x2);exact neTo (RcNeAt.tuple_bool b2 y1 hu)
  |int i2=>obtain⟨t2,rfl⟩:=x2;exact neTo (RcNeAt.tuple_int i2 t2 y1 hu)
  |str w2=>obtain⟨t2,rfl⟩:=x2;exact neTo (RcNeAt.tuple_str w2 t2 y1 hu)
  |tup l2=>exact hk _ rfl _ rfl
  |lst l2=>obtain⟨a2,us2,rfl,y2,z2⟩:=x2;exact neTo (RcNeAt.tuple_list y1 y2 hu)
  |_=>obtain⟨k,q⟩:=q;cases k<;>simp[plN] at q
 |lst l1 =>
  obtain⟨a1,us1,rfl,y1,z1⟩:=x1;cases e with
  |non=>cases (show u2=_ from x2);exact neTo (RcNeAt.list_none y1 hu)
  |bl b2=>cases (show u2=_ from x2);exact neTo (RcNeAt.list_bool b2 y1 hu)
  |int i2=>obtain⟨t2,rfl⟩:=x2;exact neTo (RcNeAt.list_int i2 t2 y1 hu)
  |str w2=>obtain⟨t2,rfl⟩:=x2;exact neTo (RcNeAt.list_str w2 t2 y1 hu)
  |tup l2=>obtain⟨a2,us2,rfl,y2,z2⟩:=x2;exact neTo (RcNeAt.list_tuple y1 y2 hu)
  |lst l2=>exact hl _ rfl _ rfl
  |_=>obtain⟨k,q⟩:=q;cases k<;>simp[plN] at q
 |_=>obtain⟨k,p⟩:=p;cases k<;>simp[plN] at p
theorem q2g {k:Nat}(ih:∀{A:Around}{d e:D}{u v:Value},plN k d=true->plN k e=true->Dv s.heap d u->Dv s.heap e v->A.units+k<cLine->EqAt A s u v (eqb d e))
  {ds es:List D}{us vs:List Value}(p:ds.all (plN k)=true) (q:es.all (plN k)=true) (x:DvL s.heap ds us) (y:DvL s.heap es vs) (hu:A.units+k<cLine) :
  ∀j (h1:j<us.toArray.size) (h2:j<vs.toArray.size),EqAt A s us.toArray[j] vs.toArray[j] (q6K ds es j):=by
 intro j h1 h2;have l1:j<ds.length:=by rw[x.length];simpa using h1
 have l2:j<es.length:=by rw[y.length];simpa using h2
 obtain⟨u,e1,z1⟩:=x.get (Ql l1);obtain⟨v,e2,z2⟩:=y.get (Ql l2);have f1:us.toArray[j]=u:=by have:us[j]? = some u:=e1;rw[Ql (by simpa using h1)] at this;simpa using this
 have f2:vs.toArray[j]=v:=by have:vs[j]? = some v:=e2;rw[Ql (by simpa using h2)] at this;simpa using this
 rw[f1,f2];have f3:q6K ds es j=eqb ds[j] es[j]:=by simp[q6K,l1,l2]
 rw[f3];exact ih (Qj.mp p _ (QT l1)) (Qj.mp q _ (QT l2)) z1 z2 hu
theorem q2S:∀(k:Nat) {A:Around}{s:Shared}{d e:D}{u v:Value},plN k d=true->plN k e=true->Dv s.heap d u->Dv s.heap e v->A.units+k<cLine->EqAt A s u v (eqb d e)
 |0,A,s,d,e,u,v,p,q,x,y,hu=>q5l (λ l h=>by subst h;simp[plN] at p) (λ l h=>by subst h;simp[plN] at p) ⟨0,p⟩ ⟨0,q⟩ x y (by lia)
 |k+1,A,s,d,e,u,v,p,q,x,y,hu=>by
  refine q5l (λ l h m h'=>?_) (λ l h m h'=>?_) ⟨_,p⟩ ⟨_,q⟩ x y (by lia)
  ·subst h h';obtain⟨a,us,rfl,x1,x2⟩:=x;obtain⟨b,vs,rfl,y1,y2⟩:=y
   by_cases ne:a=b
   ·subst ne;have:=q2x (k+1) p q (show Dv s.heap (.tup l) (.ref a) from⟨a,us,rfl,x1,x2⟩) (show Dv s.heap (.tup m) (.ref a) from⟨a,vs,rfl,y1,y2⟩);rw[this];exact EqAt.same _
   ·rw[q1U] at p q;have h:=RcAt.tuples x1 y1 (show A.units<cLine by lia) (q2g (A:=A.in1) (λ {A d e u v}=>q2S k) p q x2 y2 (by rw[Around.in1_units];lia));have e1:us.toArray.size=l.length:=(by rw[x2.length];simp);have e2:vs.toArray.size=m.length:=(by rw[y2.length];simp);rw[e1,e2,q3K] at h;have e3:eqb (.tup l) (.tup m)=eqbL l m:=(by simp[eqb]);rw[e3];exact EqAt.of_refs ne h
  ·subst h h';obtain⟨a,us,rfl,x1,x2⟩:=x;obtain⟨b,vs,rfl,y1,y2⟩:=y
   by_cases ne:a=b
   ·subst ne;have:=q2x (k+1) p q (show Dv s.heap (.lst l) (.ref a) from⟨a,us,rfl,x1,x2⟩) (show Dv s.heap (.lst m) (.ref a) from⟨a,vs,rfl,y1,y2⟩);rw[this];exact EqAt.same _
   ·rw[q2w] at p q;have e1:us.toArray.size=l.length:=(by rw[x2.length];simp);have e2:vs.toArray.size=m.length:=(by rw[y2.length];simp);have e3:eqb (.lst l) (.lst m)=eqbL l m:=(by simp[eqb]);rw[e3]
    by_cases hl:l.length=m.length
    ·have h:=RcAt.lists x1 y1 (by rw[e1,e2,hl]) (show A.units<cLine by lia) (q2g (A:=A.in1) (λ {A d e u v}=>q2S k) p q x2 y2 (by rw[Around.in1_units];lia));rw[e1,q4z hl] at h;exact EqAt.of_refs ne h
    ·have h:=RcAt.lists_lengths x1 y1 (by rw[e1,e2];simpa using hl) (show A.units<cLine by lia);rw[q3L hl];exact EqAt.of_refs ne h
theorem qIe (k:Nat) (p:plN k d=true) (q:plN k e=true) (x:Dv s.heap d u) (y:Dv s.heap e v) (hu:A.units+k<cLine):RcAt A s u v (eqb d e):=by
 refine qAP (λ l h m h'=>?_) (λ l h m h'=>?_) ⟨_,p⟩ ⟨_,q⟩ x y (by lia)
 ·subst h h';cases k with
  |zero=>simp[plN] at p
  |succ k =>
   obtain⟨a,us,rfl,x1,x2⟩:=x;obtain⟨b,vs,rfl,y1,y2⟩:=y;rw[q1U] at p q;have h:=RcAt.tuples x1 y1 (show A.units<cLine by lia) (q2g (A:=A.in1) (λ {A d e u v}=>q2S k) p q x2 y2 (by rw[Around.in1_units];lia));have e1:us.toArray.size=l.length:=(by rw[x2.length];simp);have e2:vs.toArray.size=m.length:=(by rw[y2.length];simp);rw[e1,e2,q3K] at h;have e3:eqb (.tup l) (.tup m)=eqbL l m:=(by simp[eqb]);rw[e3];exact h
 ·subst h h';cases k with
  |zero=>simp[plN] at p
  |succ k =>
   obtain⟨a,us,rfl,x1,x2⟩:=x;obtain⟨b,vs,rfl,y1,y2⟩:=y;rw[q2w] at p q;have e1:us.toArray.size=l.length:=(by rw[x2.length];simp);have e2:vs.toArray.size=m.length:=(by rw[y2.length];simp);have e3:eqb (.lst l) (.lst m)=eqbL l m:=(by simp[eqb]);rw[e3]
   by_cases hl:l.length=m.length
   ·have h:=RcAt.lists x1 y1 (by rw[e1,e2,hl]) (show A.units<cLine by lia) (q2g (A:=A.in1) (λ {A d e u v}=>q2S k) p q x2 y2 (by rw[Around.in1_units];lia));rw[e1,q4z hl] at h;exact h
   ·rw[q3L hl];exact RcAt.lists_lengths x1 y1 (by rw[e1,e2];simpa using hl) (show A.units<cLine by lia)
theorem qDY (k:Nat) (p:plN k d=true) (q:plN k e=true) (x:Dv s.heap d u) (y:Dv s.heap e v) (hu:A.units+k<cLine):RcNeAt A s u v (!eqb d e):=by
 refine q7K (λ l h m h'=>?_) (λ l h m h'=>?_) ⟨_,p⟩ ⟨_,q⟩ x y (by lia)
 ·subst h h';cases k with
  |zero=>simp[plN] at p
  |succ k =>
   obtain⟨a,us,rfl,x1,x2⟩:=x;obtain⟨b,vs,rfl,y1,y2⟩:=y;rw[q1U] at p q;have h:=RcNeAt.tuples x1 y1 (show A.units<cLine by lia) (q2g (A:=A.in1) (λ {A d e u v}=>q2S k) p q x2 y2 (by rw[Around.in1_units];lia));have e1:us.toArray.size=l.length:=(by rw[x2.length];simp);have e2:vs.toArray.size=m.length:=(by rw[y2.length];simp);rw[e1,e2,q3K] at h;have e3:eqb (.tup l) (.tup m)=eqbL l m:=(by simp[eqb]);rw[e3];exact h
 ·subst h h';cases k with
  |zero=>simp[plN] at p
  |succ k =>
   obtain⟨a,us,rfl,x1,x2⟩:=x;obtain⟨b,vs,rfl,y1,y2⟩:=y;rw[q2w] at p q;have e1:us.toArray.size=l.length:=(by rw[x2.length];simp);have e2:vs.toArray.size=m.length:=(by rw[y2.length];simp);have e3:eqb (.lst l) (.lst m)=eqbL l m:=(by simp[eqb]);rw[e3]
   by_cases hl:l.length=m.length
   ·have h:=RcNeAt.lists x1 y1 (by rw[e1,e2,hl]) (show A.units<cLine by lia) (q2g (A:=A.in1) (λ {A d e u v}=>q2S k) p q x2 y2 (by rw[Around.in1_units];lia));rw[e1,q4z hl] at h;exact h
   ·rw[q3L hl];exact RcNeAt.lists_lengths x1 y1 (by rw[e1,e2];simpa using hl) (show A.units<cLine by lia)
end Ev
namespace Ev
open PySem
mutual
def norm:D->D
 | .bl b=> .int (b2i b)
 | .tup l=> .tup (q6L l)
 | .lst l=> .lst (q6L l)
 |d=>d
def q6L:List D->List D
 |[]=>[]
 |a::l=>norm a::q6L l
end
theorem q50 {k:Nat}(ih:∀{d e:D},plN k d=true->plN k e=true->(eqb d e=true↔norm d=norm e)):∀{l m:List D},l.all (plN k)=true->m.all (plN k)=true->(eqbL l m=true↔q6L l=q6L m)
 |[],[],_,_=>by simp[eqbL,q6L]
 |[],_::_,_,_=>by simp[eqbL,q6L]
 |_::_,[],_,_=>by simp[eqbL,q6L]
 |d::l,e::m,p,q=>by simp only[List.all_cons,Qc] at p q;simp only[eqbL,q6L,Qc,List.cons.injEq];rw[ih p.1 q.1,q50 ih p.2 q.2]
theorem q3M:∀(k:Nat) {d e:D},plN k d=true->plN k e=true->(eqb d e=true↔norm d=norm e)
 |0,d,e,p,q=>by
  cases d<;>cases e<;>first
   |(simp[plN] at p;done)
   |(simp[plN] at q;done)
   |(simp[eqb,norm,b2i];done)
   |(rename_i a b;cases a<;>cases b<;>simp[eqb,norm,b2i];done)
   |(rename_i a b;cases a<;>simp[eqb,norm,b2i]<;>lia)
   |(rename_i a b;cases b<;>simp[eqb,norm,b2i]<;>lia)
 |k+1,d,e,p,q=>by
  cases d<;>cases e<;>first
   |(simp[plN] at p;done)
   |(simp[plN] at q;done)
   |(simp[eqb,norm,b2i];done)
   |(rw[q1U] at p q;simpa[eqb,norm] using q50 (λ {d e}=>q3M k) p q;done)
   |(rw[q2w] at p q;simpa[eqb,norm] using q50 (λ {d e}=>q3M k) p q;done)
   |(rename_i a b;cases a<;>cases b<;>simp[eqb,norm,b2i];done)
   |(rename_i a b;cases a<;>simp[eqb,norm,b2i]<;>lia)
   |(rename_i a b;cases b<;>simp[eqb,norm,b2i]<;>lia)
theorem qBS {k:Nat}{d d' e:D}(p:plN k d=true) (p':plN k d'=true) (q:plN k e=true) (h:eqb d d'=true):eqb d e=eqb d' e:=by have h':=(q3M k p p').mp h;rw[QE,q3M k p q,q3M k p' q,h']
end Ev
namespace Ev
open PySem PySem.SeqAt
open PySem.AutoSeq1 (wpAny_loadPart')
open PySem.MeetsSeq PySem.MeetsSeq2 PySem.MeetsSeq3
def LtAt (A:Around) (s:Shared) (u v:Value) (b:Bool):Prop :=
 ∀(prog:Program) (w:World) (E:Value->Shared->Prop) (Q:Value->Shared->Prop),Q (.bool b) s->wpAny (model prog w) A (richCompare .Lt u v) Q E s
def GeAt (A:Around) (s:Shared) (u v:Value) (b:Bool):Prop :=
 ∀(prog:Program) (w:World) (E:Value->Shared->Prop) (Q:Value->Shared->Prop),Q (.bool b) s->wpAny (model prog w) A (richCompare .GtE u v) Q E s
theorem q7L (l b:Addr) (items items2:List Value) (n n2:Nat) (dd dd2:Option Addr) (sl sl2:Array (Option Value)) (ds es:List D) (c:q0l ds es=true) :
  Meets (Builtin.«tuple.__lt__» ⟨[.ref l,.ref b],[]⟩)
   (λ A R s=>s.heap.get? l=some {cls:= .type "tuple",dict:=dd,data:= .seq items.toArray n,slots:=sl}/\s.heap.get? b=some {cls:= .type "tuple",dict:=dd2,data:= .seq items2.toArray n2,slots:=sl2}/\
    DvL s.heap ds items/\DvL s.heap es items2/\(∀d∈ds,∀e∈es,∀u v,Dv s.heap d u->Dv s.heap e v->EqAt A.in1 s u v (eqb d e)/\(q0V d e=true->LtAt A.in1 s u v (ltb d e)))/\
    R (.ok (.ret (.bool (ltbL ds es)))) s) :=
 .of_wp λ prog w A R s h=>by
  obtain⟨hp,g,d,tk,os⟩:=s;obtain⟨hl,hb,hx,hy,hel,h⟩:=h;have f2:=AutoSeq1.sub_tuple_tuple;have z1:items.toArray.size=ds.length:=by rw[hx.length];simp
  have z2:items2.toArray.size=es.length:=by rw[hy.length];simp
  wp_walk using wpAny_loadPart' hl,wpAny_loadPart' hb,wpAny_forIn_list _ (λ rest b s'=>b.1=none/\s'=⟨hp,g,d,tk,os⟩/\∃(vs ws:List Value) (ds' es':List D),rest=vs.zip ws/\
   DvL hp ds' vs/\DvL hp es' ws/\(∀x∈ds',x∈ds)/\(∀x∈es',x∈es)/\q0l ds' es'=true/\ds'.length+items2.toArray.size=es'.length+items.toArray.size/\R (.ok (.ret (.bool (ltbL ds' es')))) ⟨hp,g,d,tk,os⟩) _
  case turn =>
   rintro⟨y,x⟩ rest b s' ⟨hb',rfl,vs,ws,ds',es',hz,hv,hw,sd,se,hc,hlen,hR⟩;cases ds' with
   |nil=>cases (show vs=[] from hv);rw[List.zip_nil_left] at hz;cases hz
   |cons d1 ds1 =>
    obtain⟨u1,r1,e1,v1,v2⟩:=hv;subst e1;cases es' with
    |nil=>cases (show ws=[] from hw);rw[List.zip_nil_right] at hz;cases hz
    |cons d2 es1 =>
     obtain⟨u2,r2,e2,w1,w2⟩:=hw;subst e2;rw[JA] at hz;injection hz with hyx hrest
     injection hyx with hy' hx'
     subst hy' hx';rw[ltbL] at hR;rw[q0l] at hc;simp only[Qu] at hlen;have hh:=hel d1 (sd d1 Qb) d2 (se d2 Qb) _ _ v1 w1;refine wpAny_bind (hh.1 prog w _ _ ?_);cases e:eqb d1 d2 with
     |true =>
      rw[e,if_pos rfl] at hR hc
      wp_walk
      exact⟨rfl,rfl,_,_,_,_,hrest,v2,w2,λ x hx=>sd x (Qa _ hx),λ x hx=>se x (Qa _ hx),hc,by lia,hR⟩
     |false =>
      rw[e,if_neg (by simp)] at hR hc;have hri:=hh.2 hc prog w
      wp_walk using hri
      exact⟨_,rfl,by simpa using hR⟩
  case fin =>
   rintro⟨b1,b2⟩ s' ⟨hb',rfl,vs,ws,ds',es',hz,hv,hw,sd,se,hc,hlen,hR⟩;simp only at hb';subst hb';have hq:ltbL ds' es'=decide (items.toArray.size<items2.toArray.size):=by
    cases ds' with
    |nil=>cases es' with
     |nil =>
      simp only[Q4] at hlen;rw[show ltbL [] []=false by simp[ltbL]];exact (decide_eq_false (by lia)).symm
     |cons _ _ =>
      simp only[Q4,Qu] at hlen;rw[ltbL];exact (decide_eq_true (by lia)).symm
    |cons _ _=>cases es' with
     |nil =>
      simp only[Q4,Qu] at hlen;rw[ltbL];exact (decide_eq_false (by lia)).symm
     |cons _ _ =>
      obtain⟨_,_,e1,_⟩:=hv;obtain⟨_,_,e2,_⟩:=hw;subst e1 e2;rw[JA] at hz;cases hz
   rw[hq] at hR
   wp_walk
   exact⟨_,rfl,by simpa[Builtin.Tuple.tupleCompareSizes] using hR⟩
  case h =>
   exact⟨rfl,rfl,items,items2,ds,es,by simp,hx,hy,λ _ h=>h,λ _ h=>h,c,by lia,h⟩
theorem qBT (l b:Addr) (items items2:List Value) (n n2:Nat) (dd dd2:Option Addr) (sl sl2:Array (Option Value)) (ds es:List D) (c:q0l ds es=true) :
  Meets (Builtin.«tuple.__ge__» ⟨[.ref l,.ref b],[]⟩)
   (λ A R s=>s.heap.get? l=some {cls:= .type "tuple",dict:=dd,data:= .seq items.toArray n,slots:=sl}/\s.heap.get? b=some {cls:= .type "tuple",dict:=dd2,data:= .seq items2.toArray n2,slots:=sl2}/\
    DvL s.heap ds items/\DvL s.heap es items2/\(∀d∈ds,∀e∈es,∀u v,Dv s.heap d u->Dv s.heap e v->EqAt A.in1 s u v (eqb d e)/\(q0V d e=true->GeAt A.in1 s u v (!ltb d e)))/\
    R (.ok (.ret (.bool (!ltbL ds es)))) s) :=
 .of_wp λ prog w A R s h=>by
  obtain⟨hp,g,d,tk,os⟩:=s;obtain⟨hl,hb,hx,hy,hel,h⟩:=h;have f2:=AutoSeq1.sub_tuple_tuple;have z1:items.toArray.size=ds.length:=by rw[hx.length];simp
  have z2:items2.toArray.size=es.length:=by rw[hy.length];simp
  wp_walk using wpAny_loadPart' hl,wpAny_loadPart' hb,wpAny_forIn_list _ (λ rest b s'=>b.1=none/\s'=⟨hp,g,d,tk,os⟩/\∃(vs ws:List Value) (ds' es':List D),rest=vs.zip ws/\
   DvL hp ds' vs/\DvL hp es' ws/\(∀x∈ds',x∈ds)/\(∀x∈es',x∈es)/\q0l ds' es'=true/\ds'.length+items2.toArray.size=es'.length+items.toArray.size/\R (.ok (.ret (.bool (!ltbL ds' es')))) ⟨hp,g,d,tk,os⟩) _
  case turn =>
   rintro⟨y,x⟩ rest b s' ⟨hb',rfl,vs,ws,ds',es',hz,hv,hw,sd,se,hc,hlen,hR⟩;cases ds' with
   |nil=>cases (show vs=[] from hv);rw[List.zip_nil_left] at hz;cases hz
   |cons d1 ds1 =>
    obtain⟨u1,r1,e1,v1,v2⟩:=hv;subst e1;cases es' with
    |nil=>cases (show ws=[] from hw);rw[List.zip_nil_right] at hz;cases hz
    |cons d2 es1 =>
     obtain⟨u2,r2,e2,w1,w2⟩:=hw;subst e2;rw[JA] at hz;injection hz with hyx hrest
     injection hyx with hy' hx'
     subst hy' hx';rw[ltbL] at hR;rw[q0l] at hc;simp only[Qu] at hlen;have hh:=hel d1 (sd d1 Qb) d2 (se d2 Qb) _ _ v1 w1;refine wpAny_bind (hh.1 prog w _ _ ?_);cases e:eqb d1 d2 with
     |true =>
      rw[e,if_pos rfl] at hR hc
      wp_walk
      exact⟨rfl,rfl,_,_,_,_,hrest,v2,w2,λ x hx=>sd x (Qa _ hx),λ x hx=>se x (Qa _ hx),hc,by lia,hR⟩
     |false =>
      rw[e,if_neg (by simp)] at hR hc;have hri:=hh.2 hc prog w
      wp_walk using hri
      exact⟨_,rfl,by simpa using hR⟩
  case fin =>
   rintro⟨b1,b2⟩ s' ⟨hb',rfl,vs,ws,ds',es',hz,hv,hw,sd,se,hc,hlen,hR⟩;simp only at hb';subst hb';have hq:(!ltbL ds' es')=decide (items.toArray.size≥items2.toArray.size):=by
    cases ds' with
    |nil=>cases es' with
     |nil =>
      simp only[Q4] at hlen;rw[show ltbL [] []=false by simp[ltbL]];exact (decide_eq_true (by lia)).symm
     |cons _ _ =>
      simp only[Q4,Qu] at hlen;rw[ltbL];exact (decide_eq_false (by lia)).symm
    |cons _ _=>cases es' with
     |nil =>
      simp only[Q4,Qu] at hlen;rw[ltbL];exact (decide_eq_true (by lia)).symm
     |cons _ _ =>
      obtain⟨_,_,e1,_⟩:=hv;obtain⟨_,_,e2,_⟩:=hw;subst e1 e2;rw[JA] at hz;cases hz
   rw[hq] at hR
   wp_walk
   exact⟨_,rfl,by simpa[Builtin.Tuple.tupleCompareSizes] using hR⟩
  case h =>
   exact⟨rfl,rfl,items,items2,ds,es,by simp,hx,hy,λ _ h=>h,λ _ h=>h,c,by lia,h⟩
theorem q7M:∀(k:Nat) {A:Around}{s:Shared}{d e:D}{u v:Value},plN k d=true->plN k e=true->q02 d=true->q02 e=true->q0V d e=true->Dv s.heap d u->Dv s.heap e v->A.units+k<cLine->LtAt A s u v (ltb d e)/\GeAt A s u v (!ltb d e):=by
 intro k
 induction k with
 |zero =>
  intro A s d e u v p q h1 h2 c x y hu;cases d<;>cases e<;>first
   |(simp[q0V] at c;done)
   |(simp[plN] at p;done)
   |skip
  obtain⟨t,rfl⟩:=x;obtain⟨t',rfl⟩:=y;refine⟨λ prog w E Q h=>?_,λ prog w E Q h=>?_⟩
  ·exact (PyProof.Rows.lt_int (by simpa[ltb] using h):wpAny (model prog w) A (compareOp .Lt _ _) Q E s)
  ·refine (PyProof.Rows.ge_int ?_:wpAny (model prog w) A (compareOp .GtE _ _) Q E s);have e:∀a b:Int,(!decide (a<b))=decide (b<=a):=λ a b=>by rw[QE];simp
   simp only[ltb] at h;rw[e] at h;exact h
 |succ k ih =>
  intro A s d e u v p q h1 h2 c x y hu;cases d<;>cases e<;>first
   |(simp[q0V] at c;done)
   |(simp[q02] at h1;done)
   |skip
  ·obtain⟨t,rfl⟩:=x;obtain⟨t',rfl⟩:=y;refine⟨λ prog w E Q h=>?_,λ prog w E Q h=>?_⟩
   ·exact (PyProof.Rows.lt_int (by simpa[ltb] using h):wpAny (model prog w) A (compareOp .Lt _ _) Q E s)
   ·refine (PyProof.Rows.ge_int ?_:wpAny (model prog w) A (compareOp .GtE _ _) Q E s);have e:∀a b:Int,(!decide (a<b))=decide (b<=a):=λ a b=>by rw[QE];simp
    simp only[ltb] at h;rw[e] at h;exact h
  ·rename_i ds es;obtain⟨a,us,rfl,x1,x2⟩:=x;obtain⟨b,vs,rfl,y1,y2⟩:=y;rw[q1U] at p q;have c':q0l ds es=true:=(by simpa[q0V] using c);have h1':q08 ds=true:=(by simpa[q02] using h1);have h2':q08 es=true:=(by simpa[q02] using h2);obtain⟨⟨cls,dd,data,sl⟩,ho,hc,n,hd⟩:=id x1;obtain⟨⟨cls2,dd2,data2,sl2⟩,ho2,hc2,n2,hd2⟩:=id y1;simp only at hc hd hc2 hd2;subst hc hd hc2 hd2;have el:∀d∈ds,∀e∈es,∀u v,Dv s.heap d u->Dv s.heap e v->EqAt A.in1 s u v (eqb d e)/\(q0V d e=true->LtAt A.in1 s u v (ltb d e)/\GeAt A.in1 s u v (!ltb d e)):=by intro d hd e he u v x y;have p1:=Qj.mp p d hd;have q1:=Qj.mp q e he;have hu':A.in1.units+k<cLine:=(by rw[Around.in1_units];lia);exact⟨q2S k p1 q1 x y hu',λ c=>ih p1 q1 (q0D.mp h1' d hd) (q0D.mp h2' e he) c x y hu'⟩
   have e1:ltb (.tup ds) (.tup es)=ltbL ds es:=(by simp[ltb]);rw[e1];refine⟨λ prog w E Q h=>?_,λ prog w E Q h=>?_⟩
   ·exact richCompare_meets_room (op:= .Lt) ⟨_,ho,rfl⟩ ⟨_,ho2,rfl⟩ PySem.F.slot_tuple_lt PySem.F.entry_tuple_lt (PySem.F.args_tuple_lt_2 _ _) (q7L a b us vs n n2 dd dd2 sl sl2 ds es c')
     ⟨ho,ho2,x2,y2,λ d hd e he u v x y=>⟨(el d hd e he u v x y).1,λ c=>((el d hd e he u v x y).2 c).1⟩,show Value.bool (ltbL ds es)≠Value.notImplemented/\Q (.bool (ltbL ds es)) s from⟨(λ x=>nomatch x),h⟩⟩ (by lia)
   ·exact richCompare_meets_room (op:= .GtE) ⟨_,ho,rfl⟩ ⟨_,ho2,rfl⟩ PySem.F.slot_tuple_ge PySem.F.entry_tuple_ge (PySem.F.args_tuple_ge_2 _ _) (qBT a b us vs n n2 dd dd2 sl sl2 ds es c')
     ⟨ho,ho2,x2,y2,λ d hd e he u v x y=>⟨(el d hd e he u v x y).1,λ c=>((el d hd e he u v x y).2 c).2⟩,show Value.bool (!ltbL ds es)≠Value.notImplemented/\Q (.bool (!ltbL ds es)) s from⟨(λ x=>nomatch x),h⟩⟩ (by lia)
end Ev
namespace Ev
open PySem
mutual
def hv:D->Int
 | .int i=>hashInt i
 | .tup ds=>reduceHash (Builtin.Tuple.tupleHashOf (hvL ds))
 |_=>0
def hvL:List D->List Int
 |[]=>[]
 |d::ds=>hv d::hvL ds
end
theorem q3y:∀a b:List D,hvL (a++b)=hvL a++hvL b
 |[],_=>by simp[hvL]
 |d::a,b=>by simp[hvL,q3y a b]
section
variable {prog:Program}{w:World}
theorem qDZ:∀(k:Nat) {A:Around}{E:Value->Shared->Prop}{s:Shared}{d:D}{u:Value}{Q:Int->Shared->Prop},plN k d=true->q02 d=true->Dv s.heap d u->A.units+k<cLine->
  (∀t,Q (hv d) {s with toks:=t})->wpAny (model prog w) A (pyHash u) Q E s:=by
 intro k
 induction k with
 |zero =>
  intro A E s d u Q p hh x hu h;cases d<;>first
   |(simp[q02] at hh;done)
   |(simp[plN] at p;done)
   |skip
  obtain⟨t,rfl⟩:=x;exact wpAny_pyHash_int (by have:=h (s.toks+1);simpa[hv] using this)
 |succ k ih =>
  intro A E s d u Q p hh x hu h;cases d<;>first
   |(simp[q02] at hh;done)
   |skip
  ·obtain⟨t,rfl⟩:=x;exact wpAny_pyHash_int (by have:=h (s.toks+1);simpa[hv] using this)
  ·rename_i ds;obtain⟨a,us,rfl,x1,x2⟩:=x;rw[q1U] at p;have hh':q08 ds=true:=(by simpa[q02] using hh);have hT:s.TypeIs (.ref a) "tuple":=let ⟨o,ho,hc,_⟩:=x1;⟨o,ho,hc⟩;obtain⟨o,ho,hc,n,hd⟩:=x1;unfold pyHash pyHashByItsType;refine wpAny_bind (wpAny_cRoomFor_or (.inr (by lia)) ?_);refine wpAny_bind (wpAny_specialOf hT F.slot_tuple_hash.lookup (wpAny_ite_split (λ z=>absurd z (by rw[beq_builtin_none];decide)) λ _=>wpAny_bind (wpAny_specialOf hT F.slot_tuple_hash.lookup (wpAny_bind (wpAny_callSpecialIfBoundUnlessNone?_slot hT F.slot_tuple_hash
    (wpAny_call_entry F.slot_tuple_hash hT F.entry_tuple_hash (show wpAny _ _ (Builtin.Tuple.tupleItemsOf _ >>= _) _ _ s from wpAny_bind (wpAny_tupleItemsOf ho hd (wpAny_bind ?_))) (F.args_tuple_hash_1 _)))))))
   rw[<-Array.forIn_toList];refine wpAny_forIn_list _
    (λ rest (b:Array Int) s'=>∃done left t,ds=done++left/\DvL s.heap left rest/\b.toList=hvL done/\s'={s with toks:=t})
    _ ?_ ?_ _ _ ⟨[],ds,s.toks,rfl,by simpa using x2,by simp[hvL],rfl⟩
   ·rintro y rest b s' ⟨done,left,t,e,hl,hb,rfl⟩;cases left with
    |nil=>cases (show y::rest=[] from hl)
    |cons d1 left =>
     obtain⟨u1,r1,e1,v1,v2⟩:=hl;injection e1 with e2 e3
     subst e2 e3;have hm:d1∈ds:=(by rw[e];simp);refine wpAny_bind (ih (Qj.mp p _ hm) (q0D.mp hh' _ hm) (s:={s with toks:=t}) v1 (by rw[Around.in1_units];lia) λ t'=>?_)
     first
      |exact wpAny_pure ⟨done++[d1],left,t',by simp[e],v2,by simp[hb,q3y,hvL],rfl⟩
      |exact wpAny_bind (wpAny_pure (wpAny_pure ⟨done++[d1],left,t',by simp[e],v2,by simp[hb,q3y,hvL],rfl⟩))
   ·rintro b s' ⟨done,left,t,e,hl,hb,rfl⟩;cases left with
    |cons _ _=>obtain⟨_,_,q,_⟩:=hl;cases q
    |nil =>
     rw[Q2] at e;subst e;show wpAny _ _ (retInt (Builtin.Tuple.tupleHashOf b.toList)) _ _ _;rw[hb];refine wpAny_ret_mkInt ?_;show wpAny _ _ (if (decide (-(2:Int)^63<=Builtin.Tuple.tupleHashOf (hvL ds))&&decide (Builtin.Tuple.tupleHashOf (hvL ds)<2^63))=true then _ else _) Q E _;have hq:∀t,Q (reduceHash (Builtin.Tuple.tupleHashOf (hvL ds))) {s with toks:=t}:=λ t=>by have:=h t;simpa[hv] using this
     unfold reduceHash at hq
     by_cases hr:(decide (-(2:Int)^63<=Builtin.Tuple.tupleHashOf (hvL ds))&&decide (Builtin.Tuple.tupleHashOf (hvL ds)<2^63))=true
     ·rw[if_pos hr] at hq |-;exact wpAny_pure (hq _)
     ·rw[if_neg hr] at hq |-;exact wpAny_bind (wpAny_rule (wpAny_pure (hq _)))
theorem q51 {M:Model}{A:Around}{E:Value->Shared->Prop}{s:Shared}{β:Type}{us:List Value}{b0:β}{body:Value->β->Sem (ForInStep β)}{Q:β->Shared->Prop}{ds:List D}(x:DvL s.heap ds us)
  (hb:∀v d,d∈ds->Dv s.heap d v->∀Q':ForInStep β->Shared->Prop,Q' (.yield b0) s->wpAny M A (body v b0) Q' E s) (h:Q b0 s):wpAny M A (forIn us.toArray b0 body) Q E s:=by
 rw[<-Array.forIn_toList];refine wpAny_forIn_list _ (λ rest r t=>(r=b0/\t=s)/\∀v∈rest,v∈us) _ (λ v rest r t i=>?_) (λ r t i=>?_) _ _ ⟨⟨rfl,rfl⟩,λ v hv=>by simpa using hv⟩
 ·obtain⟨⟨rfl,rfl⟩,m⟩:=i;obtain⟨d,hd,z⟩:=x.mem (m v Qb);exact hb v d hd z _ ⟨⟨rfl,rfl⟩,λ y hy=>m y (Qa _ hy)⟩
 ·obtain⟨⟨rfl,rfl⟩,_⟩:=i;exact h
theorem qBU:∀(k n:Nat) {A:Around}{E:Value->Shared->Prop}{s:Shared}{d:D}{u:Value}{Q:Bool->Shared->Prop},k<=n->plN k d=true->q02 d=true->Dv s.heap d u->Q true s->wpAny (model prog w) A (eqIsQuiet n u) Q E s:=by
 intro k
 induction k with
 |zero =>
  intro n A E s d u Q hk p hh x h;cases d<;>first
   |(simp[q02] at hh;done)
   |(simp[plN] at p;done)
   |skip
  obtain⟨t,rfl⟩:=x;rw[eqIsQuiet_byValue _ (by rfl)];exact wpAny_pure h
 |succ k ih =>
  intro n A E s d u Q hk p hh x h;cases d<;>first
   |(simp[q02] at hh;done)
   |skip
  ·obtain⟨t,rfl⟩:=x;rw[eqIsQuiet_byValue _ (by rfl)];exact wpAny_pure h
  ·rename_i ds;obtain⟨a,us,rfl,x1,x2⟩:=x;rw[q1U] at p;have hh':q08 ds=true:=(by simpa[q02] using hh);have hT:s.TypeIs (.ref a) "tuple":=let ⟨o,ho,hc,_⟩:=x1;⟨o,ho,hc⟩;obtain⟨o,ho,hc,m,hd⟩:=x1;cases n with
   |zero=>lia
   |succ n =>
    unfold eqIsQuiet;refine wpAny_bind (wpAny_specialOf hT F.slot_tuple_eq.lookup (wpAny_bind (wpAny_isInstance hT isSubtype_tuple_tuple (wpAny_bind (wpAny_seqItems ho hd ?_)))));refine wpAny_bind (q51 x2 (λ v d1 hd1 z Q' q=>wpAny_bind (ih n (by lia) (Qj.mp p _ hd1) (q0D.mp hh' _ hd1) z (wpAny_pure q))) ?_);exact wpAny_pure h
theorem q7N:∀(k n:Nat) {A:Around}{E:Value->Shared->Prop}{s:Shared}{d:D}{u:Value}{Q:Bool->Shared->Prop},k<=n->plN k d=true->q02 d=true->Dv s.heap d u->Q false s->wpAny (model prog w) A (ofAClassStatement n u) Q E s:=by
 intro k
 induction k with
 |zero =>
  intro n A E s d u Q hk p hh x h;cases d<;>first
   |(simp[q02] at hh;done)
   |(simp[plN] at p;done)
   |skip
  obtain⟨t,rfl⟩:=x;unfold ofAClassStatement;exact wpAny_pure h
 |succ k ih =>
  intro n A E s d u Q hk p hh x h;cases d<;>first
   |(simp[q02] at hh;done)
   |skip
  ·obtain⟨t,rfl⟩:=x;unfold ofAClassStatement;exact wpAny_pure h
  ·rename_i ds;obtain⟨a,us,rfl,x1,x2⟩:=x;rw[q1U] at p;have hh':q08 ds=true:=(by simpa[q02] using hh);have hT:s.TypeIs (.ref a) "tuple":=let ⟨o,ho,hc,_⟩:=x1;⟨o,ho,hc⟩;obtain⟨o,ho,hc,m,hd⟩:=x1;cases n with
   |zero=>lia
   |succ n =>
    unfold ofAClassStatement;refine wpAny_bind (wpAny_typeOf hT (wpAny_bind (wpAny_pure (wpAny_bind (wpAny_seqItems ho hd ?_)))));refine wpAny_bind (q51 x2 (λ v d1 hd1 z Q' q=>wpAny_bind (ih n (by lia) (Qj.mp p _ hd1) (q0D.mp hh' _ hd1) z (wpAny_pure q))) ?_);exact wpAny_pure h
theorem qG2:∀(k n:Nat) {A:Around}{E:Value->Shared->Prop}{s:Shared}{d:D}{u:Value}{Q:Bool->Shared->Prop},k<=n->plN k d=true->q02 d=true->Dv s.heap d u->Q true s->wpAny (model prog w) A (hashByValue n u) Q E s:=by
 intro k
 induction k with
 |zero =>
  intro n A E s d u Q hk p hh x h;cases d<;>first
   |(simp[q02] at hh;done)
   |(simp[plN] at p;done)
   |skip
  obtain⟨t,rfl⟩:=x;cases n<;>exact wpAny_pure h
 |succ k ih =>
  intro n A E s d u Q hk p hh x h;cases d<;>first
   |(simp[q02] at hh;done)
   |skip
  ·obtain⟨t,rfl⟩:=x;cases n<;>exact wpAny_pure h
  ·rename_i ds;obtain⟨a,us,rfl,x1,x2⟩:=x;rw[q1U] at p;have hh':q08 ds=true:=(by simpa[q02] using hh);have hT:s.TypeIs (.ref a) "tuple":=let ⟨o,ho,hc,_⟩:=x1;⟨o,ho,hc⟩;obtain⟨o,ho,hc,m,hd⟩:=x1;cases n with
   |zero=>lia
   |succ n =>
    unfold hashByValue;refine wpAny_bind (wpAny_specialOf hT F.slot_tuple_hash.lookup (wpAny_bind (wpAny_seqItems ho hd ?_)));refine wpAny_bind (q51 x2 (λ v d1 hd1 z Q' q=>wpAny_bind (ih n (by lia) (Qj.mp p _ hd1) (q0D.mp hh' _ hd1) z (wpAny_pure q))) ?_);exact wpAny_pure h
end
end Ev
namespace Snd
open PySem PySem.Spec PyProof.Rows L2 Ev
variable {H H':Hp}{a:Addr}{vs:List V}{d:D}{v:V}{O:List Addr}
def q3N (a C:Addr):Heap->Prop:=λ h=>∃o,h.get? a=some o/\o.cls = .ref C
def keyD:Key->D
 | .inl i=> .int i
 | .inr x=> .str x
structure Pm where
 K:PySem.W.Frag
 cls:List Addr
mutual
noncomputable def Rep (p:Pm) (H:Hp):D->V->Prop
 | .non,v=>v = .non
 | .bl b,v=>v = .bl b
 | .int i,v=>v = .int i
 | .str x,v=>v = .str x/\x.length<=big
 | .tup ds,v=>∃a vs,v = .ref a/\SqT p.K H a vs/\vs.length<=sizeLine/\RepL p H ds vs
 | .lst ds,v=>∃a vs,v = .ref a/\SqL p.K H a vs/\RepL p H ds vs
 | .dct ks ds,v=>∃a kvs o,v = .ref a/\H a=some (.frz o (.dK kvs))/\ks=kvs.map (λ q=>keyD q.1)/\RepL p H ds (kvs.map (·.2))
 | .exc c,v=>∃a C,v = .ref a/\p.cls[c]? = some C/\H a=some (.ext (q3N a C))
noncomputable def RepL (p:Pm) (H:Hp):List D->List V->Prop
 |[],vs=>vs=[]
 |d::ds,vs=>∃v r,vs=v::r/\Rep p H d v/\RepL p H ds r
end
def Ext (H H':Hp):Prop:=∀a o,H a=some o->H' a=some o
theorem Ext.refl (H:Hp):Ext H H:=λ _ _ e=>e
theorem Ext.trans {H1 H2:Hp}(a:Ext H H1) (b:Ext H1 H2):Ext H H2:=λ x o e=>b x o (a x o e)
theorem Ext.upd {H:Hp}{a:Addr}{o:HO}(n:H a=none):Ext H (upd H a o):=λ b u e=>by rw[q05 (q0A e n)];exact e
theorem Ext.rd (x:Ext H H') {u:HO}(r:Rd H a u):Rd H' a u:=r.elim (λ e=> .inl (x _ _ e)) λ⟨o,e⟩=> .inr ⟨o,x _ _ e⟩
theorem Ext.sqL (x:Ext H H') {K:PySem.W.Frag}(r:SqL K H a vs):SqL K H' a vs:=r.elim (λ e=> .inl (x.rd e)) .inr
theorem Ext.sqT (x:Ext H H') {K:PySem.W.Frag}(r:SqT K H a vs):SqT K H' a vs:=r.elim (λ e=> .inl (x.rd e)) .inr
theorem q4V {p:Pm}(x:Ext H H'):(∀d v,Rep p H d v->Rep p H' d v)/\(∀ds vs,RepL p H ds vs->RepL p H' ds vs):=by
 refine D.ind (P:=λ d=>∀v,Rep p H d v->Rep p H' d v) (Q:=λ ds=>∀vs,RepL p H ds vs->RepL p H' ds vs)
  (λ v h=>h) (λ _ v h=>h) (λ _ v h=>h) (λ _ v h=>h) (λ l ih v h=>?_) (λ l ih v h=>?_) (λ k l ihk ih v h=>?_) (λ c v h=>?_) (λ vs h=>h) (λ d ds ih1 ih2 vs h=>?_)
 ·obtain⟨a,vs,e,s,z,r⟩:=h;exact⟨a,vs,e,x.sqT s,z,ih _ r⟩
 ·obtain⟨a,vs,e,s,r⟩:=h;exact⟨a,vs,e,x.sqL s,ih _ r⟩
 ·obtain⟨a,kvs,o,e,s,q,r⟩:=h;exact⟨a,kvs,o,e,x _ _ s,q,ih _ r⟩
 ·obtain⟨a,C,e,s,q⟩:=h;exact⟨a,C,e,s,x _ _ q⟩
 ·obtain⟨v,r,e,h1,h2⟩:=h;exact⟨v,r,e,ih1 _ h1,ih2 _ h2⟩
theorem Rep.mono {p:Pm}(h:Rep p H d v) (x:Ext H H'):Rep p H' d v:=(q4V x).1 d v h
theorem RepL.mono {p:Pm}{ds:List D}(h:RepL p H ds vs) (x:Ext H H'):RepL p H' ds vs:=(q4V x).2 ds vs h
theorem RepL.length {p:Pm}:∀{ds:List D}{vs:List V},RepL p H ds vs->ds.length=vs.length
 |[],vs,h=>by cases (show vs=[] from h);rfl
 |d::ds,vs,h=>by obtain⟨v,r,e,_,h2⟩:=h;subst e;simp[RepL.length h2]
theorem RepL.get {p:Pm}:∀{ds:List D}{vs:List V}{i:Nat}{d:D},RepL p H ds vs->ds[i]? = some d->∃v,vs[i]? = some v/\Rep p H d v
 |[],vs,i,d,h,e=>by simp at e
 |a::ds,vs,0,d,h,e=>by obtain⟨v,r,q,h1,_⟩:=h;subst q;simp at e;subst e;exact⟨v,rfl,h1⟩
 |a::ds,vs,i+1,d,h,e=>by obtain⟨v,r,q,_,h2⟩:=h;subst q;obtain⟨w,e1,e2⟩:=RepL.get (i:=i) h2 (by simpa using e);exact⟨w,by simpa using e1,e2⟩
theorem RepL.append {p:Pm}:∀{ds es:List D}{vs us:List V},RepL p H ds vs->RepL p H es us->RepL p H (ds++es) (vs++us)
 |[],es,vs,us,h,h'=>by cases (show vs=[] from h);exact h'
 |d::ds,es,vs,us,h,h'=>by obtain⟨v,r,q,h1,h2⟩:=h;subst q;exact⟨v,r++us,rfl,h1,RepL.append h2 h'⟩
theorem RepL.take {p:Pm}:∀{ds:List D}{vs:List V}(n:Nat),RepL p H ds vs->RepL p H (ds.take n) (vs.take n)
 |_,_,0,_=>by simp[RepL]
 |[],vs,n+1,h=>by cases (show vs=[] from h);simp[RepL]
 |d::ds,vs,n+1,h=>by obtain⟨v,r,q,h1,h2⟩:=h;subst q;exact⟨v,r.take n,rfl,h1,RepL.take n h2⟩
theorem RepL.drop {p:Pm}:∀{ds:List D}{vs:List V}(n:Nat),RepL p H ds vs->RepL p H (ds.drop n) (vs.drop n)
 |_,_,0,h=>h
 |[],vs,n+1,h=>by cases (show vs=[] from h);simp[RepL]
 |d::ds,vs,n+1,h=>by obtain⟨v,r,q,h1,h2⟩:=h;subst q;exact RepL.drop n h2
theorem RepL.snoc {p:Pm}{ds:List D}(h:RepL p H ds vs) (h1:Rep p H d v):RepL p H (ds++[d]) (vs++[v]):=h.append ⟨v,[],rfl,h1,rfl⟩
def fz (O:List Addr) (H:Hp):Hp:=λ a=>if a∈O then none else H a
theorem q1D (x:Ext H H'):Ext (fz O H) (fz O H'):=λ a o e=>by
 unfold fz at e |-;split at e
 ·cases e
 ·rename_i h;rw[if_neg h];exact x _ _ e
theorem q0Y:Ext (fz O H) H:=λ a o e=>by
 unfold fz at e;split at e
 ·cases e
 ·exact e
theorem qIf:fz [] H=H:=by funext a;simp[fz]
theorem q25 {o:HO}(h:H a=some o) (n:a∉O):fz O H a=some o:=by unfold fz;rw[if_neg n];exact h
theorem q3z {o:HO}(h:a∈O):fz O (upd H a o)=fz O H:=by
 funext b;unfold fz;split
 ·rfl
 ·rename_i n;exact q05 λ e=>n (e▸h)
noncomputable def RepB (p:Pm) (H Hf:Hp):D->V->Prop
 | .lst ds,v=>∃a vs,v = .ref a/\SqL p.K H a vs/\RepL p Hf ds vs
 | .dct ks ds,v=>∃a kvs,v = .ref a/\Rd H a (.dK kvs)/\ks=kvs.map (λ q=>keyD q.1)/\RepL p Hf ds (kvs.map (·.2))
 |d,v=>Rep p Hf d v
theorem Rep.b {p:Pm}{Hf:Hp}(h:Rep p Hf d v) (x:Ext Hf H):RepB p H Hf d v:=by
 cases d with
 |lst ds=>obtain⟨a,vs,e,s,r⟩:=h;exact⟨a,vs,e,x.sqL s,r⟩
 |dct ks ds=>obtain⟨a,kvs,o,e,s,q,r⟩:=h;exact⟨a,kvs,e,.inr ⟨o,x _ _ s⟩,q,r⟩
 |_=>exact h
theorem RepB.mono {p:Pm}{Hf Hf':Hp}(h:RepB p H Hf d v) (x:Ext H H') (y:Ext Hf Hf'):RepB p H' Hf' d v:=by
 cases d with
 |lst ds=>obtain⟨a,vs,e,s,r⟩:=h;exact⟨a,vs,e,x.sqL s,r.mono y⟩
 |dct ks ds=>obtain⟨a,kvs,e,s,q,r⟩:=h;exact⟨a,kvs,e,x.rd s,q,r.mono y⟩
 |non=>exact h
 |bl _=>exact h
 |int _=>exact h
 |str _=>exact h
 |tup _=>exact Rep.mono (d:= .tup _) h y
 |exc _=>exact Rep.mono (d:= .exc _) h y
def qG3 (p:Pm) (H Hf:Hp) (a:Addr):D->Prop
 | .lst ds=>∃vs,H a=some (.lst vs)/\RepL p Hf ds vs
 | .dct ks ds=>∃kvs,H a=some (.dK kvs)/\ks=kvs.map (λ q=>keyD q.1)/\RepL p Hf ds (kvs.map (·.2))
 |_=>False
def q2r (p:Pm) (H Hf:Hp):List Addr->List (List D)->Prop
 |[],xss=>xss=[]
 |b::bs,xss=>∃xs r,xss=xs::r/\(∃vs,H b=some (.lst vs)/\RepL p Hf xs vs)/\q2r p H Hf bs r
noncomputable def q3O (p:Pm) (H Hf:Hp):Option Sl->Option V->List Addr->Prop
 |none,_,as=>as=[]
 |some (.val d),σ,as=>as=[]/\∃v,σ=some v/\Rep p Hf d v
 |some (.own d),σ,as=>∃a,σ=some (.ref a)/\as=[a]/\qG3 p H Hf a d
 |some (.own2 xss),σ,as=>∃a bs,σ=some (.ref a)/\as=a::bs/\H a=some (.lst (bs.map V.ref))/\q2r p H Hf bs xss
def q1I (p:Pm) (H Hf:Hp):Ev.Env->L2.St->List (List Addr)->Prop
 |[],_,_=>True
 |x::ρ,σ,os=>∃y σ' as os',σ=y::σ'/\os=as::os'/\q3O p H Hf x y as/\q1I p H Hf ρ σ' os'
structure Rel (p:Pm) (ρ:Ev.Env) (σ:L2.St) (os:List (List Addr)) (H:Hp):Prop where
 nd:os.flatten.Nodup
 there:∀a∈os.flatten,∃o,H a=some o
 slots:q1I p H (fz os.flatten H) ρ σ os
end Snd
namespace Snd
open PySem PySem.Spec PyProof.Rows L2 Ev
variable {a b:Int}{r d:D}
def Fin (p:Pm) (O:List Addr) (H:Hp) (r:D):VK:=λ z H'=>Ext H H'/\Rep p (fz O H') r z
def Th (O:List Addr) (H:Hp):Prop:=∀a∈O,∃o,H a=some o
theorem Th.ext {O:List Addr}{H H':Hp}(h:Th O H) (x:Ext H H'):Th O H':=λ a ha=>let ⟨o,e⟩:=h a ha;⟨o,x _ _ e⟩
theorem Th.out {O:List Addr}{H:Hp}(h:Th O H) {a:Addr}(n:H a=none):a∉O:=λ z=>by obtain⟨o,e⟩:=h a z;rw[n] at e;cases e
theorem q0I {p:Pm}{O:List Addr}{H:Hp}{z:V}(h:Rep p (fz O H) r z):Fin p O H r z H:=⟨Ext.refl _,h⟩
theorem q40 {p:Pm}{O:List Addr}{H:Hp}{ds:List D}{vs:List V}(hO:Th O H) (h:RepL p (fz O H) ds vs) {a:Addr}(n:H a=none):Fin p O H (.lst ds) (.ref a) (upd H a (.lst vs)) :=
 ⟨Ext.upd n,a,vs,rfl,SqL.of (q25 q0B (hO.out n)),h.mono (q1D (Ext.upd n))⟩
theorem q8V {p:Pm}{O:List Addr}{H:Hp}{ds:List D}{vs:List V}(hO:Th O H) (h:RepL p (fz O H) ds vs) (z:vs.length<=sizeLine) {a:Addr}(n:H a=none):Fin p O H (.tup ds) (.ref a) (upd H a (.tup vs)) :=
 ⟨Ext.upd n,a,vs,rfl,SqT.of (q25 q0B (hO.out n)),z,h.mono (q1D (Ext.upd n))⟩
theorem q0d:big<=sizeLine:=by rw[sizeLine_eq];decide
def opr:Op2->Operator
 | .add=> .Add | .sub=> .Sub | .mul=> .Mult | .fdiv=> .FloorDiv | .mod=> .Mod | .shl=> .LShift | .shr=> .RShift | .band=> .BitAnd | .bor=> .BitOr | .bxor=> .BitXor
theorem q9F {op:Operator}{o:Op2}(h:opOf op=some o):op=opr o:=by cases op<;>simp[opOf] at h<;>subst h<;>rfl
section
variable {X:Cx}{p:Pm}{O:List Addr}{H:Hp}
def qL1 (K:PySem.W.Frag):R2:=λ x y H Q=>∃l b xs zs,x = .ref l/\y = .ref b/\SqL K H l xs/\SqL K H b zs/\xs.length+zs.length<=sizeLine/\∀q,H q=none->Q (.ref q) (upd H q (.lst (xs++zs)))
theorem qG4:OpR X (binaryOp .Add) (qL1 X.K):=by
 intro pins s σ H x y v u Q I rx ry h;obtain⟨l,b,xs,zs,rfl,rfl,hH,hB,hz,q⟩:=h;cases rx;cases ry;obtain⟨its,r,⟨o1,n,e,c1,d1,f1⟩,z1⟩:=I.list hH;obtain⟨its2,r2,⟨o2,n2,e2,c2,d2,f2⟩,z2⟩:=I.list hB;have hl:=r.length;have hl2:=r2.length;obtain⟨oc,od,odt,os⟩:=o1;obtain⟨oc2,od2,odt2,os2⟩:=o2;simp only at c1 d1 f1 c2 d2 f2;subst c1 f1 c2 f2;refine concat_meets ⟨_,e,rfl⟩ ⟨_,e2,rfl⟩ noFill_list_add seq_list_add PySem.F.slot_list_add PySem.F.entry_list_add (PySem.F.args_list_add_2 _ _) (list_addW l b its.toArray its2.toArray n n2 od od2 os os2 (by rw[Qo,Qo];lia)) ⟨e,e2,?_⟩;have ea:its.toArray++its2.toArray=(its++its2).toArray:=by simp
 rw[ea];exact⟨.ref _,_,I.lnew (t':=s.toks) (r.append r2) (by rw[QA];lia),rfl,q _ I.fresh⟩
theorem q9G (ha:0<=a) (hb:0<=b):Builtin.bitAnd a b=((a.toNat &&& b.toNat:Nat):Int):=by unfold Builtin.bitAnd;simp[ha,hb]
theorem qBV (ha:0<=a) (hb:0<=b):Builtin.bitOr a b=((a.toNat ||| b.toNat:Nat):Int):=by
 unfold Builtin.bitOr Builtin.bitAnd Builtin.bitNot;have h1:decide (0<=-a-1)=false:=decide_eq_false (by lia);have h2:decide (0<=-b-1)=false:=decide_eq_false (by lia);rw[h1,h2];have e1:(-(-a-1)-1).toNat=a.toNat:=by lia
 have e2:(-(-b-1)-1).toNat=b.toNat:=by lia
 dsimp only;rw[e1,e2];lia
theorem qAQ:∀a b:Nat,a ||| b=(a ^^^ b)+(a &&& b):=by
 intro a
 induction a using Nat.strongRecOn with
 |ind a ih =>
  intro b
  by_cases h:a=0
  ·subst h;simp
  ·have ih':=ih (a / 2) (by lia) (b / 2);have o1:=Nat.or_div_two (a:=a) (b:=b);have o2:=Nat.xor_div_two (a:=a) (b:=b);have o3:=Nat.and_div_two (a:=a) (b:=b);have m1:=Nat.or_mod_two_eq_one (a:=a) (b:=b);have m2:=Nat.xor_mod_two_eq_one (a:=a) (b:=b);have m3:=Nat.and_mod_two_eq_one (a:=a) (b:=b)
   by_cases p:a % 2=1<;>by_cases q:b % 2=1<;>lia
theorem qDa (ha:0<=a) (hb:0<=b):Builtin.bitXor a b=((a.toNat ^^^ b.toNat:Nat):Int):=by unfold Builtin.bitXor;rw[qBV ha hb,q9G ha hb,qAQ];lia
theorem q0j (a b:Str):(a++b).length=a.length+b.length:=by show (a.cps++b.cps).size=_;rw[Array.size_append];rfl
noncomputable def qIg (K:PySem.W.Frag):R2:=λ x y H Q=>∃a b xs ys,x = .ref a/\y = .ref b/\SqT K H a xs/\SqT K H b ys/\xs.length+ys.length<=sizeLine/\
 (ys=[]->Q (.ref a) H)/\(xs=[]->Q (.ref b) H)/\(xs≠[]->ys≠[]->∀p,H p=none->Q (.ref p) (upd H p (.tup (xs++ys))))
theorem qDb:OpR X (binaryOp .Add) (qIg X.K):=by
 intro pins s σ H x y v u Q I rx ry h;obtain⟨a,b,xs,ys,rfl,rfl,ha,hb,hz,q1,q2,q3⟩:=h
 by_cases hx:xs=[]
 ·cases rx;cases ry;obtain⟨its,r1,p1,_⟩:=I.tuple ha;obtain⟨its2,r2,p2,_⟩:=I.tuple hb;have e0:its=[]:=r1.q6C.mpr hx;subst e0;obtain⟨⟨cls,dd,data,sl⟩,ho,hc,n,hd⟩:=id p1;obtain⟨⟨cls2,dd2,data2,sl2⟩,ho2,hc2,n2,hd2⟩:=id p2;simp only at hc hd hc2 hd2;subst hc hd hc2 hd2;exact concat_meets ⟨_,ho,rfl⟩ ⟨_,ho2,rfl⟩ noFill_tuple_add seq_tuple_add PySem.F.slot_tuple_add PySem.F.entry_tuple_add (PySem.F.args_tuple_add_2 _ _)
   (tuple_addW0 a b _ its2.toArray n n2 dd dd2 sl sl2 (by simp)) ⟨ho,ho2,⟨.ref b,H,I,rfl,q2 hx⟩⟩
 ·exact qFh pins s σ H _ _ v u Q I rx ry ⟨a,b,xs,ys,rfl,rfl,ha,hb,hx,hz,q1,λ hy=>q3 hx hy⟩
def qL2 (K:PySem.W.Frag):R2:=λ x y H Q=>∃l k xs,x = .ref l/\y = .int k/\SqL K H l xs/\-(2^63)<=k/\k<2^63/\xs.length*k.toNat<=sizeLine/\
 ∀p,H p=none->Q (.ref p) (upd H p (.lst (Qh k.toNat xs).flatten))
theorem qG5:OpR X (binaryOp .Mult) (qL2 X.K):=by
 intro pins s σ H x y v u Q I rx ry h;obtain⟨l,k,xs,rfl,rfl,hH,h1,h2,hz,q⟩:=h;cases rx;obtain⟨t,rfl⟩:=ry;obtain⟨its,r,⟨o1,n,e,c1,d1,f1⟩,z1⟩:=I.list hH;have hl:=r.length;obtain⟨oc,od,odt,os⟩:=o1;simp only at c1 d1 f1;subst c1 f1;have hs:sizeLine=2^24:=sizeLine_eq;have hlen:its.toArray.size*k.toNat<=2^24:=by rw[Qo,<-hl,<-hs];exact hz
 refine wpAny_binaryOp_repeat_ref (T := "list") (U := "int") (by decide) ⟨_,e,rfl⟩ (λ s'=>typeIs_int s' k t) noFill_list_mul PySem.F.fills_int_mul PySem.F.slot_int_rmul repeat_list PySem.F.slot_int_index.lookup
  (call_meets PySem.F.slot_int_rmul (typeIs_int s k t) PySem.F.entry_int_rmul (PySem.F.args_int_rmul_2 _ _) (lm_int_rmul_list_any k t l its.toArray n od os)
   ⟨e,rfl,⟨_,e,rfl⟩,call_meets PySem.F.slot_list_mul ⟨_,e,rfl⟩ PySem.F.entry_list_mul (PySem.F.args_list_mul_2 _ _)
    (lm_list_mul_any l its.toArray n od os k t (by simp[Builtin.List.listFitsIndex];lia) (by lia) (by simp[Builtin.List.listTooLong,sizeLine];lia))
    ⟨e,?_⟩⟩)
 rw[listMul_foldl_if];show EP X pins σ Q (.ref s.heap.objs.size) {s with heap:=s.heap.push {cls:= .type "list",data:= .seq (Qh k.toNat its.toArray.toList).flatten.toArray}};exact⟨.ref _,_,I.lnew (t':=s.toks) (r.rep k.toNat) (by rw[len_rep,Nat.mul_comm];exact hz),rfl,q _ I.fresh⟩
theorem q9H {p:Pm}{H:Hp}{ds:List D}{vs:List V}(h:RepL p H ds vs):∀k:Nat,RepL p H (Qh k ds).flatten (Qh k vs).flatten
 |0=>by simp[RepL]
 |k+1=>by rw[Jk,Jk,Qx,Qx];exact h.append (q9H h k)
theorem qIh (h:(-(2^62)<a/\a<2^62)\/(-(2^62)<b/\b<2^62)):CMul a b:=by unfold CMul;lia
theorem q1a {f:Int->R D}(h:intD f d = .ok r):∃a,d = .int a/\f a = .ok r:=by cases d<;>first|(cases h;done)|exact⟨_,rfl,h⟩
theorem qDc {f:List D->R D}(h:lstD f d = .ok r):∃a,d = .lst a/\f a = .ok r:=by cases d<;>first|(cases h;done)|exact⟨_,rfl,h⟩
theorem qDd {f:List D->R D}(h:tupD f d = .ok r):∃a,d = .tup a/\f a = .ok r:=by cases d<;>first|(cases h;done)|exact⟨_,rfl,h⟩
theorem qDe {f:Str->R D}(h:strD f d = .ok r):∃a,d = .str a/\f a = .ok r:=by cases d<;>first|(cases h;done)|exact⟨_,rfl,h⟩
theorem q9I {q:R D}(h:nonD q d = .ok r):d = .non/\q = .ok r:=by cases d<;>first|(cases h;done)|exact⟨rfl,h⟩
noncomputable def rInt:Op2->R2
 | .add=>rI0 λ i j=> .int (i+j)
 | .sub=>rI0 λ i j=> .int (i-j)
 | .mul=>rI CMul λ i j=> .int (i*j)
 | .fdiv=>rI CDiv λ i j=> .int (i / j)
 | .mod=>rI (λ _ j=>0<j) λ i j=> .int (i % j)
 | .shl=>rI CPow λ i j=> .int (i*2^j.toNat)
 | .shr=>rI (λ _ j=>0<=j) λ i j=> .int (i / 2^j.toNat)
 | .band=>rI0 λ i j=> .int (Builtin.bitAnd i j)
 | .bor=>rI0 λ i j=> .int (Builtin.bitOr i j)
 | .bxor=>rI0 λ i j=> .int (Builtin.bitXor i j)
theorem qIi:∀o:Op2,OpR X (binaryOp (opr o)) (rInt o)
 | .add=>qHy | .sub=>qHz | .mul=>qI0 | .fdiv=>qFU | .mod=>qI1 | .shl=>qI2 | .shr=>qI3 | .band=>qI4 | .bor=>qKc | .bxor=>qI5
theorem qG6:∀o:Op2,OpR X (inplaceOp (opr o)) (rInt o)
 | .add=>qFV | .sub=>qFW | .mul=>qFX | .fdiv=>qDL | .mod=>qFY | .shl=>qFZ | .shr=>qFa | .band=>qFb | .bor=>qI6 | .bxor=>qFc
theorem q2m {c:Prop}{_:Decidable c}{x:D}(h:(if c then R.ok x else .stuck) = .ok r):c/\x=r:=by
 by_cases z:c
 ·rw[if_pos z] at h;cases h;exact⟨z,rfl⟩
 ·rw[if_neg z] at h;cases h
theorem q4W {i j:Int}(e:j=i) (h:D.int i=r):Fin p O H r (.int j) H:=by subst e h;exact q0I rfl
theorem q7O (o:Op2) {m n:Int}(h:opD o (.int m) (.int n) = .ok r):rInt o (.int m) (.int n) H (Fin p O H r):=by
 cases o with
 |add=>cases h;exact⟨_,_,rfl,rfl,q0I rfl⟩
 |mul =>
  obtain⟨c,e⟩:=q2m h;exact⟨_,_,rfl,rfl,qIh c,q4W rfl e⟩
 |sub=>cases h;exact⟨_,_,rfl,rfl,q0I rfl⟩
 |fdiv =>
  obtain⟨c,e⟩:=q2m h;exact⟨_,_,rfl,rfl,c,q4W rfl e⟩
 |mod =>
  obtain⟨c,e⟩:=q2m h;exact⟨_,_,rfl,rfl,c,q4W rfl e⟩
 |shl =>
  obtain⟨c,e⟩:=q2m h;refine⟨_,_,rfl,rfl,⟨c.2.2.1,by lia,by lia⟩,q4W ?_ e⟩;rw[Nat.shiftLeft_eq,Int.natCast_mul,Int.natCast_pow,Int.toNat_of_nonneg c.1];rfl
 |shr =>
  obtain⟨c,e⟩:=q2m h;refine⟨_,_,rfl,rfl,c.2,q4W ?_ e⟩;rw[Nat.shiftRight_eq_div_pow,Int.natCast_ediv,Int.natCast_pow,Int.toNat_of_nonneg c.1];rfl
 |band =>
  obtain⟨c,e⟩:=q2m h;exact⟨_,_,rfl,rfl,q4W (q9G c.1 c.2) e⟩
 |bor =>
  obtain⟨c,e⟩:=q2m h;exact⟨_,_,rfl,rfl,q4W (qBV c.1 c.2) e⟩
 |bxor =>
  obtain⟨c,e⟩:=q2m h;exact⟨_,_,rfl,rfl,q4W (qDa c.1 c.2) e⟩
theorem qG7 {o:Op2}{e:D}(h:opD o d e = .ok r) (h1:o ≠ .add) (h2:o ≠ .mul):∃m n,d = .int m/\e = .int n:=by
 unfold opD at h;split at h
 ·exact absurd rfl h1
 ·exact absurd rfl h2
 ·obtain⟨m,e1,h⟩:=q1a h;obtain⟨n,e2,_⟩:=q1a h;exact⟨m,n,e1,e2⟩
theorem qDf (hK:p.K=X.K) (hO:Th O H):∀(o:Op2) (d e r:D) (x y:V),opD o d e = .ok r->RepB p H (fz O H) d x->RepB p H (fz O H) e y->
  ∃r2:R2,OpR X (binaryOp (opr o)) r2/\r2 x y H (Fin p O H r):=by
 intro o d e r x y h hx hy;have tw2:(∃m n,d = .int m/\e = .int n)->∃r2:R2,OpR X (binaryOp (opr o)) r2/\r2 x y H (Fin p O H r):=λ⟨m,n,e1,e2⟩=>by subst e1 e2;cases (show x=_ from hx);cases (show y=_ from hy);exact⟨_,qIi o,q7O o h⟩
 by_cases h1:o = .add
 ·subst h1;cases d with
  |int m=>obtain⟨n,e1,_⟩:=q1a h;exact tw2 ⟨_,_,rfl,e1⟩
  |lst ds =>
   obtain⟨es,rfl,h⟩:=qDc h;obtain⟨c,rfl⟩:=q2m h;obtain⟨a,vs,rfl,s1,r1⟩:=hx;obtain⟨b,us,rfl,s2,r2⟩:=hy;exact⟨_,qG4,a,b,vs,us,rfl,rfl,hK▸s1,hK▸s2,Qr (by rw[<-r1.length,<-r2.length];exact c) q0d,λ q n=>q40 hO (r1.append r2) n⟩
  |tup ds =>
   obtain⟨es,rfl,h⟩:=qDd h;obtain⟨c,rfl⟩:=q2m h;obtain⟨a,vs,rfl,s1,z1,r1⟩:=hx;obtain⟨b,us,rfl,s2,z2,r2⟩:=hy;have c':vs.length+us.length<=sizeLine:=Qr (by rw[<-r1.length,<-r2.length];exact c) q0d;refine⟨_,qDb,a,b,vs,us,rfl,rfl,hK▸q0Y.sqT s1,hK▸q0Y.sqT s2,c',λ e=>?_,λ e=>?_,λ n1 n2 q n=>q8V hO (r1.append r2) (by rw[QA];exact c') n⟩
   ·subst e;cases (List.length_eq_zero_iff.mp r2.length:es=[]);rw[Q2];exact q0I ⟨a,vs,rfl,s1,z1,r1⟩
   ·subst e;cases (List.length_eq_zero_iff.mp r1.length:ds=[]);rw[List.nil_append];exact q0I ⟨b,us,rfl,s2,z2,r2⟩
  |str a =>
   obtain⟨b,rfl,h⟩:=qDe h;obtain⟨c,rfl⟩:=q2m h;obtain⟨rfl,z1⟩:=hx;obtain⟨rfl,z2⟩:=hy;exact⟨_,qAH,_,_,rfl,rfl,Qr c q0d,q0I ⟨rfl,by rw[q0j];exact c⟩⟩
  |_=>cases h
 by_cases h2:o = .mul
 ·subst h2;cases d with
  |int m=>obtain⟨n,e1,_⟩:=q1a h;exact tw2 ⟨_,_,rfl,e1⟩
  |lst ds =>
   obtain⟨k,rfl,h⟩:=q1a h;obtain⟨c,rfl⟩:=q2m h;obtain⟨a,vs,rfl,s1,r1⟩:=hx;cases (show y=_ from hy);exact⟨_,qG5,a,k,vs,rfl,rfl,hK▸s1,by lia,by lia,Qr (by rw[<-r1.length];exact c.2.2) q0d,λ q n=>q40 hO (q9H r1 _) n⟩
  |_=>cases h
 exact tw2 (qG7 h h1 h2)
end
end Snd
namespace Snd
open PySem PySem.Spec PyProof.Rows L2 Ev
variable {s:Shared}{u:Value}
section
variable {X:Cx}{p:Pm}{O:List Addr}
theorem q2T {pins:List (Addr×Obj)}{σ:L2.St}{H:Hp}(hK:p.K=X.K) (I:Inv X pins σ H s):(∀d v u,Rep p H d v->RelV v u->Dv s.heap d u)/\(∀ds vs us,RepL p H ds vs->Vals vs us->DvL s.heap ds us):=by
 refine D.ind (P:=λ d=>∀v u,Rep p H d v->RelV v u->Dv s.heap d u) (Q:=λ ds=>∀vs us,RepL p H ds vs->Vals vs us->DvL s.heap ds us)
  (λ v u h r=>?_) (λ b v u h r=>?_) (λ i v u h r=>?_) (λ x v u h r=>?_) (λ l ih v u h r=>?_) (λ l ih v u h r=>?_) (λ _ _ _ _ _ _ _ _=>trivial) (λ _ _ _ _ _=>trivial) (λ vs us h r=>?_) (λ d ds ih1 ih2 vs us h r=>?_)
 ·cases (show v=_ from h);exact r
 ·cases (show v=_ from h);exact r
 ·cases (show v=_ from h);exact r
 ·obtain⟨rfl,_⟩:=h;exact r
 ·obtain⟨a,vs,rfl,s1,z,r1⟩:=h;cases r;obtain⟨its,rv,pt,_⟩:=I.tuple (hK▸s1);exact⟨a,its,rfl,pt,ih _ _ r1 rv⟩
 ·obtain⟨a,vs,rfl,s1,r1⟩:=h;cases r;obtain⟨its,rv,pt,_⟩:=I.list (hK▸s1);exact⟨a,its,rfl,pt.isList,ih _ _ r1 rv⟩
 ·cases (show vs=[] from h);cases r;rfl
 ·obtain⟨v,r',rfl,h1,h2⟩:=h;cases r with
  |cons ra rb=>exact⟨_,_,rfl,ih1 _ _ h1 ra,ih2 _ _ h2 rb⟩
theorem q3P {pins:List (Addr×Obj)}{σ:L2.St}{H Hf:Hp}(hK:p.K=X.K) (I:Inv X pins σ H s) (x:Ext Hf H) {d:D}{v:V}(h:RepB p H Hf d v) (r:RelV v u):Dv s.heap d u:=by
 cases d with
 |lst ds =>
  obtain⟨a,vs,rfl,s1,r1⟩:=h;exact (q2T hK I).1 (.lst ds) _ _ ⟨a,vs,rfl,s1,r1.mono x⟩ r
 |dct _ _=>trivial
 |exc _=>trivial
 |non=>exact (q2T hK I).1 .non _ _ (Rep.mono (p:=p) (d:= .non) h x) r
 |bl b=>exact (q2T hK I).1 (.bl b) _ _ (Rep.mono (p:=p) (d:= .bl b) h x) r
 |int i=>exact (q2T hK I).1 (.int i) _ _ (Rep.mono (p:=p) (d:= .int i) h x) r
 |str y=>exact (q2T hK I).1 (.str y) _ _ (Rep.mono (p:=p) (d:= .str y) h x) r
 |tup l=>exact (q2T hK I).1 (.tup l) _ _ (Rep.mono (p:=p) (d:= .tup l) h x) r
def rCm (p:Pm) (ok:D->D->Bool) (g:D->D->Bool):R2:=λ x y H Q=>∃d e Hf,Ext Hf H/\RepB p H Hf d x/\RepB p H Hf e y/\ok d e=true/\Q (.bl (g d e)) H
theorem qL3 (hK:p.K=X.K) (hu:X.A.units+64<cLine):OpR X (compareOp .Eq) (rCm p (λ a b=>pl a&&pl b) eqb):=by intro pins s σ H x y v u Q I rx ry h;obtain⟨d,e,Hf,xt,h1,h2,c,q⟩:=h;simp only[Qc] at c;exact qIe 8 c.1 c.2 (q3P hK I xt h1 rx) (q3P hK I xt h2 ry) (by lia) X.prog X.w X.xe _ ⟨.bl _,H,I,rfl,q⟩
theorem qL4 (hK:p.K=X.K) (hu:X.A.units+64<cLine):OpR X (compareOp .NotEq) (rCm p (λ a b=>pl a&&pl b) (λ a b=>!eqb a b)):=by intro pins s σ H x y v u Q I rx ry h;obtain⟨d,e,Hf,xt,h1,h2,c,q⟩:=h;simp only[Qc] at c;exact qDY 8 c.1 c.2 (q3P hK I xt h1 rx) (q3P hK I xt h2 ry) (by lia) X.prog X.w X.xe _ ⟨.bl _,H,I,rfl,q⟩
def qDg (a b:D):Bool:=pl a&&pl b&&q02 a&&q02 b&&q0V a b
theorem qL5 (hK:p.K=X.K) (hu:X.A.units+64<cLine):OpR X (compareOp .Lt) (rCm p qDg ltb):=by intro pins s σ H x y v u Q I rx ry h;obtain⟨d,e,Hf,xt,h1,h2,c,q⟩:=h;simp only[qDg,Qc] at c;exact (q7M 8 c.1.1.1.1 c.1.1.1.2 c.1.1.2 c.1.2 c.2 (q3P hK I xt h1 rx) (q3P hK I xt h2 ry) (by lia)).1 X.prog X.w X.xe _ ⟨.bl _,H,I,rfl,q⟩
theorem qL6 (hK:p.K=X.K) (hu:X.A.units+64<cLine):OpR X (compareOp .GtE) (rCm p qDg (λ a b=>!ltb a b)):=by intro pins s σ H x y v u Q I rx ry h;obtain⟨d,e,Hf,xt,h1,h2,c,q⟩:=h;simp only[qDg,Qc] at c;exact (q7M 8 c.1.1.1.1 c.1.1.1.2 c.1.1.2 c.1.2 c.2 (q3P hK I xt h1 rx) (q3P hK I xt h2 ry) (by lia)).2 X.prog X.w X.xe _ ⟨.bl _,H,I,rfl,q⟩
noncomputable def eqTo (h:Heap) (ds:List D) (x:D) (u:Value):Bool:=@decide (∃d∈ds,Dv h d u/\eqb d x=true) (Jy _)
theorem q6M {h:Heap}{ds:List D}{x d:D}(pd:plL ds=true) (px:pl x=true) (hd:d∈ds) (y:Dv h d u):eqTo h ds x u=eqb d x:=by unfold eqTo;rw[QE,@decide_eq_true_eq _ (Jy _)];refine⟨λ⟨e,he,z,w⟩=>?_,λ w=>⟨d,hd,y,w⟩⟩;have p1:=q1V.mp pd d hd;have p2:=q1V.mp pd e he;rw[qBS (k:=8) p1 p2 px (q2x 8 p1 p2 y z)];exact w
theorem q6N {h:Heap}{ds:List D}{x:D}(pd:plL ds=true) (px:pl x=true):∀{es:List D}{us:List Value},(∀e∈es,e∈ds)->DvL h es us->us.any (eqTo h ds x)=es.any λ y=>eqb y x
 |[],us,_,y=>by cases (show us=[] from y);rfl
 |e::es,us,hs,y=>by obtain⟨u,r,rfl,y1,y2⟩:=y;rw[Q3,Q3,q6M pd px (hs e Qb) y1,q6N pd px (λ z hz=>hs z (Qa _ hz)) y2]
def rMem (p:Pm) (neg:Bool):R2:=λ x y H Q=>∃d e Hf ds,Ext Hf H/\RepB p H Hf d x/\RepB p H Hf e y/\(e = .lst ds\/e = .tup ds)/\pl d=true/\plL ds=true/\Q (.bl (neg ^^ ds.any λ y=>eqb y d)) H
theorem q26 {ds:List D}{x:D}{us:List Value}{A:Around}(pd:plL ds=true) (px:pl x=true) (y:DvL s.heap ds us) (z:Dv s.heap x u) (hu:A.units+8<cLine) :
  ∀w,w∈us.toArray->SeqAt.EqAt A s w u (eqTo s.heap ds x w):=λ w hw=>by
 obtain⟨d,hd,yd⟩:=y.mem (by simpa using hw);rw[q6M pd px hd yd];exact q2S 8 (q1V.mp pd d hd) px yd z hu
theorem qIj (hK:p.K=X.K) (hu:X.A.units+64<cLine):OpR X (compareOp .In) (rMem p false):=by
 intro pins s σ H x y v u Q I rx ry h;obtain⟨d,e,Hf,ds,xt,h1,h2,c,p1,p2,q⟩:=h;have z1:=q3P hK I xt h1 rx;have z2:=q3P hK I xt h2 ry;have hu':X.A.in1.units+8<cLine:=by rw[Around.in1_units];lia
 have q':∀us:List Value,DvL s.heap ds us->EP X pins σ Q (.bool (us.toArray.any (eqTo s.heap ds d))) s:=λ us y=>by rw[List.any_toArray,q6N p2 p1 (λ _ h=>h) y];exact⟨.bl _,H,I,rfl,by simpa using q⟩
 rcases c with rfl|rfl
 ·obtain⟨a,us,rfl,w1,w2⟩:=z2;exact SeqAt.in_listAt (eqTo s.heap ds d) w1 (q26 p2 p1 w2 z1 hu') (q' us w2)
 ·obtain⟨a,us,rfl,w1,w2⟩:=z2;exact SeqAt.in_tupleAt (eqTo s.heap ds d) w1 (q26 p2 p1 w2 z1 hu') (q' us w2)
theorem q9J (hK:p.K=X.K) (hu:X.A.units+64<cLine):OpR X (compareOp .NotIn) (rMem p true):=by
 intro pins s σ H x y v u Q I rx ry h;obtain⟨d,e,Hf,ds,xt,h1,h2,c,p1,p2,q⟩:=h;have z1:=q3P hK I xt h1 rx;have z2:=q3P hK I xt h2 ry;have hu':X.A.in1.units+8<cLine:=by rw[Around.in1_units];lia
 have q':∀us:List Value,DvL s.heap ds us->EP X pins σ Q (.bool (!us.toArray.any (eqTo s.heap ds d))) s:=λ us y=>by rw[List.any_toArray,q6N p2 p1 (λ _ h=>h) y];exact⟨.bl _,H,I,rfl,by simpa using q⟩
 rcases c with rfl|rfl
 ·obtain⟨a,us,rfl,w1,w2⟩:=z2;exact SeqAt.notIn_listAt (eqTo s.heap ds d) w1 (q26 p2 p1 w2 z1 hu') (q' us w2)
 ·obtain⟨a,us,rfl,w1,w2⟩:=z2;exact SeqAt.notIn_tupleAt (eqTo s.heap ds d) w1 (q26 p2 p1 w2 z1 hu') (q' us w2)
end
end Snd
namespace Snd
open PySem PySem.Spec PyProof.Rows L2 Ev
variable {d:D}
section
variable {X:Cx}{p:Pm}{O:List Addr}{H:Hp}
def cmr:Cm->CmpOp
 | .eq=> .Eq | .ne=> .NotEq | .lt=> .Lt | .le=> .LtE | .gt=> .Gt | .ge=> .GtE | .isN=> .Is | .notN=> .IsNot | .mem=> .In | .nmem=> .NotIn
theorem qEy (op:CmpOp):cmr (cmOf op)=op:=by cases op<;>rfl
theorem q9K (kvs:List (Key×V)) (i:Int):((kvs.map λ q=>keyD q.1).any λ y=>eqb y (.int i))=(valV kvs (.inl i)).isSome:=by
 induction kvs with
 |nil=>rfl
 |cons q r ih =>
  rw[Qv,Q3,ih];obtain⟨k,v⟩:=q;cases k with
  |inl j =>
   by_cases e:j=i
   ·subst e;rw[q3E rfl];simp[keyD,eqb]
   ·rw[q2f (λ z=>e (Sum.inl.inj z))];simp[keyD,eqb,e]
  |inr x=>rw[q2f (p:=(Sum.inr x,v)) (by intro z;cases z)];simp[keyD,eqb]
theorem qIk (hu:X.A.units+64<cLine):OpR X (compareOp .In) (λ x y H Q=>∃i a kvs,x = .int i/\y = .ref a/\Rd H a (.dK kvs)/\Q (.bl (valV kvs (.inl i)).isSome) H):=by intro pins s σ H x y v u Q I rx ry h;obtain⟨i,a,kvs,rfl,rfl,e,q⟩:=h;cases ry;exact d_in (by lia) I (.inl ⟨kvs,.inl i,e,rfl,rfl⟩) rx λ s' I'=>⟨.bl _,H,I',rfl,q⟩
theorem qBW (hu:X.A.units+64<cLine):OpR X (compareOp .NotIn) (λ x y H Q=>∃i a kvs,x = .int i/\y = .ref a/\Rd H a (.dK kvs)/\Q (.bl (!(valV kvs (.inl i)).isSome)) H):=by intro pins s σ H x y v u Q I rx ry h;obtain⟨i,a,kvs,rfl,rfl,e,q⟩:=h;cases ry;exact qFf (by lia) I (.inl ⟨kvs,.inl i,e,rfl,rfl⟩) rx λ s' I'=>⟨.bl _,H,I',rfl,q⟩
theorem q9L {Hf:Hp}{x:V}(h:RepB p H Hf d x):decide (x = .non)=(match d with | .non=>true|_=>false):=by
 cases d with
 |non=>cases (show x=_ from h);rfl
 |bl b=>cases (show x=_ from h);rfl
 |int i=>cases (show x=_ from h);rfl
 |str y=>obtain⟨rfl,_⟩:=h;rfl
 |tup l=>obtain⟨_,_,rfl,_⟩:=h;rfl
 |lst l=>obtain⟨_,_,rfl,_⟩:=h;rfl
 |dct k l=>obtain⟨_,_,rfl,_⟩:=h;rfl
 |exc c=>obtain⟨_,_,rfl,_⟩:=h;rfl
theorem q9M (hK:p.K=X.K) (hO:Th O H) (hu:X.A.units+64<cLine):∀(o:Cm) (d e r:D) (x y:V),cmD o d e = .ok r->RepB p H (fz O H) d x->RepB p H (fz O H) e y->
  ∃r2:R2,OpR X (compareOp (cmr o)) r2/\r2 x y H (Fin p O H r):=by
 intro o d e r x y h hx hy;have pf:∀b:Bool,Fin p O H (.bl b) (.bl b) H:=λ b=>q0I rfl;cases o with
 |eq =>
  obtain⟨c,rfl⟩:=q2m h;exact⟨_,qL3 hK hu,d,e,_,q0Y,hx,hy,c,pf _⟩
 |ne =>
  obtain⟨c,rfl⟩:=q2m h;exact⟨_,qL4 hK hu,d,e,_,q0Y,hx,hy,c,pf _⟩
 |lt =>
  obtain⟨c,rfl⟩:=q2m h;exact⟨_,qL5 hK hu,d,e,_,q0Y,hx,hy,c,pf _⟩
 |ge =>
  obtain⟨c,rfl⟩:=q2m h;exact⟨_,qL6 hK hu,d,e,_,q0Y,hx,hy,c,pf _⟩
 |le =>
  obtain⟨a,rfl,h⟩:=q1a h;obtain⟨b,rfl,h⟩:=q1a h;cases h;cases (show x=_ from hx);cases (show y=_ from hy);exact⟨_,qKd,_,_,rfl,rfl,pf _⟩
 |gt =>
  obtain⟨a,rfl,h⟩:=q1a h;obtain⟨b,rfl,h⟩:=q1a h;cases h;cases (show x=_ from hx);cases (show y=_ from hy);exact⟨_,qKe,_,_,rfl,rfl,pf _⟩
 |isN =>
  have hn:=q9L hx;obtain⟨rfl,h⟩:=q9I h;cases h;cases (show y=_ from hy);refine⟨_,qI7,rfl,?_⟩;rw[hn];cases d<;>exact pf _
 |notN =>
  have hn:=q9L hx;obtain⟨rfl,h⟩:=q9I h;cases h;cases (show y=_ from hy);refine⟨_,qFd,rfl,?_⟩;rw[hn];cases d<;>exact pf _
 |mem =>
  simp only[cmD,memD] at h;split at h
  ·split at h
   ·rename_i xs c;simp only[Qc] at c;cases h;exact⟨_,qIj hK hu,d,_,_,xs,q0Y,hx,hy,.inl rfl,c.1,c.2,by simpa using pf _⟩
   ·cases h
  ·split at h
   ·rename_i xs c;simp only[Qc] at c;cases h;exact⟨_,qIj hK hu,d,_,_,xs,q0Y,hx,hy,.inr rfl,c.1,c.2,by simpa using pf _⟩
   ·cases h
  ·split at h
   ·cases h;cases (show x=_ from hx);obtain⟨a,kvs,rfl,s1,rfl,_⟩:=hy;refine⟨_,qIk hu,_,a,kvs,rfl,rfl,s1,?_⟩;rw[<-q9K];exact pf _
   ·cases h
  ·cases h
 |nmem =>
  simp only[cmD,memD] at h;split at h
  ·split at h
   ·rename_i xs c;simp only[Qc] at c;cases h;exact⟨_,q9J hK hu,d,_,_,xs,q0Y,hx,hy,.inl rfl,c.1,c.2,by simpa using pf _⟩
   ·cases h
  ·split at h
   ·rename_i xs c;simp only[Qc] at c;cases h;exact⟨_,q9J hK hu,d,_,_,xs,q0Y,hx,hy,.inr rfl,c.1,c.2,by simpa using pf _⟩
   ·cases h
  ·split at h
   ·cases h;cases (show x=_ from hx);obtain⟨a,kvs,rfl,s1,rfl,_⟩:=hy;refine⟨_,qBW hu,_,a,kvs,rfl,rfl,s1,?_⟩;rw[<-q9K];exact pf _
   ·cases h
  ·cases h
theorem qEz {Hf:Hp}{ds:List D}{vs:List V}{i:Int}(h:RepL p Hf ds vs) (e:nth ds i = .ok d):∃v,atI vs i=some v/\Rep p Hf d v:=by
 have hl:=h.length;unfold nth at e;unfold atI ixN;split at e
 ·rename_i z hz;cases e;split at hz
  ·rename_i c;obtain⟨v,e1,e2⟩:=h.get hz;refine⟨v,?_,e2⟩;have:=(Qd.mp e1).1;rw[if_pos c,if_pos (by lia)];exact e1
  ·rename_i c;split at hz
   ·rename_i c2;obtain⟨v,e1,e2⟩:=h.get hz;refine⟨v,?_,e2⟩;rw[if_neg c,if_pos (by lia)];rw[hl] at e1;exact e1
   ·cases hz
 ·cases e
theorem q9N {Hf:Hp}{i:Int}{d:D}:∀{kvs:List (Key×V)}{ds:List D},RepL p Hf ds (kvs.map (·.2))->look i (kvs.map λ q=>keyD q.1) ds = .ok d->∃v,valV kvs (.inl i)=some v/\Rep p Hf d v
 |[],ds,h,e=>by cases ds<;>simp[look] at e
 |(k,w)::r,ds,h,e=>by
  cases ds with
  |nil=>cases k<;>simp[look,keyD] at e
  |cons d1 ds =>
   obtain⟨v,r',q,h1,h2⟩:=h;injection q with q1 q2
   subst q1 q2;cases k with
   |inl j =>
    simp only[Qv,keyD,look] at e;split at e
    ·rename_i c;subst c;cases e;exact⟨w,q3E rfl,h1⟩
    ·rename_i c;obtain⟨v,e1,e2⟩:=q9N h2 e;exact⟨v,by rw[q2f (λ z=>c (Sum.inl.inj z))];exact e1,e2⟩
   |inr x=>simp[look,keyD] at e
theorem qG8 (hu:X.A.units+64<cLine):IxR X (λ x y H Q=>∃a kvs i v,x = .ref a/\y = .int i/\Rd H a (.dK kvs)/\valV kvs (.inl i)=some v/\Q v H):=by intro value slice pins s σ H x y v u Q I rx ry h hs;obtain⟨a,kvs,i,z,rfl,rfl,e,hv,q⟩:=h;cases rx;have g:DGet H a (.int i) (some z):= .inl ⟨kvs,.inl i,e,rfl,hv.symm⟩;obtain⟨ht,_⟩:=qIA I (.inl ⟨kvs,e⟩);exact tail_any (ops:=[.ref a,u]) ht slot_dict_getitem.lookup (qB0 (by lia) I g ry λ w' s' I' rw'=>⟨z,H,I',rw',q⟩) hs
theorem qDh (hK:p.K=X.K) (hu:X.A.units+64<cLine):∀(d e r:D) (x y:V),idxD d e = .ok r->RepB p H (fz O H) d x->RepB p H (fz O H) e y->
  ∃r2:R2,IxR X r2/\r2 x y H (Fin p O H r):=by
 intro d e r x y h hx hy;unfold idxD at h;split at h
 ·cases (show y=_ from hy);obtain⟨a,vs,rfl,s1,r1⟩:=hx;obtain⟨v,e1,e2⟩:=qEz r1 h;exact⟨_,qB4,a,vs,_,v,rfl,rfl,hK▸s1,e1,q0I e2⟩
 ·cases (show y=_ from hy);obtain⟨a,vs,rfl,s1,z,r1⟩:=hx;obtain⟨v,e1,e2⟩:=qEz r1 h;exact⟨_,qID,a,vs,_,v,rfl,rfl,hK▸q0Y.sqT s1,e1,q0I e2⟩
 ·cases (show y=_ from hy);obtain⟨a,kvs,rfl,s1,rfl,r1⟩:=hx;obtain⟨v,e1,e2⟩:=q9N r1 h;exact⟨_,qG8 hu,a,kvs,_,v,rfl,rfl,s1,e1,q0I e2⟩
 ·cases h
theorem qDi (hK:p.K=X.K) {x:V}{b:Bool}(h:tr d = .ok b) (hx:RepB p H (fz O H) d x):TruV X.K x H b:=by
 unfold tr at h;split at h<;>cases h
 ·cases (show x=_ from hx);rfl
 ·cases (show x=_ from hx);rfl
 ·cases (show x=_ from hx);rfl
 ·obtain⟨rfl,z⟩:=hx;refine⟨Qr z q0d,?_⟩;rw[QE];simp
 ·obtain⟨a,vs,rfl,s1,z,r1⟩:=hx;refine .inr (.inl ⟨vs,hK▸q0Y.sqT s1,?_⟩);have:=r1.length;rename_i ds;cases ds<;>cases vs<;>first|rfl|(simp at this)
 ·obtain⟨a,vs,rfl,s1,r1⟩:=hx;refine .inl ⟨vs,hK▸s1,?_⟩;have:=r1.length;rename_i ds;cases ds<;>cases vs<;>first|rfl|(simp at this)
end
end Snd
namespace Snd
open PySem PySem.Spec PyProof.Rows L2 Ev
variable {σ:L2.St}{H H':Hp}{d:D}{ρ:Ev.Env}{os:List (List Addr)}{a:PySem.Expr}{la lb:L}{pos:Pos}
structure BOk (X:Cx) (pins:List (Addr×Obj)) (H:Hp) (B:Heap):Prop where
 hok:HOk X.prog X.w H B
 keep:∀b o,X.s₀.heap.get? b=some o->X.H₀ b=none->b∉frs X.stack->b∉X.ex->B.get? b=some o
 there:∀b o,X.s₀.heap.get? b=some o->b∉frs X.stack->b∉X.ex->∃o',B.get? b=some o'
 pin:∀q∈X.pn++pins,B.get? q.1=some q.2
def Mid (X:Cx) (p:Pm) (pins:List (Addr×Obj)) (σ:L2.St) (H:Hp) (c:Nat) (e:Value) (s':Shared):Prop :=
 ∃H' a C,e = .ref a/\p.cls[c]? = some C/\Ext H H'/\
  ((∃s1 vs,Inv X pins σ H' s1/\Heap.MadeExcOf s1.heap s'.heap a (.ref C) vs/\s'={s1 with heap:=s'.heap})\/
   (∃B t,Inv X pins σ H' s'/\BOk X pins H' B/\Heap.FlyingW B X.stack a (.ref C) (.ref t) s'.heap)\/
   (∃B t L,X.env.frame=some L/\Inv X pins σ H' s'/\BOk X pins H' B/\Heap.HeldW B X.stack a (.ref C) (.ref t) L s'.heap))
theorem Mid.ext {X:Cx}{p:Pm}{pins:List (Addr×Obj)}{H1:Hp}{c:Nat}{e:Value}{s':Shared}(m:Mid X p pins σ H1 c e s') (x:Ext H H1):Mid X p pins σ H c e s':=by obtain⟨H',a,C,h1,h2,h3,h4⟩:=m;exact⟨H',a,C,h1,h2,x.trans h3,h4⟩
theorem q4g {p:Pm}{H H' Hf Hf':Hp}(x:Ext H H') (y:Ext Hf Hf'):∀{bs:List Addr}{xss:List (List D)},q2r p H Hf bs xss->q2r p H' Hf' bs xss
 |[],_,h=>h
 |b::bs,xss,h=>by obtain⟨xs,r,e,⟨vs,h1,h2⟩,h3⟩:=h;exact⟨xs,r,e,⟨vs,x _ _ h1,h2.mono y⟩,q4g x y h3⟩
theorem qBX {p:Pm}{Hf Hf':Hp}(x:Ext H H') (y:Ext Hf Hf') {a:Addr}(h:qG3 p H Hf a d):qG3 p H' Hf' a d:=by
 cases d with
 |lst ds=>obtain⟨vs,h1,h2⟩:=h;exact⟨vs,x _ _ h1,h2.mono y⟩
 |dct ks ds=>obtain⟨kvs,h1,h2,h3⟩:=h;exact⟨kvs,x _ _ h1,h2,h3.mono y⟩
 |_=>exact h.elim
theorem q6O {p:Pm}{Hf Hf':Hp}(x:Ext H H') (y:Ext Hf Hf') {sl:Option Sl}{v:Option V}{as:List Addr}(h:q3O p H Hf sl v as):q3O p H' Hf' sl v as:=by
 cases sl with
 |none=>exact h
 |some s=>cases s with
  |val d=>obtain⟨h1,w,h2,h3⟩:=h;exact⟨h1,w,h2,h3.mono y⟩
  |own d=>obtain⟨a,h1,h2,h3⟩:=h;exact⟨a,h1,h2,qBX x y h3⟩
  |own2 xss=>obtain⟨a,bs,h1,h2,h3,h4⟩:=h;exact⟨a,bs,h1,h2,x _ _ h3,q4g x y h4⟩
theorem q1k {p:Pm}{H H' Hf Hf':Hp}(x:Ext H H') (y:Ext Hf Hf'):∀{ρ:Ev.Env}{σ:L2.St}{os:List (List Addr)},q1I p H Hf ρ σ os->q1I p H' Hf' ρ σ os
 |[],_,_,h=>h
 |_::ρ,_,_,h=>by obtain⟨y1,σ',as,os',e1,e2,h1,h2⟩:=h;exact⟨y1,σ',as,os',e1,e2,q6O x y h1,q1k x y h2⟩
theorem Rel.th {p:Pm}(r:Rel p ρ σ os H):Th os.flatten H:=r.there
theorem Rel.ext {p:Pm}(r:Rel p ρ σ os H) (x:Ext H H'):Rel p ρ σ os H' :=
 ⟨r.nd,r.th.ext x,q1k x (q1D x) r.slots⟩
theorem q3Q {p:Pm}{H Hf:Hp}:∀{ρ:Ev.Env}{σ:L2.St}{os:List (List Addr)}{i:Nat}{x:Option Sl},q1I p H Hf ρ σ os->ρ[i]? = some x->∃y as,σ[i]? = some y/\os[i]? = some as/\q3O p H Hf x y as
 |[],_,_,i,x,h,e=>by simp at e
 |x0::ρ,_,_,0,x,h,e=>by obtain⟨y1,σ',as,os',rfl,rfl,h1,h2⟩:=h;simp at e;subst e;exact⟨y1,as,rfl,rfl,h1⟩
 |x0::ρ,_,_,i+1,x,h,e=>by obtain⟨y1,σ',as,os',rfl,rfl,h1,h2⟩:=h;obtain⟨y,bs,e1,e2,e3⟩:=q3Q (i:=i) h2 (by simpa using e);exact⟨y,bs,by simpa using e1,by simpa using e2,e3⟩
theorem Rel.val {p:Pm}(r:Rel p ρ σ os H) {i:Nat}(e:getV ρ i = .ok d):∃v,σ[i]? = some (some v)/\Rep p (fz os.flatten H) d v:=by
 unfold getV at e;split at e
 ·rename_i d' h;cases e;obtain⟨y,as,e1,_,h1,v,e2,h2⟩:=q3Q r.slots h;exact⟨v,by rw[e1,e2],h2⟩
 ·cases e
theorem Rel.bor {p:Pm}(r:Rel p ρ σ os H) {i:Nat}(e:getB ρ i = .ok d):∃v,σ[i]? = some (some v)/\RepB p H (fz os.flatten H) d v:=by
 unfold getB at e;split at e
 ·rename_i d' h;cases e;obtain⟨y,as,e1,_,h1,v,e2,h2⟩:=q3Q r.slots h;exact⟨v,by rw[e1,e2],h2.b q0Y⟩
 ·rename_i d' h;cases e;obtain⟨y,as,e1,_,a,e2,_,h2⟩:=q3Q r.slots h;refine⟨.ref a,by rw[e1,e2],?_⟩;cases d with
  |lst ds=>obtain⟨vs,q1,q2⟩:=h2;exact⟨a,vs,rfl,SqL.of q1,q2⟩
  |dct ks ds=>obtain⟨kvs,q1,q2,q3⟩:=h2;exact⟨a,kvs,rfl,.inl q1,q2,q3⟩
  |_=>exact h2.elim
 ·cases e
section
variable {X:Cx}{p:Pm}{G:Nat->List D->R D}{sub:Nat->Nat->Bool}
def Gd (X:Cx) (p:Pm) (pins:List (Addr×Obj)) (σ:L2.St) (os:List (List Addr)) (H:Hp) (r:R D) (u:Value) (s':Shared):Prop :=
 ∃d v H',r = .ok d/\Inv X pins σ H' s'/\RelV v u/\Ext H H'/\Rep p (fz os.flatten H') d v
def Gb (X:Cx) (p:Pm) (pins:List (Addr×Obj)) (σ:L2.St) (os:List (List Addr)) (H:Hp) (r:R D) (u:Value) (s':Shared):Prop :=
 ∃d v H',r = .ok d/\Inv X pins σ H' s'/\RelV v u/\Ext H H'/\RepB p H' (fz os.flatten H') d v
def Er {α:Type}(X:Cx) (p:Pm) (pins:List (Addr×Obj)) (σ:L2.St) (H:Hp) (r:R α) (e:Value) (s':Shared):Prop:=∃c,r = .err c/\Mid X p pins σ H c e s'
def SE (X:Cx) (p:Pm) (G:Nat->List D->R D) (sub:Nat->Nat->Bool) (e:PySem.Expr) (l:L):Prop :=
 ∀(pins:List (Addr×Obj)) (s:Shared) (σ:L2.St) (H:Hp) (ρ:Ev.Env) (os:List (List Addr)),Inv X pins σ H s->Rel p ρ σ os H->ev G sub l ρ ≠ .stuck->
  wpAny (model X.prog X.w) X.A (eval e X.env) (Gd X p pins σ os H (ev G sub l ρ)) (Er X p pins σ H (ev G sub l ρ)) s
def SB (X:Cx) (p:Pm) (G:Nat->List D->R D) (sub:Nat->Nat->Bool) (e:PySem.Expr) (l:L):Prop :=
 ∀(pins:List (Addr×Obj)) (s:Shared) (σ:L2.St) (H:Hp) (ρ:Ev.Env) (os:List (List Addr)),Inv X pins σ H s->Rel p ρ σ os H->ev G sub l ρ ≠ .stuck->
  wpAny (model X.prog X.w) X.A (eval e X.env) (Gb X p pins σ os H (ev G sub l ρ)) (Er X p pins σ H (ev G sub l ρ)) s
theorem SE.b {e:PySem.Expr}{l:L}(h:SE X p G sub e l):SB X p G sub e l:=λ pins s σ H ρ os I R hs =>
 wpAny_mono (h pins s σ H ρ os I R hs) (λ u s' ⟨d,v,H',e1,I',rv,x,q⟩=>⟨d,v,H',e1,I',rv,x,q.b q0Y⟩) λ _ _ z=>z
theorem q0C {α β:Type}{r:R α}{f:α->R β}(h:r.bind f ≠ .stuck):r ≠ .stuck:=λ e=>h (by rw[e];rfl)
theorem qAR {pins:List (Addr×Obj)}{H1:Hp}{r:D}{rr:R D}{E:Value->Shared->Prop}{u:Value}{s':Shared}(x:Ext H H1) (e:rr = .ok r) (h:EP (X.wish E) pins σ (Fin p os.flatten H1 r) u s'):Gd X p pins σ os H rr u s':=by obtain⟨v,H',I',rv,x',q⟩:=h;exact⟨r,v,H',e,I'.q2n,rv,x.trans x',q⟩
theorem q9O {b:PySem.Expr}{f:Value->Value->Sem Value}{g:D->D->R D}(ha:SB X p G sub a la) (hb:SB X p G sub b lb)
  (hf:∀(E:Value->Shared->Prop) (pins:List (Addr×Obj)) (s:Shared) (σ:L2.St) (H:Hp) (os:List (List Addr)) (x y:V) (v u:Value) (d e r:D),Inv X pins σ H s->Th os.flatten H->RelV x v->RelV y u->RepB p H (fz os.flatten H) d x->RepB p H (fz os.flatten H) e y->g d e = .ok r->
   wpAny (model X.prog X.w) X.A (f v u) (EP (X.wish E) pins σ (Fin p os.flatten H r)) E s)
  (hg:∀d e,g d e = .stuck\/∃r,g d e = .ok r)
  {pins:List (Addr×Obj)}{s:Shared}{σ:L2.St}{H:Hp}{ρ:Ev.Env}{os:List (List Addr)}(I:Inv X pins σ H s) (R:Rel p ρ σ os H) {rr:Ev.R D}(er:rr=(ev G sub la ρ).bind λ x=>(ev G sub lb ρ).bind λ y=>g x y) (hs:rr ≠ .stuck) :
  wpAny (model X.prog X.w) X.A (eval a X.env) (λ v s₁=>wpAny (model X.prog X.w) X.A (eval b X.env) (λ u s₂=>wpAny (model X.prog X.w) X.A (f v u) (Gd X p pins σ os H rr) (Er X p pins σ H rr) s₂) (Er X p pins σ H rr) s₁) (Er X p pins σ H rr) s:=by
 subst er;refine wpAny_mono (ha pins s σ H ρ os I R (q0C hs)) (λ v s1 ⟨d,x,H1,e1,I1,r1,x1,q1⟩=>?_) (λ e s' ⟨c,e1,m⟩=>⟨c,by rw[e1];rfl,m⟩);rw[e1,q00] at hs |-;have R1:=R.ext x1;refine wpAny_mono (hb pins s1 σ H1 ρ os I1 R1 (q0C hs)) (λ u s2 ⟨d2,y,H2,e2,I2,r2,x2,q2⟩=>?_) (λ e s' ⟨c,e2,m⟩=>⟨c,by rw[e2];rfl,m.ext x1⟩);rw[e2,q00] at hs |-;rcases hg d d2 with z|⟨r,z⟩
 ·exact absurd z hs
 rw[z];exact wpAny_mono (hf _ pins s2 σ H2 os x y v u d d2 r I2 (R1.ext x2).th r1 r2 (q1.mono x2 (q1D x2)) q2 z) (λ w s3 h3=>qAR (x1.trans x2) rfl h3) λ _ _ z=>z
theorem q9P {c:Prop}{_:Decidable c}{x:D}:(if c then R.ok x else .stuck) = .stuck\/∃r,(if c then R.ok x else .stuck) = .ok r:=by
 by_cases z:c
 ·rw[if_pos z];exact .inr ⟨_,rfl⟩
 ·rw[if_neg z];exact .inl rfl
theorem q2h {f:Int->R D}(h:∀i,f i = .stuck\/∃r,f i = .ok r) (d:D):intD f d = .stuck\/∃r,intD f d = .ok r:=by cases d<;>first|exact h _|exact .inl rfl
theorem qG9 (o:Op2) (a b:Int):opI o a b = .stuck\/∃r,opI o a b = .ok r:=by cases o<;>first|exact .inl rfl|exact .inr ⟨_,rfl⟩|exact q9P
theorem qBY (o:Op2) (d e:D):opD o d e = .stuck\/∃r,opD o d e = .ok r:=by
 unfold opD;split
 ·cases d<;>first|exact .inl rfl|exact q2h (λ _=> .inr ⟨_,rfl⟩) e|(cases e<;>first|exact .inl rfl|exact q9P)
 ·cases d<;>first|exact .inl rfl|exact q2h (λ _=>q9P) e
 ·exact q2h (λ a=>q2h (qG9 o a) e) d
theorem qDj (d e:D):memD d e = .stuck\/∃r,memD d e = .ok r:=by
 unfold memD;split<;>first
  |exact .inl rfl
  |(split<;>first|exact .inr ⟨_,rfl⟩|exact .inl rfl)
theorem qBZ (o:Cm) (d e:D):cmD o d e = .stuck\/∃r,cmD o d e = .ok r:=by
 cases o<;>first
  |exact q9P
  |exact q2h (λ a=>q2h (λ b=> .inr ⟨_,rfl⟩) e) d
  |(cases e<;>first|exact .inl rfl|exact .inr ⟨_,rfl⟩)
  |(unfold cmD;dsimp only;rcases qDj d e with z|⟨r,z⟩<;>rw[z]<;>first|exact .inl rfl|exact .inr ⟨_,rfl⟩)
theorem qGA (l:List D) (i:Int):nth l i = .stuck\/∃r,nth l i = .ok r:=by unfold nth;split<;>first|exact .inr ⟨_,rfl⟩|exact .inl rfl
theorem q9Q (i:Int):∀(ks vs:List D),look i ks vs = .stuck\/∃r,look i ks vs = .ok r
 |[],vs=>by unfold look;exact .inl rfl
 |k::ks,[]=>by cases k<;>(unfold look;exact .inl rfl)
 |k::ks,v::vs=>by
  cases k<;>first
   |(unfold look;exact .inl rfl)
   |(unfold look;split<;>first|exact .inr ⟨_,rfl⟩|exact q9Q i ks vs)
theorem qDk (d e:D):idxD d e = .stuck\/∃r,idxD d e = .ok r:=by unfold idxD;split<;>first|exact qGA _ _|exact q9Q _ _ _|exact .inl rfl
theorem qL7 {b:PySem.Expr}{op:Operator}{o:Op2}(hK:p.K=X.K) (ho:opOf op=some o) (ha:SB X p G sub a la) (hb:SB X p G sub b lb):SE X p G sub (.BinOp a op b pos) (.op o la lb):=by intro pins s σ H ρ os I R hs;rw[q9F ho];refine wpAny_BinOp (q9O ha hb (λ E pins s σ H os x y v u d e r I t rx ry h1 h2 h=>?_) (qBY o) I R (q0h ..) hs);obtain⟨r2,k,q⟩:=qDf (X:=X.wish E) hK t o d e r x y h h1 h2;exact k pins s σ H x y v u _ (I.wish E) rx ry q
theorem qL8 {b:PySem.Expr}{op:CmpOp}(hK:p.K=X.K) (hu:X.A.units+64<cLine) (hm:behindInMarks op b=false) (ha:SB X p G sub a la) (hb:SB X p G sub b lb):SE X p G sub (.Compare a [op] [b] pos) (.cm (cmOf op) la lb):=by intro pins s σ H ρ os I R hs;refine wpAny_Compare1 (q9O ha hb (λ E pins s σ H os x y v u d e r I t rx ry h1 h2 h=>?_) (qBZ (cmOf op)) I R (qAN ..) hs) hm;obtain⟨r2,k,q⟩:=q9M (X:=X.wish E) hK t hu (cmOf op) d e r x y h h1 h2;rw[qEy] at k;exact k pins s σ H x y v u _ (I.wish E) rx ry q
theorem qIl {b:PySem.Expr}(hK:p.K=X.K) (hu:X.A.units+64<cLine) (hs:q8G b) (ha:SB X p G sub a la) (hb:SB X p G sub b lb):SE X p G sub (.Subscript a b pos) (.idx la lb):=by intro pins s σ H ρ os I R hn;refine Subscript_ (q9O ha hb (λ E pins s σ H os x y v u d e r I t rx ry h1 h2 h=>?_) qDk I R (q3I ..) hn);obtain⟨r2,k,q⟩:=qDh (X:=X.wish E) (O:=os.flatten) hK hu d e r x y h h1 h2;exact k a b pins s σ H x y v u _ (I.wish E) rx ry q (hs _ _)
end
end Snd
namespace Snd
open PySem PySem.Spec PyProof.Rows L2 Ev
variable {d:D}{pos:Pos}{pins:List (Addr×Obj)}{σ:L2.St}{H:Hp}{x:Str}{i:Nat}{u:Value}{a b:PySem.Expr}{la lb:L}{r es:List PySem.Expr}{s':Shared}{ls:List L}
section
variable {X:Cx}{p:Pm}{G:Nat->List D->R D}{sub:Nat->Nat->Bool}
theorem qF0 {c:Const}{j:Nat}(h:q8I c=some d):SE X p G sub (.Constant c j pos) (.con d):=by
 intro pins s σ H ρ os I R hs;cases c<;>simp[q8I] at h
 ·subst h;exact Constant_none ⟨_,.non,H,rfl,I,rfl,Ext.refl _,rfl⟩
 ·subst h;exact Constant_bool ⟨_,.bl _,H,rfl,I,rfl,Ext.refl _,rfl⟩
 ·subst h;exact wpAny_Constant_int ⟨_,.int _,H,rfl,I.tok _,⟨_,rfl⟩,Ext.refl _,rfl⟩
 ·obtain⟨h1,rfl⟩:=h;exact Calls.Constant_str ⟨_,.str _,H,rfl,I.tok _,⟨_,rfl⟩,Ext.refl _,rfl,Qr h1 (by decide)⟩
theorem q2s {E:Value->Shared->Prop}{s:Shared}{v:V}{Q:Value->Shared->Prop}(I:Inv X pins σ H s) (hN:X.N[i]? = some x) (hv:Vis X.env.scope x) (e:σ[i]? = some (some v))
  (hd:(x==("__debug__":Str))=false) (hcd:(x==("__classdict__":Str))=false) (h:∀u,RelV v u->Q u s):wpAny (model X.prog X.w) X.A (eval (.Name x pos) X.env) Q E s:=by
 obtain⟨m,hn,hl⟩:=I.loc;obtain⟨u,r,l⟩:=hl i x v hN e hv;rcases l with ⟨hk,hm⟩|⟨hk,c,hc,hcell⟩
 ·exact wpAny_Name (wpAny_loadName_local I.ok.kind hk hn hm (h u r)) hd
 ·rcases hk with hk|hk
  ·exact wpAny_Name (wpAny_loadName_cell I.ok.kind hk hc hcell (h u r)) hd
  ·exact wpAny_Name (wpAny_loadName_free I.ok.kind hk hc hcell (h u r) hcd) hd
theorem qIm (hN:X.N[i]? = some x) (hv:Vis X.env.scope x) (hd:(x==("__debug__":Str))=false) (hcd:(x==("__classdict__":Str))=false):SE X p G sub (.Name x pos) (.var i):=by
 intro pins s σ H ρ os I R hs;rw[q1X] at hs |-;cases e:getV ρ i with
 |ok d =>
  obtain⟨v,e1,q⟩:=R.val e;exact q2s I hN hv e1 hd hcd λ u r=>⟨d,v,H,rfl,I,r,Ext.refl _,q⟩
 |err c=>unfold getV at e;split at e<;>cases e
 |stuck=>exact absurd e hs
theorem qF1 (hN:X.N[i]? = some x) (hv:Vis X.env.scope x) (hd:(x==("__debug__":Str))=false) (hcd:(x==("__classdict__":Str))=false):SB X p G sub (.Name x pos) (.bor i):=by
 intro pins s σ H ρ os I R hs;rw[qEr] at hs |-;cases e:getB ρ i with
 |ok d =>
  obtain⟨v,e1,q⟩:=R.bor e;exact q2s I hN hv e1 hd hcd λ u r=>⟨d,v,H,rfl,I,r,Ext.refl _,q⟩
 |err c=>unfold getB at e;split at e<;>cases e
 |stuck=>exact absurd e hs
theorem qGB {v:V}(hg:Gl X x) (hm:X.mg x=some u) (r:RelV v u) (hr:∀H,Rep p H d v) (hd:(x==("__debug__":Str))=false):SE X p G sub (.Name x pos) (.con d):=λ pins s σ H ρ os I R hs =>
 q3t I hg hm ⟨d,v,H,rfl,I,r,Ext.refl _,hr _⟩ hd
theorem qIn (ha:SE X p G sub a la):SE X p G sub (.UnaryOp .USub a pos) (.neg la):=by
 intro pins s σ H ρ os I R hs;rw[qIP] at hs |-;refine UnaryOp_ (wpAny_mono (ha pins s σ H ρ os I R (q0C hs)) (λ v s1 ⟨d,x,H1,e1,I1,r1,x1,q1⟩=>?_) (λ e s' ⟨c,e1,m⟩=>⟨c,by rw[e1];rfl,m⟩));rw[e1,q00] at hs |-;cases d<;>first
  |exact absurd rfl hs
  |skip
 cases (show x=_ from q1);obtain⟨t,rfl⟩:=r1;exact neg_int ⟨_,.int _,H1,rfl,I1.tok _,⟨_,rfl⟩,x1,rfl⟩
def Tp (X:Cx) (p:Pm) (pins:List (Addr×Obj)) (σ:L2.St) (H:Hp) (r:R Bool) (b:Bool) (s':Shared):Prop:=∃H',r = .ok b/\Inv X pins σ H' s'/\Ext H H'
def ST (X:Cx) (p:Pm) (G:Nat->List D->R D) (sub:Nat->Nat->Bool) (e:PySem.Expr) (l:T):Prop :=
 ∀(whole:Sem Value) (pins:List (Addr×Obj)) (s:Shared) (σ:L2.St) (H:Hp) (ρ:Ev.Env) (os:List (List Addr)),(whole=eval e X.env\/q8J e=true)->Inv X pins σ H s->Rel p ρ σ os H->tst G sub l ρ ≠ .stuck->
  wpAny (model X.prog X.w) X.A (isTrue e X.env whole) (Tp X p pins σ H (tst G sub l ρ)) (Er X p pins σ H (tst G sub l ρ)) s
theorem q2y (hK:p.K=X.K) {s:Shared}{H0:Hp}{os:List (List Addr)}{x:V}{v:Value}{E:Value->Shared->Prop}{rr:R Bool}(I:Inv X pins σ H s) (r:RelV x v) (q:RepB p H (fz os.flatten H) d x) (x0:Ext H0 H) (hs:tr d ≠ .stuck) (er:rr=tr d) :
  wpAny (model X.prog X.w) X.A (truthy v) (Tp X p pins σ H0 rr) E s:=by
 cases e:tr d with
 |ok b =>
  refine thn (qI8 (X:=X.wish E) pins s σ H x v (λ b' H'=>b'=b/\H'=H) (I.wish E) r ⟨b,qDi (X:=X.wish E) (O:=os.flatten) hK e q,rfl,rfl⟩) λ b' s' h=>?_;obtain⟨H',I',rfl,rfl⟩:=h;exact⟨H',by rw[er,e],I'.q2n,x0⟩
 |err c=>unfold tr at e;split at e<;>cases e
 |stuck=>exact absurd e hs
theorem st_e {e:PySem.Expr}{l:L}(hK:p.K=X.K) (he:∀whole,isTrue e X.env whole=(do let v <-whole;standAt e.pos;holding [v] (truthy v))) (hb:q8J e=false) (h:SB X p G sub e l):ST X p G sub e (.e l):=by
 intro whole pins s σ H ρ os hw I R hs;rcases hw with rfl|hw
 ·rw[q8R] at hs |-;refine isTrue_plain (wpAny_mono (h pins s σ H ρ os I R (q0C hs)) (λ v s1 ⟨d,x,H1,e1,I1,r1,x1,q1⟩=>?_) (λ e s' ⟨c,e1,m⟩=>⟨c,by rw[e1];rfl,m⟩)) (he _);rw[e1,q00] at hs |-;exact q2y hK I1 r1 q1 x1 hs rfl
 ·rw[hb] at hw;cases hw
theorem qL9 {op:CmpOp}(hK:p.K=X.K) (hu:X.A.units+64<cLine) (hm:behindInMarks op b=false) (ha:SB X p G sub a la) (hb:SB X p G sub b lb):ST X p G sub (.Compare a [op] [b] pos) (.e (.cm (cmOf op) la lb)):=by
 intro whole pins s σ H ρ os hw I R hs;rw[q8R] at hs |-;have hs':ev G sub (.cm (cmOf op) la lb) ρ ≠ .stuck:=q0C hs;have two:=q9O (X:=X) ha hb (f:=compareOp op) (g:=cmD (cmOf op)) (λ E pins s σ H os x y v u d e r I t rx ry h1 h2 h=>by obtain⟨r2,k,q⟩:=q9M (X:=X.wish E) hK t hu (cmOf op) d e r x y h h1 h2;rw[qEy] at k;exact k pins s σ H x y v u _ (I.wish E) rx ry q) (qBZ (cmOf op)) I R (qAN ..) hs'
 have er:∀e s',Er X p pins σ H (ev G sub (.cm (cmOf op) la lb) ρ) e s'->Er X p pins σ H ((ev G sub (.cm (cmOf op) la lb) ρ).bind tr) e s':=λ e s' ⟨c,e1,m⟩=>⟨c,by rw[e1];rfl,m⟩
 refine wpAny_isTrue_Compare1 (wpAny_mono two (λ v s1 h1=>wpAny_mono h1 (λ u s2 h2=>wpAny_mono h2 (λ w s3 h3=>?_) er) er) er) hm;obtain⟨d,x,H1,e1,I1,r1,x1,q1⟩:=h3;rw[e1,q00] at hs |-;exact q2y hK I1 r1 (q1.b q0Y) x1 hs rfl
theorem qIo {la:T}(ha:ST X p G sub a la):ST X p G sub (.UnaryOp .Not a pos) (.not la):=by intro whole pins s σ H ρ os hw I R hs;rw[q8Q] at hs |-;refine isTrue_not (wpAny_mono (ha _ pins s σ H ρ os (.inl rfl) I R (q0C hs)) (λ b s1 ⟨H1,e1,I1,x1⟩=>?_) (λ e s' ⟨c,e1,m⟩=>⟨c,by rw[e1];rfl,m⟩));exact⟨H1,by rw[e1];rfl,I1,x1⟩
theorem qGC {la:T}(ha:ST X p G sub a la):ST X p G sub (.BoolOp .And [a] pos) la:=by
 intro whole pins s σ H ρ os hw I R hs;refine isTrue_and (wpAny_mono (ha _ pins s σ H ρ os (.inl rfl) I R hs) (λ c s1 e=>?_) (λ _ _ z=>z));cases c with
 |true=>exact isTrue_and_nil e
 |false=>exact e
theorem qIp {la:T}(ha:ST X p G sub a la):ST X p G sub (.BoolOp .Or [a] pos) la:=by
 intro whole pins s σ H ρ os hw I R hs;refine isTrue_or (wpAny_mono (ha _ pins s σ H ρ os (.inl rfl) I R hs) (λ c s1 e=>?_) (λ _ _ z=>z));cases c with
 |false=>exact isTrue_or_nil e
 |true=>exact e
theorem qIq {la lb:T}(ha:ST X p G sub a la) (hb:ST X p G sub (.BoolOp .And (b::r) pos) lb):ST X p G sub (.BoolOp .And (a::b::r) pos) (.and la lb):=by
 intro whole pins s σ H ρ os hw I R hs;rw[q8P] at hs |-;refine isTrue_and (wpAny_mono (ha _ pins s σ H ρ os (.inl rfl) I R (q0C hs)) (λ c s1 ⟨H1,e1,I1,x1⟩=>?_) (λ e s' ⟨c,e1,m⟩=>⟨c,by rw[e1];rfl,m⟩));rw[e1,q00] at hs |-;cases c with
 |false=>exact⟨H1,rfl,I1,x1⟩
 |true =>
  rw[if_pos rfl] at hs |-;exact wpAny_mono (hb _ pins s1 σ H1 ρ os (.inr rfl) I1 (R.ext x1) hs) (λ c s2 ⟨H2,e2,I2,x2⟩=>⟨H2,e2,I2,x1.trans x2⟩) (λ e s' ⟨c,e1,m⟩=>⟨c,e1,m.ext x1⟩)
theorem qLA {la lb:T}(ha:ST X p G sub a la) (hb:ST X p G sub (.BoolOp .Or (b::r) pos) lb):ST X p G sub (.BoolOp .Or (a::b::r) pos) (.or la lb):=by
 intro whole pins s σ H ρ os hw I R hs;rw[qIS] at hs |-;refine isTrue_or (wpAny_mono (ha _ pins s σ H ρ os (.inl rfl) I R (q0C hs)) (λ c s1 ⟨H1,e1,I1,x1⟩=>?_) (λ e s' ⟨c,e1,m⟩=>⟨c,by rw[e1];rfl,m⟩));rw[e1,q00] at hs |-;cases c with
 |true=>exact⟨H1,rfl,I1,x1⟩
 |false =>
  rw[if_neg (by simp)] at hs |-;exact wpAny_mono (hb _ pins s1 σ H1 ρ os (.inr rfl) I1 (R.ext x1) hs) (λ c s2 ⟨H2,e2,I2,x2⟩=>⟨H2,e2,I2,x1.trans x2⟩) (λ e s' ⟨c,e1,m⟩=>⟨c,e1,m.ext x1⟩)
theorem qIr {op:BoolOp}(ha:SE X p G sub a la):SE X p G sub (.BoolOp op [a] pos) la:=λ pins s σ H ρ os I R hs=>BoolOp_one (ha pins s σ H ρ os I R hs)
theorem Gd.ext {os:List (List Addr)}{H1:Hp}{r:R D}(x:Ext H H1) (h:Gd X p pins σ os H1 r u s'):Gd X p pins σ os H r u s':=by obtain⟨d,v,H',e,I,rv,y,q⟩:=h;exact⟨d,v,H',e,I,rv,x.trans y,q⟩
theorem Er.ext {α:Type}{H1:Hp}{r:R α}(x:Ext H H1) (h:Er X p pins σ H1 r u s'):Er X p pins σ H r u s':=by obtain⟨c,e,m⟩:=h;exact⟨c,e,m.ext x⟩
theorem Er.bind {α β:Type}{r:R α}{f:α->R β}(h:Er X p pins σ H r u s'):Er X p pins σ H (r.bind f) u s':=by obtain⟨c,e,m⟩:=h;exact⟨c,by rw[e];rfl,m⟩
theorem qIs (ha:SE X p G sub a la) (hb:SE X p G sub (.BoolOp .And (b::r) pos) lb):SE X p G sub (.BoolOp .And (a::b::r) pos) (.and la lb):=by
 intro pins s σ H ρ os I R hs;rw[qEt] at hs |-;refine BoolOp_and (wpAny_mono (ha pins s σ H ρ os I R (q0C hs)) (λ v s1 ⟨d,x,H1,e1,I1,r1,x1,q1⟩=>?_) (λ e s' z=>z.bind));rw[e1,q00] at hs |-;cases d<;>first
  |exact absurd rfl hs
  |skip
 rename_i c;cases (show x=_ from q1);cases r1;refine wpAny_truthy_bool ?_;cases c with
 |true=>exact wpAny_mono (hb pins s1 σ H1 ρ os I1 (R.ext x1) hs) (λ _ _ z=>z.ext x1) (λ _ _ z=>z.ext x1)
 |false=>exact⟨_,.bl false,H1,rfl,I1,rfl,x1,rfl⟩
theorem qLB (ha:SE X p G sub a la) (hb:SE X p G sub (.BoolOp .Or (b::r) pos) lb):SE X p G sub (.BoolOp .Or (a::b::r) pos) (.or la lb):=by
 intro pins s σ H ρ os I R hs;rw[qKj] at hs |-;refine BoolOp_or (wpAny_mono (ha pins s σ H ρ os I R (q0C hs)) (λ v s1 ⟨d,x,H1,e1,I1,r1,x1,q1⟩=>?_) (λ e s' z=>z.bind));rw[e1,q00] at hs |-;cases d<;>first
  |exact absurd rfl hs
  |skip
 rename_i c;cases (show x=_ from q1);cases r1;refine wpAny_truthy_bool ?_;cases c with
 |false=>exact wpAny_mono (hb pins s1 σ H1 ρ os I1 (R.ext x1) hs) (λ _ _ z=>z.ext x1) (λ _ _ z=>z.ext x1)
 |true=>exact⟨_,.bl true,H1,rfl,I1,rfl,x1,rfl⟩
theorem qIt (hK:p.K=X.K) (ha:SB X p G sub a la):SE X p G sub (.UnaryOp .Not a pos) (.not la):=by intro pins s σ H ρ os I R hs;rw[qEs] at hs |-;refine UnaryOp_ (wpAny_mono (ha pins s σ H ρ os I R (q0C hs)) (λ v s1 ⟨d,x,H1,e1,I1,r1,x1,q1⟩=>?_) (λ e s' z=>z.bind));rw[e1,q00] at hs |-;refine not_of (thn (q2y hK I1 r1 q1 x1 (q0C hs) rfl) λ b s2 ⟨H2,e2,I2,x2⟩=>?_);rw[e2];exact⟨_,.bl _,H2,rfl,I2,rfl,x2,rfl⟩
theorem qIu {c:PySem.Expr}{lc:T}(hc:ST X p G sub c lc) (ha:SE X p G sub a la) (hb:SE X p G sub b lb):SE X p G sub (.IfExp c a b pos) (.ite lc la lb):=by
 intro pins s σ H ρ os I R hs;rw[qBD] at hs |-;refine wpAny_IfExp (wpAny_mono (hc _ pins s σ H ρ os (.inl rfl) I R (q0C hs)) (λ t s1 ⟨H1,e1,I1,x1⟩=>?_) (λ e s' z=>z.bind));rw[e1,q00] at hs |-;cases t with
 |true=>exact wpAny_mono (ha pins s1 σ H1 ρ os I1 (R.ext x1) hs) (λ _ _ z=>z.ext x1) (λ _ _ z=>z.ext x1)
 |false=>exact wpAny_mono (hb pins s1 σ H1 ρ os I1 (R.ext x1) hs) (λ _ _ z=>z.ext x1) (λ _ _ z=>z.ext x1)
def Ga (X:Cx) (p:Pm) (pins:List (Addr×Obj)) (σ:L2.St) (os:List (List Addr)) (H:Hp) (r:R (List D)) (us:List Value) (s':Shared):Prop :=
 ∃ds vs H',r = .ok ds/\Inv X pins σ H' s'/\Vals vs us/\Ext H H'/\RepL p (fz os.flatten H') ds vs
def SA (X:Cx) (p:Pm) (G:Nat->List D->R D) (sub:Nat->Nat->Bool) (es:List PySem.Expr) (l:List L):Prop :=
 ∀(pos:Pos) (pins:List (Addr×Obj)) (s:Shared) (σ:L2.St) (H:Hp) (ρ:Ev.Env) (os:List (List Addr)),Inv X pins σ H s->Rel p ρ σ os H->evs G sub l ρ ≠ .stuck->
  wpAny (model X.prog X.w) X.A (spliced (backTo pos (starEach es X.env))) (Ga X p pins σ os H (evs G sub l ρ)) (Er X p pins σ H (evs G sub l ρ)) s
theorem qF2:SA X p G sub [] []:=λ _ _ _ _ H _ _ I _ _=>Calls.spliced_nil ⟨[],[],H,rfl,I,.nil,Ext.refl _,rfl⟩
theorem qBa {e:PySem.Expr}{l:L}(ha:SE X p G sub e l) (hr:SA X p G sub es ls) (hst:starEach (e::es) X.env=(false,eval e X.env)::starEach es X.env):SA X p G sub (e::es) (l::ls):=by intro pos pins s σ H ρ os I R hs;rw[hst];rw[q0H] at hs |-;show wpAny _ _ (spliced ((false,eval e X.env)::backTo pos (starEach es X.env))) _ _ s;refine Calls.spliced_cons (wpAny_mono (ha pins s σ H ρ os I R (q0C hs)) (λ u s1 ⟨d,x,H1,e1,I1,r1,x1,q1⟩=>?_) (λ e s' z=>z.bind));rw[e1,q00] at hs |-;refine wpAny_mono (hr pos pins s1 σ H1 ρ os I1 (R.ext x1) (q0C hs)) (λ us s2 ⟨ds,vs,H2,e2,I2,r2,x2,q2⟩=>?_) (λ e s' z=>(z.ext x1).bind);rw[e2];exact⟨d::ds,x::vs,H2,rfl,I2,.cons r1 r2,x1.trans x2,x,vs,rfl,q1.mono (q1D x2),q2⟩
theorem qBb {O:List Addr}{a:Addr}{o:HO}(t:Th O H) (n:H a=none):fz O (upd H a o) a=some o:=q25 q0B λ m=>by obtain⟨u,e⟩:=t a m;rw[n] at e;cases e
theorem qIv {k1:Nat}(h:SA X p G sub es ls):SE X p G sub (.Tuple es k1 pos) (.tup ls):=by
 intro pins s σ H ρ os I R hs;rw[qBE] at hs |-;refine wpAny_Tuple_spliced (wpAny_mono (h pos pins s σ H ρ os I R (q0C hs)) (λ us s1 ⟨ds,vs,H1,e1,I1,r1,x1,q1⟩=>?_) (λ e s' z=>z.bind));rw[e1,q00] at hs |-;have z:ds.length<=big:=by
  by_cases z:ds.length<=big
  ·exact z
  ·rw[if_neg z] at hs;exact absurd rfl hs
 rw[if_pos z];have z1:vs.length<=sizeLine:=Qr (q1.length▸z) q0d;refine⟨by rw[<-r1.length];exact z1,?_⟩;have hf:H1 s1.heap.objs.size=none:=I1.hok.fresh (Qi _);refine⟨_,.ref s1.heap.objs.size,upd H1 s1.heap.objs.size (.tup vs),rfl,I1.laid (t':=s1.toks) (λ b u e=>Heap.get?_push_of_some _ e) (Qi _) ?_,rfl,x1.trans (Ext.upd hf),?_⟩
 ·exact⟨z1,us,r1,⟨_,Heap.get?_push_size _ rfl,rfl,_,rfl⟩⟩
 ·exact⟨_,vs,rfl,SqT.of (qBb (R.ext x1).th hf),z1,q1.mono (q1D (Ext.upd hf))⟩
theorem qIw (h:SA X p G sub es ls):SE X p G sub (.List es pos) (.lst ls):=by
 intro pins s σ H ρ os I R hs;rw[q7F] at hs |-;refine wpAny_List_spliced (wpAny_mono (h pos pins s σ H ρ os I R (q0C hs)) (λ us s1 ⟨ds,vs,H1,e1,I1,r1,x1,q1⟩=>?_) (λ e s' z=>z.bind));rw[e1,q00] at hs |-;have z:ds.length<=big:=by
  by_cases z:ds.length<=big
  ·exact z
  ·rw[if_neg z] at hs;exact absurd rfl hs
 rw[if_pos z];have z1:vs.length<=sizeLine:=Qr (q1.length▸z) q0d;refine⟨by rw[<-r1.length];exact z1,?_⟩;have hf:H1 s1.heap.objs.size=none:=I1.hok.fresh (Qi _);refine⟨_,.ref s1.heap.objs.size,upd H1 s1.heap.objs.size (.lst vs),rfl,I1.laid (t':=s1.toks) (λ b u e=>Heap.get?_push_of_some _ e) (Qi _) ?_,rfl,x1.trans (Ext.upd hf),?_⟩
 ·exact⟨z1,us,0,r1,Heap.get?_push_size _ rfl⟩
 ·exact⟨_,vs,rfl,SqL.of (qBb (R.ext x1).th hf),q1.mono (q1D (Ext.upd hf))⟩
end
end Snd
namespace Snd
open PySem PySem.Spec PyProof.Rows L2 Ev
variable {H0 H:Hp}{O0:List Addr}{ρ:Ev.Env}{σ:L2.St}{os:List (List Addr)}{i:Nat}{pins:List (Addr×Obj)}{pos:Pos}{e:PySem.Expr}{l:L}
theorem q3R {p:Pm}{H Hf:Hp}{x:Option Sl}{y:Option V}{as:List Addr}(h:q3O p H Hf x y as):∀{ρ:Ev.Env}{σ:L2.St}{os:List (List Addr)}(i:Nat),q1I p H Hf ρ σ os->q1I p H Hf (ρ.set i x) (σ.set i y) (os.set i as)
 |[],_,_,_,_=>trivial
 |_::ρ,_,_,0,q=>by obtain⟨y1,σ',as',os',rfl,rfl,h1,h2⟩:=q;exact⟨y,σ',as,os',rfl,rfl,h,h2⟩
 |_::ρ,_,_,i+1,q=>by obtain⟨y1,σ',as',os',rfl,rfl,h1,h2⟩:=q;exact⟨y1,σ'.set i y,as',os'.set i as,rfl,rfl,h1,q3R h i h2⟩
theorem q0J {as:List Addr}{b:Addr}:∀{os:List (List Addr)}{i:Nat},b∈(os.set i as).flatten->b∈os.flatten\/b∈as
 |[],i,h=>by simp at h
 |o::os,0,h=>by
  simp only[Q0,Qx,Qq] at h;rcases h with h|h
  ·exact .inr h
  ·exact .inl (by simp only[Qx,Qq];exact .inr h)
 |o::os,i+1,h=>by
  simp only[QZ,Qx,Qq] at h;rcases h with h|h
  ·exact .inl (by simp only[Qx,Qq];exact .inl h)
  ·rcases q0J h with h|h
   ·exact .inl (by simp only[Qx,Qq];exact .inr h)
   ·exact .inr h
theorem q0x {as:List Addr}(na:as.Nodup):∀{os:List (List Addr)}{i:Nat},os.flatten.Nodup->(∀a∈as,a∉os.flatten)->(os.set i as).flatten.Nodup
 |[],i,h,_=>by simp
 |o::os,0,h,d=>by simp only[Q0,Qx] at h |-;have h2:=Qz.mp h;refine Qz.mpr ⟨na,h2.2.1,λ a ha b hb e=>?_⟩;subst e;exact d a ha (by simp only[Qx,Qq];exact .inr hb)
 |o::os,i+1,h,d=>by
  simp only[QZ,Qx] at h |-;have h2:=Qz.mp h;refine Qz.mpr ⟨h2.1,q0x na h2.2.1 (λ a ha hb=>d a ha (by simp only[Qx,Qq];exact .inr hb)),λ a ha b hb e=>?_⟩;subst e;rcases q0J hb with hb|hb
  ·exact h2.2.2 a ha a hb rfl
  ·exact d a hb (by simp only[Qx,Qq];exact .inl ha)
structure Bd (p:Pm) (H0:Hp) (O0:List Addr) (ρ:Ev.Env) (σ:L2.St) (os:List (List Addr)) (H:Hp):Prop where
 rel:Rel p ρ σ (os++[O0]) H
 len:os.length=ρ.length
 slen:σ.length=ρ.length
 ext:Ext H0 H
 new:∀a∈os.flatten,H0 a=none
theorem Bd.mono {p:Pm}{H1:Hp}(b:Bd p H0 O0 ρ σ os H) (x:Ext H H1):Bd p H0 O0 ρ σ os H1 :=
 ⟨b.rel.ext x,b.len,b.slen,b.ext.trans x,b.new⟩
theorem q52 {A B:List Addr}(h:∀a∈B,a∈A):Ext (fz A H) (fz B H):=λ a o e=>by
 unfold fz at e |-;split at e
 ·cases e
 ·rename_i n;rw[if_neg λ m=>n (h a m)];exact e
theorem q0m (os:List (List Addr)) (O:List Addr):(os++[O]).flatten=os.flatten++O:=by simp
theorem qGD:Ext (fz (os++[O0]).flatten H) (fz O0 H):=q52 λ a h=>by rw[q0m];exact Qp _ h
theorem q0r {O as:List Addr}(h:i<os.length):(os++[O]).set i as=os.set i as++[O]:=by rw[List.set_append,if_pos h]
theorem Bd.setV {p:Pm}{d:D}{v:V}(b:Bd p H0 O0 ρ σ os H) (hi:i < ρ.length) (h:Rep p (fz (os++[O0]).flatten H) d v) :
  Bd p H0 O0 (ρ.set i (some (.val d))) (σ.set i (some v)) (os.set i []) H:=by
 have sub:∀a∈(os.set i []++[O0]).flatten,a∈(os++[O0]).flatten:=λ a ha=>by rw[<-q0r (by rw[b.len];exact hi)] at ha;exact (q0J ha).elim id λ z=>absurd z (by simp)
 have y:Ext (fz (os++[O0]).flatten H) (fz (os.set i []++[O0]).flatten H):=q52 sub;refine⟨⟨?_,λ a ha=>b.rel.there a (sub a ha),?_⟩,by simp[b.len],by simp[b.slen],b.ext,λ a ha=>?_⟩
 ·rw[<-q0r (by rw[b.len];exact hi)];exact q0x Jp b.rel.nd λ a ha=>absurd ha (by simp)
 ·have:=q3R (x:=some (.val d)) (y:=some v) (as:=[]) (show q3O p H (fz (os.set i []++[O0]).flatten H) _ _ _ from⟨rfl,v,rfl,h.mono y⟩) i (q1k (Ext.refl H) y b.rel.slots)
  rwa [q0r (by rw[b.len];exact hi)] at this
 ·exact (q0J ha).elim (b.new a) λ z=>absurd z (by simp)
theorem Bd.setN {p:Pm}{y:Option V}(b:Bd p H0 O0 ρ σ os H) (hi:i < ρ.length) :
  Bd p H0 O0 (ρ.set i none) (σ.set i y) (os.set i []) H:=by
 have sub:∀a∈(os.set i []++[O0]).flatten,a∈(os++[O0]).flatten:=λ a ha=>by rw[<-q0r (by rw[b.len];exact hi)] at ha;exact (q0J ha).elim id λ z=>absurd z (by simp)
 have z:Ext (fz (os++[O0]).flatten H) (fz (os.set i []++[O0]).flatten H):=q52 sub;refine⟨⟨?_,λ a ha=>b.rel.there a (sub a ha),?_⟩,by simp[b.len],by simp[b.slen],b.ext,λ a ha=>?_⟩
 ·rw[<-q0r (by rw[b.len];exact hi)];exact q0x Jp b.rel.nd λ a ha=>absurd ha (by simp)
 ·have:=q3R (x:=none) (y:=y) (as:=[]) (show q3O p H (fz (os.set i []++[O0]).flatten H) _ _ _ from rfl) i (q1k (Ext.refl H) z b.rel.slots)
  rwa [q0r (by rw[b.len];exact hi)] at this
 ·exact (q0J ha).elim (b.new a) λ z=>absurd z (by simp)
theorem Bd.setO {p:Pm}{H1:Hp}{sl:Sl}{v:V}{as:List Addr}(b:Bd p H0 O0 ρ σ os H) (hi:i < ρ.length) (x:Ext H H1) (nd:as.Nodup) (na:∀a∈as,H a=none)
  (th:∀a∈as,∃o,H1 a=some o) (h:q3O p H1 (fz ((os++[O0]).flatten++as) H1) (some sl) (some v) as) :
  Bd p H0 O0 (ρ.set i (some sl)) (σ.set i (some v)) (os.set i as) H1:=by
 have lt:i<os.length:=by rw[b.len];exact hi
 have sub:∀a∈(os.set i as++[O0]).flatten,a∈(os++[O0]).flatten++as:=λ a ha=>by rw[<-q0r lt] at ha;exact Qq.mpr (q0J ha)
 have y:Ext (fz ((os++[O0]).flatten++as) H1) (fz (os.set i as++[O0]).flatten H1):=q52 sub;have z:Ext (fz (os++[O0]).flatten H) (fz ((os++[O0]).flatten++as) H1):=λ c o e=>by
  unfold fz at e |-;split at e
  ·cases e
  ·rename_i n;rw[if_neg λ m=>?_]
   ·exact x _ _ e
   ·rcases Qq.mp m with m|m
    ·exact n m
    ·rw[na c m] at e;cases e
 have dis:∀a∈as,a∉(os++[O0]).flatten:=λ a ha hb=>by obtain⟨o,e⟩:=b.rel.there a hb;rw[na a ha] at e;cases e
 refine⟨⟨?_,λ a ha=>?_,?_⟩,by simp[b.len],by simp[b.slen],b.ext.trans x,λ a ha=>?_⟩
 ·rw[<-q0r lt];exact q0x nd b.rel.nd dis
 ·rcases Qq.mp (sub a ha) with m|m
  ·obtain⟨o,e⟩:=b.rel.there a m;exact⟨o,x _ _ e⟩
  ·exact th a m
 ·have:=q3R (q6O (Ext.refl H1) y h) i (q1k x (z.trans y) b.rel.slots)
  rwa [q0r lt] at this
 ·rcases q0J ha with m|m
  ·exact b.new a m
  ·cases e:H0 a with
   |none=>rfl
   |some o=>have:=b.ext a o e;rw[na a m] at this;cases this
def FlR (p:Pm) (Hf:Hp):F->Flow->Prop
 | .nx,.next=>True
 | .brk,.brk=>True
 | .cont,.cont=>True
 | .ret d,.ret u=>∃v,RelV v u/\Rep p Hf d v
 |_,_=>False
section
variable {X:Cx}{p:Pm}{G:Nat->List D->R D}{sub:Nat->Nat->Bool}
def Es (X:Cx) (p:Pm) (H0:Hp) (O0:List Addr) (pins:List (Addr×Obj)) (r:RS) (e:Value) (s':Shared):Prop :=
 ∃c ρ' σ' os' H',r = .err c ρ'/\Bd p H0 O0 ρ' σ' os' H'/\Mid X p pins σ' H' c e s'
def Gs (X:Cx) (p:Pm) (H0:Hp) (O0:List Addr) (pins:List (Addr×Obj)) (r:RS) (f:Flow) (s':Shared):Prop :=
 ∃ρ' fl σ' os' H',r = .ok ρ' fl/\Bd p H0 O0 ρ' σ' os' H'/\Inv X pins σ' H' s'/\FlR p (fz O0 H') fl f
def SS (X:Cx) (p:Pm) (G:Nat->List D->R D) (sub:Nat->Nat->Bool) (st:Stmt) (l:S):Prop :=
 ∀(H0:Hp) (O0:List Addr) (E:Value->Shared->Prop),PassesOwn (model X.prog X.w) X.A X.env E->∀(pins:List (Addr×Obj)) (s:Shared) (σ:L2.St) (H:Hp) (ρ:Ev.Env) (os:List (List Addr)),Inv X pins σ H s->Bd p H0 O0 ρ σ os H->
  ex G sub l ρ ≠ .stuck->(∀e s',Es X p H0 O0 pins (ex G sub l ρ) e s'->E e s')->wpAny (model X.prog X.w) X.A (exec st X.env) (Gs X p H0 O0 pins (ex G sub l ρ)) E s
def SSs (X:Cx) (p:Pm) (G:Nat->List D->R D) (sub:Nat->Nat->Bool) (st:List Stmt) (l:List S):Prop :=
 ∀(H0:Hp) (O0:List Addr) (E:Value->Shared->Prop),PassesOwn (model X.prog X.w) X.A X.env E->∀(pins:List (Addr×Obj)) (s:Shared) (σ:L2.St) (H:Hp) (ρ:Ev.Env) (os:List (List Addr)),Inv X pins σ H s->Bd p H0 O0 ρ σ os H->
  exs G sub l ρ ≠ .stuck->(∀e s',Es X p H0 O0 pins (exs G sub l ρ) e s'->E e s')->wpAny (model X.prog X.w) X.A (execs st X.env) (Gs X p H0 O0 pins (exs G sub l ρ)) E s
theorem q2U {α:Type}{r:R α}{f:α->RS}(h:r.go ρ f ≠ .stuck):r ≠ .stuck:=λ e=>h (by rw[e];rfl)
theorem q2z {α:Type}{r:R α}{f:α->RS}{e:Value}{s':Shared}(B:Bd p H0 O0 ρ σ os H) (h:Er X p pins σ H r e s'):Es X p H0 O0 pins (r.go ρ f) e s':=by obtain⟨c,e1,m⟩:=h;exact⟨c,ρ,σ,os,H,by rw[e1];rfl,B,m⟩
theorem qGE:SSs X p G sub [] []:=λ H0 O0 E _ pins s σ H ρ os I B _ _=>wpAny_execs_nil ⟨ρ,.nx,σ,os,H,rfl,B,I,trivial⟩
theorem qDl {st:Stmt}{sts:List Stmt}{l:S}{ls:List S}(h1:SS X p G sub st l) (h2:SSs X p G sub sts ls):SSs X p G sub (st::sts) (l::ls):=by
 intro H0 O0 E hp pins s σ H ρ os I B hs hE;have e0:exs G sub (l::ls) ρ=(ex G sub l ρ).nx λ ρ'=>exs G sub ls ρ':=rfl;rw[e0] at hs hE |-;have ns:ex G sub l ρ ≠ .stuck:=λ e=>hs (by rw[e];rfl);refine wpAny_execs_cons (thn (h1 H0 O0 E hp pins s σ H ρ os I B ns (λ e s' ⟨c,ρ',σ',os',H',e1,B1,m⟩=>hE e s' ⟨c,ρ',σ',os',H',by rw[e1];rfl,B1,m⟩)) λ f s1 q=>?_);obtain⟨ρ1,fl,σ1,os1,H1,e1,B1,I1,r1⟩:=q;rw[e1] at hs hE |-;cases fl<;>cases f<;>first|exact r1.elim|skip
 ·exact h2 H0 O0 E hp pins s1 σ1 H1 ρ1 os1 I1 B1 hs hE
 ·exact⟨_,_,σ1,os1,H1,rfl,B1,I1,r1⟩
 ·exact⟨_,_,σ1,os1,H1,rfl,B1,I1,r1⟩
 ·exact⟨_,_,σ1,os1,H1,rfl,B1,I1,r1⟩
theorem qGF:SS X p G sub (.Pass pos) .pass:=λ H0 O0 E _ pins s σ H ρ os I B _ _=>wpAny_Pass ⟨ρ,.nx,σ,os,H,rfl,B,I,trivial⟩
theorem qIx:SS X p G sub (.Break pos) .brk:=λ H0 O0 E _ pins s σ H ρ os I B _ _=>wpAny_Break ⟨ρ,.brk,σ,os,H,rfl,B,I,trivial⟩
theorem qGG:SS X p G sub (.Continue pos) .cont:=λ H0 O0 E _ pins s σ H ρ os I B _ _=>wpAny_Continue ⟨ρ,.cont,σ,os,H,rfl,B,I,trivial⟩
theorem qIy {x:Str}{j:Nat}{pos':Pos}:SS X p G sub (.Expr (.Constant (.str x) j pos) pos') .pass:=λ H0 O0 E _ pins s σ H ρ os I B _ _ =>
 wpAny_Expr (Calls.Constant_str (show Gs X p H0 O0 pins _ .next {s with toks:=s.toks+1} from⟨ρ,.nx,σ,os,H,rfl,B,I.tok _,trivial⟩)) I.quiet
theorem qGH (he:SE X p G sub e l) (hsw:swapsWith e none pos.line X.env=pure false):SS X p G sub (.Expr e pos) (.expr l):=by intro H0 O0 E hp pins s σ H ρ os I B hs hE;have e0:ex G sub (.expr l) ρ=(ev G sub l ρ).go ρ λ _=> .ok ρ .nx:=rfl;rw[e0] at hs hE |-;refine wpAny_Expr_any (wpAny_mono (he pins s σ H ρ _ I B.rel (q2U hs)) (λ v s1 ⟨d,x,H1,e1,I1,r1,x1,q1⟩=>?_) (λ e s' z=>hE e s' (q2z B z))) I.quiet hsw;rw[e1];exact⟨ρ,.nx,σ,os,H1,rfl,B.mono x1,I1,trivial⟩
theorem qF3 (he:SE X p G sub e l):SS X p G sub (.Return (some e) pos) (.ret l):=by intro H0 O0 E hp pins s σ H ρ os I B hs hE;have e0:ex G sub (.ret l) ρ=(ev G sub l ρ).go ρ λ d=> .ok ρ (.ret d):=rfl;rw[e0] at hs hE |-;refine wpAny_Return_some (wpAny_mono (he pins s σ H ρ _ I B.rel (q2U hs)) (λ v s1 ⟨d,x,H1,e1,I1,r1,x1,q1⟩=>?_) (λ e s' z=>hE e s' (q2z B z)));rw[e1];exact⟨ρ,.ret d,σ,os,H1,rfl,B.mono x1,I1,x,r1,q1.mono qGD⟩
theorem qGI:SS X p G sub (.Return none pos) .retN:=λ H0 O0 E _ pins s σ H ρ os I B _ _=>wpAny_Return_none ⟨ρ,.ret .non,σ,os,H,rfl,B,I,.non,rfl,rfl⟩
theorem qIz {c:PySem.Expr}{a b:List Stmt}{lc:T}{la lb:List S}(hc:ST X p G sub c lc) (ha:SSs X p G sub a la) (hb:SSs X p G sub b lb):SS X p G sub (.If c a b pos) (.ifs lc la lb):=by
 intro H0 O0 E hp pins s σ H ρ os I B hs hE;have e0:ex G sub (.ifs lc la lb) ρ=(tst G sub lc ρ).go ρ λ t=>if t then exs G sub la ρ else exs G sub lb ρ:=rfl
 rw[e0] at hs hE |-;refine wpAny_If (wpAny_mono (hc _ pins s σ H ρ _ (.inl rfl) I B.rel (q2U hs)) (λ t s1 ⟨H1,e1,I1,x1⟩=>?_) (λ e s' z=>hE e s' (q2z B z)));rw[e1,q07] at hs hE |-;cases t with
 |true=>exact ha H0 O0 E hp pins s1 σ H1 ρ os I1 (B.mono x1) hs hE
 |false=>exact hb H0 O0 E hp pins s1 σ H1 ρ os I1 (B.mono x1) hs hE
theorem qJ0 {x:Str}{pos':Pos}(hN:X.N.Nodup) (hi:X.N[i]? = some x) (hx:Loc X.env.scope x) (hf:X.fn x=true\/X.env.scope.names.lookup x=some .local) (he:SE X p G sub e l)
  (hsw:swapsWith e (some (.Name x pos')) pos.line X.env=pure false):SS X p G sub (.Assign [.Name x pos'] e pos) (.set i l):=by
 intro H0 O0 E hp pins s σ H ρ os I B hs hE;have e0:ex G sub (.set i l) ρ=(ev G sub l ρ).go ρ λ d=> .ok (ρ.set i (some (.val d))) .nx:=rfl;rw[e0] at hs hE |-;refine wpAny_Assign_Name (wpAny_mono (he pins s σ H ρ _ I B.rel (q2U hs)) (λ v s1 ⟨d,y,H1,e1,I1,r1,x1,q1⟩=>?_) (λ e s' z=>hE e s' (q2z B z))) hsw;rw[e1];have lt:i < ρ.length:=by rw[<-B.slen,I.len];exact (Qd.mp hi).1
 exact q0q I1 hN hi hx r1 (λ s2 I2=>⟨_,.nx,_,_,H1,rfl,(B.mono x1).setV lt q1,I2,trivial⟩) hf
theorem BOk.qDm {pl:List (Addr×Obj)}{B:Heap}(b:BOk X (pins++pl) H B):BOk X pins H B :=
 ⟨b.hok,b.keep,b.there,λ q hq=>b.pin q ((Qq.mp hq).elim (λ z=>QB _ z) λ z=>Qp _ (QB _ z))⟩
theorem Mid.qDm {pl:List (Addr×Obj)}{c:Nat}{e:Value}{s':Shared}(m:Mid X p (pins++pl) σ H c e s'):Mid X p pins σ H c e s':=by
 obtain⟨H',a,C,h1,h2,h3,h4⟩:=m;refine⟨H',a,C,h1,h2,h3,?_⟩;rcases h4 with ⟨s1,vs,q1,q2⟩|⟨B,t,q1,q2,q3⟩|⟨B,t,L,q0,q1,q2,q3⟩
 ·exact .inl ⟨s1,vs,q1.q1A,q2⟩
 ·exact .inr (.inl ⟨B,t,q1.q1A,q2.qDm,q3⟩)
 ·exact .inr (.inr ⟨B,t,L,q0,q1.q1A,q2.qDm,q3⟩)
theorem qJ1 {c:PySem.Expr}{body:List Stmt}{lc:T}{lb:List S}(hc:ST X p G sub c lc) (hb:SSs X p G sub body lb):SS X p G sub (.While c body [] pos) (.whl lc lb):=by
 intro H0 O0 E hp pins s σ H ρ os I B hs hE;have e0:ex G sub (.whl lc lb) ρ=q1R (tst G sub lc) (exs G sub lb) 100000 ρ:=rfl;rw[e0] at hs hE |-;generalize hr:q1R (tst G sub lc) (exs G sub lb) 100000 ρ=r at hs hE |-;refine wpAny_While (codeAny_whileLoop (λ n s'=>∃ρ' σ' os' H',Inv X pins σ' H' s'/\Bd p H0 O0 ρ' σ' os' H'/\q1R (tst G sub lc) (exs G sub lb) n ρ'=r) ?_ 100000 ⟨ρ,σ,os,H,I,B,hr⟩);rintro n s1 ⟨ρ1,σ1,os1,H1,I1,B1,w1⟩;cases n with
 |zero=>exact absurd w1.symm hs
 |succ n =>
  have w2:q1R (tst G sub lc) (exs G sub lb) (n+1) ρ1=(tst G sub lc ρ1).go ρ1 λ t=>if t then (exs G sub lb ρ1).turn λ ρ'=>q1R (tst G sub lc) (exs G sub lb) n ρ' else .ok ρ1 .nx:=rfl
  rw[w2] at w1;have ns:tst G sub lc ρ1 ≠ .stuck:=λ e=>hs (by rw[<-w1,e];rfl);refine wpAny_passesOwn hp (wpAny_mono (hc _ pins s1 σ1 H1 ρ1 _ (.inl rfl) I1 B1.rel ns) (λ t s2 ⟨H2,e2,I2,x2⟩=>?_) (λ e s' z=>hE e s' (by rw[<-w1];exact q2z B1 z)));rw[e2,q07] at w1;cases t with
  |true =>
   rw[if_pos rfl] at w1 |-;have ns:exs G sub lb ρ1 ≠ .stuck:=λ e=>hs (by rw[<-w1,e];rfl);refine wpAny_passesOwn hp (thn (hb H0 O0 E hp pins s2 σ1 H2 ρ1 os1 I2 (B1.mono x2) ns (λ e s' ⟨c,ρ',σ',os',H',e1,B1,m⟩=>hE e s' ⟨c,ρ',σ',os',H',by rw[<-w1,e1];rfl,B1,m⟩)) λ f s3 q3=>?_);obtain⟨ρ3,fl,σ3,os3,H3,e3,B3,I3,r3⟩:=q3;rw[e3] at w1;cases fl<;>cases f<;>first|exact r3.elim|skip
   ·exact⟨n,Jf _,ρ3,σ3,os3,H3,I3,B3,w1⟩
   ·exact⟨ρ3,.nx,σ3,os3,H3,w1.symm,B3,I3,trivial⟩
   ·exact⟨n,Jf _,ρ3,σ3,os3,H3,I3,B3,w1⟩
   ·exact⟨ρ3,_,σ3,os3,H3,w1.symm,B3,I3,r3⟩
  |false =>
   rw[if_neg Bool.false_ne_true] at w1 |-;exact wpAny_execs_nil ⟨ρ1,.nx,σ1,os1,H2,w1.symm,B1.mono x2,I2,trivial⟩
end
end Snd
namespace Snd
open PySem PySem.Spec PyProof.Rows L2 Ev
variable {Hf H H0:Hp}{vs:List V}{K:PySem.W.Frag}{d:Addr}{o:Obj}{kvs:List (Key×V)}{P:Program}{w:World}{u:Value}{i:Nat}{tg:PySem.Expr}{E:Value->Shared->Prop}{pins:List (Addr×Obj)}{s:Shared}{σ:L2.St}{os:List (List Addr)}{v:V}{l:L}{pos:Pos}{O0:List Addr}{ρ:Ev.Env}
structure Wk (J:It) (Hf:Hp) (vs:List V):Prop where
 go:∀i H',Ext Hf H'->i<vs.length->J.go i H'
 yld:∀i H' x H'',Ext Hf H'->i<vs.length->J.yld i H' x H''->H''=H'/\vs[i]? = some x
 stop:∀H',Ext Hf H'->J.stop vs.length H'
theorem Wk.mono {J:It}{Hf':Hp}(k:Wk J Hf vs) (x:Ext Hf Hf'):Wk J Hf' vs :=
 ⟨λ i H' y=>k.go i H' (x.trans y),λ i H' v H'' y=>k.yld i H' v H'' (x.trans y),λ H' y=>k.stop H' (x.trans y)⟩
theorem qGJ {a:Addr}(h:SqL K Hf a vs):Wk (Itl K a) Hf vs :=
 ⟨λ i H' x hi=>⟨vs,vs[i],x.sqL h,by simp[hi]⟩,λ i H' v H'' x _ y=>⟨y.1,y.2 vs (x.sqL h)⟩,λ H' x=>⟨vs,x.sqL h,Qi _⟩⟩
theorem qJ2 {a:Addr}(h:SqT K Hf a vs):Wk (Itt K a) Hf vs :=
 ⟨λ i H' x hi=>⟨vs,vs[i],x.sqT h,by simp[hi]⟩,λ i H' v H'' x _ y=>⟨y.1,y.2 vs (x.sqT h)⟩,λ H' x=>⟨vs,x.sqT h,Qi _⟩⟩
theorem qF4 (lo:Int) (n:Nat):Wk (Itr lo n) Hf ((Qk n).map λ (k:Nat)=>V.int (lo+k)):=by
 refine⟨λ i H' _ hi=>?_,λ i H' v H'' _ hi y=>⟨y.1,?_⟩,λ H' _=>?_⟩
 ·show i<n;simpa using hi
 ·have hi':i<n:=by simpa using hi
  rw[y.2];simp[hi']
 ·show n<=_;simp
def Itd (d:Addr) (o:Obj) (kvs:List (Key×V)):It :=
 ⟨λ i H=>H d=some (.frz o (.dK kvs))/\i<kvs.length,λ i H x H'=>H'=H/\∃q,kvs[i]? = some q/\x=kV q.1,λ i H=>H d=some (.frz o (.dK kvs))/\kvs.length<=i⟩
theorem qGK (h:Hf d=some (.frz o (.dK kvs))):Wk (Itd d o kvs) Hf (kvs.map λ q=>kV q.1):=by refine⟨λ i H' x hi=>⟨x _ _ h,by simpa using hi⟩,λ i H' v H'' x _ y=>⟨y.1,?_⟩,λ H' x=>⟨x _ _ h,by simp⟩⟩;obtain⟨q,e1,e2⟩:=y.2;rw[Qt,e1,e2];rfl
theorem qJ3 {k:Key}(h:(q0k P w).is k u=true):RelV (kV k) u:=by
 rcases q0S h with ⟨i,t,rfl,rfl⟩|⟨x,t,rfl,rfl⟩
 ·exact⟨t,rfl⟩
 ·exact⟨t,rfl⟩
theorem q6P {h:Heap}(ok:HOk P w H h) (e:H d=some (.frz o (.dK kvs))) :
  kvs.length<=sizeLine/\(d==sysModules)=false/\∃vs es ep,KV kvs vs/\o.data = .dict es ep/\h.DictAt (q0k P w) d vs ep:=by
 obtain⟨h1,z,hd,vs,rel,o',es,ep,h2,h3,h4,h5,h6,h7⟩:=ok d _ e;rw[h1] at h2;cases h2;exact⟨z,hd,vs,es,ep,rel,h4,o,es,h1,h3,h4,h5,h6,h7⟩
theorem KV.key {vs:List (Key×Value)}(r:KV kvs vs) {q:Key×V}(e:kvs[i]? = some q):∃u,vs[i]? = some (q.1,u):=by
 induction r generalizing i with
 |nil=>simp at e
 |@cons p p' ps ps' h t ih =>
  cases i with
  |zero=>simp at e;subst e;exact⟨p'.2,by simp[h.1]⟩
  |succ i=>simpa using ih (by simpa using e)
theorem qBc {tg:Expr}{it:Addr}{es:Array DictEntry}{ep:Nat}(hd:o.data = .dict es ep) :
  Turn P w K tg (Itd d o kvs) [it] it (λ i h=>h.IsKeyIter it d i kvs.length ep) where
 mem:=by simp
 obj:=λ i h st b hb=>by
  have e:b=it:=by simpa using hb
  subst e;obtain⟨o,e,c,d⟩:=st;exact⟨o,e,λ v z=>by rw[d] at z;cases z⟩
 keep:=λ i h h' st k=>st.at λ o e=>k it (by simp) o e
 item:=by intro X hP hw hK hc i pins s σ H E I hf st hg;subst hP hw hK;obtain⟨hq,hi⟩:=hg;obtain⟨z,hd',vs,es',ep',rel,dd,hm⟩:=q6P I.hok hq;rw[hd] at dd;cases dd;have hl:=KV.length rel;obtain⟨u,hu⟩:=KV.key rel (i:=i) (q:=kvs[i]) (by simp[hi]);obtain⟨f0,f1,f2,f3,f4,f5⟩:=hf it (by simp);refine wpAny_pyNext_dict_item (hl▸st) hm hu λ key h' hkey st' sb=>?_;have I1:Inv X pins σ H {s with heap:=h'}:=I.turned (t':=s.toks) (λ b o hb e=>(sb.2 b hb).trans e) f0 f1 f3 f4 f5;obtain⟨o1,e,c,d1⟩:=id st';exact⟨key,rfl,qDJ (s:={s with heap:=h'}) e c d1 (by decide) ⟨kV (kvs[i]).1,H,I1,qJ3 hkey,⟨rfl,_,by simp[hi],rfl⟩,hl▸st',λ b hb=>(hf b hb).1⟩⟩
 done:=by intro X hP hw hK hc i pins s σ H E I hf st hg;subst hP hw hK;obtain⟨hq,hi⟩:=hg;obtain⟨z,hd',vs,es',ep',rel,dd,hm⟩:=q6P I.hok hq;rw[hd] at dd;cases dd;have hl:=KV.length rel;obtain⟨f0,f1,f2,f3,f4,f5⟩:=hf it (by simp);exact wpAny_pyNext_dict_end (I.ok.hd hc) (hl▸st) hm (by rw[Jb];lia) λ h' eb=>⟨rfl,I.turned (t':=s.toks) (λ b o hb e=>eb b o hb e) f0 f1 f3 f4 f5⟩
 self:=λ _ _ _ _ _ st h=>wpAny_pyIter_keyiter st h
def Gi (X:Cx) (p:Pm) (fr:Bool) (tg:Expr) (pins:List (Addr×Obj)) (σ:L2.St) (os:List (List Addr)) (H:Hp) (r:R (List D)) (itv:Value) (s2:Shared):Prop :=
 ∃ds,r = .ok ds/\PIE X pins σ tg (λ J H'=>Ext H H'/\∃vs,RepL p (fz os.flatten H') ds vs/\Wk J (if fr then fz os.flatten H' else H') vs) itv s2
def SI (X:Cx) (p:Pm) (G:Nat->List D->R D) (sub:Nat->Nat->Bool) (fr:Bool) (tg e:PySem.Expr) (l:I):Prop :=
 ∀(pins:List (Addr×Obj)) (s:Shared) (σ:L2.St) (H:Hp) (ρ:Ev.Env) (os:List (List Addr)),Inv X pins σ H s->Rel p ρ σ os H->evi G sub l ρ ≠ .stuck->
  wpAny (model X.prog X.w) X.A (eval e X.env) (λ v s1=>wpAny (model X.prog X.w) X.A (pyIter v) (Gi X p fr tg pins σ os H (evi G sub l ρ)) (Er X p pins σ H (evi G sub l ρ)) s1) (Er X p pins σ H (evi G sub l ρ)) s
section
variable {X:Cx}{p:Pm}{G:Nat->List D->R D}{sub:Nat->Nat->Bool}
theorem q6Q {Hf:Hp}:∀{kvs:List (Key×V)},(ints? (kvs.map λ q=>keyD q.1)).isSome=true->RepL p Hf (kvs.map λ q=>keyD q.1) (kvs.map λ q=>kV q.1)
 |[],_=>rfl
 |(.inl i,v)::r,h=>by refine⟨.int i,_,rfl,rfl,q6Q ?_⟩;have h':((ints? (r.map λ q=>keyD q.1)).map (i::·)).isSome=true:=h;simpa using h'
 |(.inr x,v)::r,h=>by simp[keyD,ints?] at h
theorem q9R {fr:Bool}{tg:Expr}(hK:p.K=X.K) {xs:List D}(I:Inv X pins σ H s) (x0:Ext H0 H) (rv:RelV v u)
  (q:Rep p (fz os.flatten H) (.tup xs) v):wpAny (model X.prog X.w) X.A (pyIter u) (Gi X p fr tg pins σ os H0 (.ok xs)) E s:=by
 obtain⟨a,vs,rfl,s1,z,r1⟩:=q;cases rv;have s1':SqT X.K H a vs:=hK▸q0Y.sqT s1;obtain⟨its,rv,pt,hz⟩:=I.tuple s1';refine wpAny_pyIter_tuple (show s.heap.IsTuple a its.toArray from pt) ?_;refine⟨xs,rfl,s.heap.objs.size,[s.heap.objs.size],_,_,H,rfl,I.kept (t':=s.toks) λ b o e=>Heap.get?_push_of_some _ e,qAE a _,⟨_,Heap.get?_push_size _ rfl,rfl,rfl⟩,λ b hb=>?_,x0,vs,r1,?_⟩
 ·have e:b=s.heap.objs.size:=by simpa using hb
  subst e;exact I.fpOk (Qi _) (I.hok.fresh (Qi _))
 ·have:=qJ2 (hK▸s1:SqT X.K (fz os.flatten H) a vs);cases fr
  ·exact this.mono q0Y
  ·exact this
theorem q9S {fr:Bool}{tg:Expr}(hK:p.K=X.K) {xs:List D}(I:Inv X pins σ H s) (x0:Ext H0 H) (rv:RelV v u)
  (q:∃a vs,v = .ref a/\SqL p.K (if fr then fz os.flatten H else H) a vs/\RepL p (fz os.flatten H) xs vs):wpAny (model X.prog X.w) X.A (pyIter u) (Gi X p fr tg pins σ os H0 (.ok xs)) E s:=by
 obtain⟨a,vs,rfl,s1,r1⟩:=q;cases rv;have s1':SqL X.K H a vs:=by
  cases fr
  ·exact hK▸s1
  ·exact hK▸q0Y.sqL s1
 obtain⟨its,rv,pt,hz⟩:=I.list s1';refine wpAny_pyIter_list pt.isList ?_;refine⟨xs,rfl,s.heap.objs.size,[s.heap.objs.size],_,_,H,rfl,I.kept (t':=s.toks) λ b o e=>Heap.get?_push_of_some _ e,qAw a _,⟨_,Heap.get?_push_size _ rfl,rfl,rfl⟩,λ b hb=>?_,x0,vs,r1,?_⟩
 ·have e:b=s.heap.objs.size:=by simpa using hb
  subst e;exact I.fpOk (Qi _) (I.hok.fresh (Qi _))
 ·exact qGJ (hK▸s1)
theorem qDn {tg:Expr}{ks ws:List D}(I:Inv X pins σ H s) (x0:Ext H0 H) (rv:RelV v u) (hki:(ints? ks).isSome=true)
  (q:Rep p (fz os.flatten H) (.dct ks ws) v):wpAny (model X.prog X.w) X.A (pyIter u) (Gi X p true tg pins σ os H0 (.ok ks)) E s:=by
 obtain⟨a,kvs,o,rfl,s1,rfl,r1⟩:=q;cases rv;obtain⟨z,hd,vs,es,ep,rel,dd,hm⟩:=q6P I.hok (q0Y _ _ s1);refine wpAny_pyIter_dict hd hm ?_;have hl:=KV.length rel;refine⟨_,rfl,s.heap.objs.size,[s.heap.objs.size],_,Itd a o kvs,H,rfl,I.kept (t':=s.toks) λ b o e=>Heap.get?_push_of_some _ e,qBc dd,⟨_,Heap.get?_push_size _ rfl,rfl,by rw[hl];rfl⟩,λ b hb=>?_,x0,_,q6Q hki,qGK s1⟩;have e:b=s.heap.objs.size:=by simpa using hb
 subst e;exact I.fpOk (Qi _) (I.hok.fresh (Qi _))
theorem si_e {e:PySem.Expr}(hK:p.K=X.K) (h:SE X p G sub e l):SI X p G sub true tg e (.e l):=by
 intro pins s σ H ρ os I R hs;rw[q2l] at hs |-;refine wpAny_mono (h pins s σ H ρ os I R (q0C hs)) (λ v s1 ⟨d,x,H1,e1,I1,r1,x1,q1⟩=>?_) (λ e s' z=>z.bind);rw[e1,q00] at hs |-;cases d<;>first
  |exact absurd rfl hs
  |skip
 ·exact q9R hK I1 x1 r1 q1
 ·exact q9S (fr:=true) hK I1 x1 r1 q1
 ·rename_i ks ws;cases hki:(ints? ks).isSome with
  |true =>
   have e0:q0W (.dct ks ws) = .ok ks:=(by simp[q0W,hki]);rw[e0];exact qDn I1 x1 r1 hki q1
  |false=>exact absurd (by simp[q0W,hki]) hs
theorem si_b {x:Str}(hK:p.K=X.K) (hN:X.N[i]? = some x) (hv:Vis X.env.scope x) (hd:(x==("__debug__":Str))=false) (hcd:(x==("__classdict__":Str))=false):SI X p G sub false tg (.Name x pos) (.b i):=by
 intro pins s σ H ρ os I R hs;rw[qIR] at hs |-;refine wpAny_mono (qF1 (G:=G) (sub:=sub) hN hv hd hcd pins s σ H ρ os I R (q0C hs)) (λ v s1 ⟨d,x,H1,e1,I1,r1,x1,q1⟩=>?_) (λ e s' z=>z.bind);rw[qEr] at e1;rw[e1,q00] at hs |-;cases d<;>first
  |exact absurd rfl hs
  |skip
 ·exact q9R hK I1 x1 r1 q1
 ·exact q9S (fr:=false) hK I1 x1 r1 q1
theorem q6R {Hf:Hp}(lo:Int):∀(l:List Nat),RepL p Hf (l.map λ (k:Nat)=>D.int (lo+k)) (l.map λ (k:Nat)=>V.int (lo+k))
 |[]=>rfl
 |k::l=>⟨_,_,rfl,rfl,q6R lo l⟩
theorem rng0 (n:Nat):(Qk n).map (λ (k:Nat)=>D.int k)=(Qk n).map (λ (k:Nat)=>D.int (0+k)):=by simp
theorem q8W {ρ:Ev.Env}:∀{ls:List L}{ds:List D},evs G sub ls ρ = .ok ds->ds.length=ls.length
 |[],ds,e=>by cases e;rfl
 |l::ls,ds,e=>by
  rw[q0H] at e;cases h:ev G sub l ρ with
  |ok d =>
   rw[h,q00] at e;cases h2:evs G sub ls ρ with
   |ok ds'=>rw[h2,q00] at e;cases e;simp[q8W h2]
   |err c=>rw[h2] at e;cases e
   |stuck=>rw[h2] at e;cases e
  |err c=>rw[h] at e;cases e
  |stuck=>rw[h] at e;cases e
theorem q53 {a:PySem.Expr}{q:Pos}(hg:Gl X "range") (hm:X.mg "range" = none) (ha:SA X p G sub [a] [l]) (hst:starEach [a] X.env=[(false,eval a X.env)]):SI X p G sub true tg (.Call (.Name "range" q) [a] [] pos) (.rng [l]):=by
 intro pins s σ H ρ os I R hs;rw[q1T] at hs |-;refine Call_ (q1r I hg hm boot_range (PyProof.Rows.callWith_type1 (wpAny_mono (ha pos pins s σ H ρ os I R (q0C hs)) (λ us s1 ⟨ds,vs,H1,e1,I1,r1,x1,q1⟩=>?_) (λ e s' z=>z.bind)) hst rfl));have hl:=q8W e1;rw[e1,q00] at hs |-;unfold rngD at hs |-;split at hs
 ·rename_i j;split at hs
  ·rename_i hj;obtain⟨v,r,rfl,h1,h2⟩:=q1;cases (show v=_ from h1);cases (show r=[] from h2);cases r1 with
   |cons ra rb =>
    cases rb;obtain⟨t,rfl⟩:=ra;rw[if_pos hj];refine call_range_1 (wpAny_mono (q96 (tg:=tg) (R:=λ J H'=>H'=H1/\J=Itr 0 j.toNat) (E:=λ _ _=>False) I1 (by lia) (by lia) hj.1 hj.2 ⟨rfl,by simp⟩) (λ itv s2 h=>?_) (λ _ _ z=>z.elim));obtain⟨it,fp,tn,J,H',e2,I2,T,st,f,rfl,rfl⟩:=h;refine⟨_,rfl,it,fp,tn,_,H',e2,I2,T,st,f,x1,_,?_,(qF4 0 j.toNat)⟩;rw[rng0];exact q6R 0 _
  ·exact absurd rfl hs
 ·simp at hl
 ·exact absurd rfl hs
theorem q7P {a b:PySem.Expr}{m:L}{q:Pos}(hg:Gl X "range") (hm:X.mg "range" = none) (ha:SA X p G sub [a,b] [l,m]) (hst:starEach [a,b] X.env=[(false,eval a X.env),(false,eval b X.env)]) (hs2:starEach [b] X.env=[(false,eval b X.env)]) :
  SI X p G sub true tg (.Call (.Name "range" q) [a,b] [] pos) (.rng [l,m]):=by
 intro pins s σ H ρ os I R hs;rw[q1T] at hs |-;refine Call_ (q1r I hg hm boot_range (PyProof.Rows.callWith_type1 (wpAny_mono (ha pos pins s σ H ρ os I R (q0C hs)) (λ us s1 ⟨ds,vs,H1,e1,I1,r1,x1,q1⟩=>?_) (λ e s' z=>z.bind)) (by rw[hst,hs2]) (by rw[hs2];rfl)));have hl:=q8W e1;rw[e1,q00] at hs |-;unfold rngD at hs |-;split at hs
 ·simp at hl
 ·rename_i i j;split at hs
  ·rename_i hj;obtain⟨v,r,rfl,h1,h2⟩:=q1;obtain⟨v2,r2,rfl,h3,h4⟩:=h2;cases (show v=_ from h1);cases (show v2=_ from h3);cases (show r2=[] from h4);cases r1 with
   |cons ra rb =>
    cases rb with
    |cons rc rd =>
    cases rd;obtain⟨t,rfl⟩:=ra;obtain⟨t',rfl⟩:=rc;rw[if_pos hj];refine call_range_2 (wpAny_mono (q96 (tg:=tg) (R:=λ J H'=>H'=H1/\J=Itr i (j-i).toNat) (E:=λ _ _=>False) I1 hj.1 hj.2.1 hj.2.2.1 hj.2.2.2 ⟨rfl,rfl⟩) (λ itv s2 h=>?_) (λ _ _ z=>z.elim));obtain⟨it,fp,tn,J,H',e2,I2,T,st,f,rfl,rfl⟩:=h;exact⟨_,rfl,it,fp,tn,_,H',e2,I2,T,st,f,x1,_,q6R i _,(qF4 i (j-i).toNat)⟩
  ·exact absurd rfl hs
 ·exact absurd rfl hs
def SG (X:Cx) (p:Pm) (tg:PySem.Expr) (k:Nat) (is:List Nat):Prop :=
 ∀(E:Value->Shared->Prop) (H0:Hp) (O0:List Addr) (pins:List (Addr×Obj)) (s:Shared) (σ:L2.St) (H:Hp) (ρ:Ev.Env) (os:List (List Addr)) (d:D) (xs:List D) (v:V) (u:Value),Inv X pins σ H s->Bd p H0 O0 ρ σ os H->RelV v u->
  Rep p (fz (os++[O0]).flatten H) d v->unp k d = .ok xs->wpAny (model X.prog X.w) X.A (assign tg X.env u) (λ _ s'=>∃σ' os',Inv X pins σ' H s'/\Bd p H0 O0 (q2p is xs ρ) σ' os' H) E s
theorem qGL {x:Str}(hN:X.N.Nodup) (hi:X.N[i]? = some x) (hx:Loc X.env.scope x) (hf:X.fn x=true\/X.env.scope.names.lookup x=some .local):SG X p (.Name x pos) 0 [i]:=by
 intro E H0 O0 pins s σ H ρ os d xs v u I B rv q e;cases e;have lt:i < ρ.length:=by rw[<-B.slen,I.len];exact (Qd.mp hi).1
 exact wpAny_assign_Name (q0q I hN hi hx rv (λ s2 I2=>⟨_,_,I2,B.setV lt q⟩) hf)
theorem Bd.refr (b:Bd p H0 O0 ρ σ os H):Bd p (fz os.flatten H) O0 ρ σ os H/\Ext H0 (fz os.flatten H) :=
 ⟨⟨b.rel,b.len,b.slen,q0Y,λ a ha=>by unfold fz;rw[if_pos ha]⟩,λ a o e=>q25 (b.ext a o e) λ m=>by rw[b.new a m] at e;cases e⟩
theorem Bd.back {H0':Hp}(b:Bd p H0' O0 ρ σ os H) (x:Ext H0 H0'):Bd p H0 O0 ρ σ os H :=
 ⟨b.rel,b.len,b.slen,x.trans b.ext,λ a ha=>by
  cases e:H0 a with
  |none=>rfl
  |some o=>have:=x a o e;rw[b.new a ha] at this;cases this⟩
theorem Bd.kept {os2:List (List Addr)}{H2:Hp}(b:Bd p (fz os2.flatten H2) O0 ρ σ os H):Ext (fz (os2++[O0]).flatten H2) (fz (os++[O0]).flatten H):=λ a o e=>by
 unfold fz at e;split at e
 ·cases e
 ·rename_i n;rw[q0m] at n;have e':fz os2.flatten H2 a=some o:=q25 e λ m=>n (QB _ m);refine q25 (b.ext a o e') λ m=>?_;rw[q0m] at m;rcases Qq.mp m with m|m
  ·rw[b.new a m] at e';cases e'
  ·exact n (Qp _ m)
theorem qGM (k:Nat) (d:D):unp k d = .stuck\/∃xs,unp k d = .ok xs:=by
 unfold unp;split
 ·exact .inr ⟨_,rfl⟩
 ·split
  ·split
   ·exact .inr ⟨_,rfl⟩
   ·exact .inl rfl
  ·exact .inl rfl
theorem qJ4 {iter:PySem.Expr}{body:List Stmt}{k:Nat}{is:List Nat}{li:I}{lb:List S}(hc:X.calm=true) (hi:SI X p G sub true tg iter li) (hg:SG X p tg k is) (hb:SSs X p G sub body lb) (hfs:∀x,foldedSetIterable iter X.env x=pure x) :
  SS X p G sub (.For tg iter body [] pos) (.forr k is li lb):=by
 intro H0 O0 E hp pins s σ H ρ os I B hs hE;have e0:ex G sub (.forr k is li lb) ρ=(evi G sub li ρ).go ρ λ ds=>q0z (exs G sub lb) k is ds ρ:=rfl;rw[e0] at hs hE |-;refine wpAny_For (wpAny_mono (hi pins s σ H ρ _ I B.rel (q2U hs)) (λ v s1 h1=>wpAny_mono h1 (λ itv s2 h2=>?_) (λ e s' z=>hE e s' (q2z B z))) (λ e s' z=>hE e s' (q2z B z))) hfs;obtain⟨ds,e1,it,fp,tn,J,H2,rfl,I2,T,st2,f2,x2,vs,rep,wk⟩:=h2;rw[e1,q07] at hs hE |-;rw[if_pos rfl] at wk;have B2:=B.mono x2;obtain⟨B2',x02⟩:=B2.refr;have hlen:ds.length=vs.length:=rep.length;generalize hr:q0z (exs G sub lb) k is ds ρ=r at hs hE |-;have stat:∀{H':Hp},(∀b∈fp,H' b=none)->∀b∈fp,FpOk X pins H' b:=λ hn b hb=>⟨hn b hb,(f2 b hb).2⟩
 refine codeAny_forLoop_any (λ n s'=>∃i ρ' σ' os' H',Inv X pins σ' H' s'/\tn i s'.heap/\(∀b∈fp,H' b=none)/\Bd p (fz os.flatten H2) O0 ρ' σ' os' H'/\q0z (exs G sub lb) k is (ds.drop i) ρ'=r/\n=ds.length-i/\i<=ds.length) ?_ ds.length
  ⟨0,ρ,σ,os,H2,I2,st2,λ b hb=>(f2 b hb).1,B2',by simpa using hr,by simp,QM _⟩
 rintro n s3 ⟨i,ρ3,σ3,os3,H3,I3,st3,fr3,B3,w3,rfl,hi3⟩;have xw:Ext (fz (os++[O0]).flatten H2) H3:=B3.kept.trans q0Y
 by_cases hlt:i<ds.length
 ·have hd:ds.drop i=ds[i]::ds.drop (i+1):=List.drop_eq_getElem_cons hlt;rw[hd] at w3;have w3':(unp k ds[i]).go ρ3 (λ xs=>(exs G sub lb (q2p is xs ρ3)).turn λ ρ'=>q0z (exs G sub lb) k is (ds.drop (i+1)) ρ')=r:=w3;rcases qGM k ds[i] with hu|⟨xs,hu⟩
  ·rw[hu] at w3';exact absurd w3'.symm hs
  rw[hu,q07] at w3';refine wpAny_passesOwn hp (wpAny_mono (T.item X rfl rfl rfl hc i pins s3 σ3 H3 E I3 (stat fr3) st3 (wk.go i H3 xw (hlen▸hlt))) (λ r4 s4 ⟨u,hr4,h4⟩=>?_) (λ _ _ z=>z));subst hr4;refine wpAny_passesOwn hp (wpAny_mono h4 (λ _ s5 ⟨x,H5,I5,r5,y5,st5,fr5⟩=>?_) (λ _ _ z=>z));obtain⟨rfl,hx⟩:=wk.yld i H3 x H5 xw (hlen▸hlt) y5;obtain⟨v',hv',rv'⟩:=rep.get (i:=i) (d:=ds[i]) (by simp[hlt]);rw[hx] at hv';cases hv';have I5':=I5.pinned (stat fr5) (T.obj _ _ st5);refine wpAny_passesOwn hp (wpAny_mono (hg E _ O0 _ s5 σ3 H5 ρ3 os3 ds[i] xs x u I5' B3 r5 (rv'.mono B3.kept) hu) (λ _ s6 ⟨σ6,os6,I6,B6⟩=>?_) (λ _ _ z=>z));have ns:exs G sub lb (q2p is xs ρ3) ≠ .stuck:=λ e=>hs (by rw[<-w3',e];rfl);refine wpAny_passesOwn hp (wpAny_mono (hb _ O0 E hp _ s6 σ6 H5 (q2p is xs ρ3) os6 I6 B6 ns (λ e s' z=>hE e s' ?_)) (λ f s7 q7=>?_) (λ _ _ z=>z))
  ·obtain⟨c,ρ',σ',os',H',z1,z2,z3⟩:=z;exact⟨c,ρ',σ',os',H',by rw[<-w3',z1];rfl,z2.back x02,z3.qDm⟩
  ·obtain⟨ρ7,fl,σ7,os7,H7,e7,B7,I7,r7⟩:=q7;rw[e7] at w3';have again:q0z (exs G sub lb) k is (ds.drop (i+1)) ρ7=r->∃m,m<ds.length-i/\∃i ρ' σ' os' H',Inv X pins σ' H' s7/\tn i s7.heap/\(∀b∈fp,H' b=none)/\Bd p (fz os.flatten H2) O0 ρ' σ' os' H'/\q0z (exs G sub lb) k is (ds.drop i) ρ'=r/\m=ds.length-i/\i<=ds.length:=λ w7=>by refine⟨ds.length-(i+1),by lia,i+1,ρ7,σ7,os7,H7,I7.q1A,T.keep _ _ _ st5 λ b hb o e=>(I7.pin (b,o) (Qp _ (Qp _ (q1c hb e)))).1,λ b hb=>?_,B7,w7,rfl,hlt⟩;obtain⟨o,e,d⟩:=T.obj _ _ st5 b hb;exact (I7.pin (b,o) (Qp _ (Qp _ (q1c hb e)))).2.1
   cases fl<;>cases f<;>first|exact r7.elim|skip
   ·exact again w3'
   ·exact⟨ρ7,.nx,σ7,os7,H7,w3'.symm,B7.back x02,I7.q1A,trivial⟩
   ·exact again w3'
   ·exact⟨ρ7,_,σ7,os7,H7,w3'.symm,B7.back x02,I7.q1A,r7⟩
 ·have ei:i=ds.length:=by lia
  subst ei;refine wpAny_passesOwn hp (wpAny_mono (T.done X rfl rfl rfl hc ds.length pins s3 σ3 H3 E I3 (stat fr3) st3 (hlen▸wk.stop H3 xw)) (λ r4 s4 ⟨hr4,I4⟩=>?_) (λ _ _ z=>z));subst hr4;rw[List.drop_length] at w3;exact wpAny_execs_nil ⟨ρ3,.nx,σ3,os3,H3,w3.symm,B3.back x02,I4,trivial⟩
end
end Snd
namespace Snd
open PySem PySem.Spec PyProof.Rows L2 Ev
variable {pins:List (Addr×Obj)}{σ:L2.St}{H2:Hp}{s2:Shared}{sc:Scope}{ts:List Str}{fp:List Addr}{pos:Pos}
noncomputable def cxC (X:Cx) (s2:Shared) (H2:Hp) (sc:Scope) (cl:List (Str×Addr)) (C:Addr) (N':List Str) (fp:List Addr):Cx :=
 {X with N:=N',s₀:=s2,H₀:=H2,env:=compEnvC sc cl C X.env,outer:=X.stack,ex:=fp,fn:=λ x=>sc.names.lookup x==some .cell,pn:=[],xe:=λ _ _=>False}
theorem q6S (scope:Scope) (env:PySem.Env):∀(l:List (Str×NameKind)) (cs:List (Str×Addr)),(∀x∈l,x.2 = .free->∃c,env.cells.lookup x.1=some c)->
  ∃cl,(forIn l cs λ x r=>do
   if (x.2==NameKind.free)=true then do
    let a <-cellOf env x.1
    pure (ForInStep.yield ((x.1,a)::r))
   else pure (ForInStep.yield r):Sem (List (Str×Addr)))=pure cl/\(∀y c,cl.lookup y=some c->cs.lookup y=some c\/env.cells.lookup y=some c)/\(∀x∈l,x.2 = .free->∃c,cl.lookup x.1=some c)/\∀y c,cs.lookup y=some c->∃c',cl.lookup y=some c':=by
 intro l
 induction l with
 |nil=>intro cs _;exact⟨cs,rfl,λ y c h=> .inl h,λ x hx=>absurd hx (by simp),λ y c h=>⟨c,h⟩⟩
 |cons x l ih =>
  intro cs h;obtain⟨n,k⟩:=x
  by_cases hk:k = .free
  ·subst hk;obtain⟨c,hc⟩:=h (n,.free) Qb rfl;have hco:cellOf env n=pure c:=(by unfold cellOf;rw[hc]);obtain⟨cl,e,h1,h2,h3⟩:=ih ((n,c)::cs) (λ x hx=>h x (Qa _ hx));refine⟨cl,?_,λ y c' hy=>?_,λ x hx hf=>?_,λ y c' hy=>?_⟩
   ·rw[List.forIn_cons];simp only[beq_self_eq_true,if_true,hco];exact e
   ·rcases h1 y c' hy with z|z
    ·rw[QP] at z;cases hyn:y==n with
     |true=>rw[hyn] at z;cases z;rw[beq_iff_eq.mp hyn];exact .inr hc
     |false=>rw[hyn] at z;exact .inl z
    ·exact .inr z
   ·rcases Qf.mp hx with rfl|hx
    ·exact h3 n c (by simp[QP])
    ·exact h2 x hx hf
   ·cases hyn:y==n with
    |true=>exact h3 y c (by rw[QP,hyn])
    |false=>exact h3 y c' (by rw[QP,hyn];exact hy)
  ·have hb:(k==NameKind.free)=false:=(by simpa using hk);obtain⟨cl,e,h1,h2,h3⟩:=ih cs (λ x hx=>h x (Qa _ hx));refine⟨cl,?_,h1,λ x hx hf=>?_,h3⟩
   ·rw[List.forIn_cons];simp only[hb,QL,if_false];exact e
   ·rcases Qf.mp hx with rfl|hx
    ·exact absurd hf hk
    ·exact h2 x hx hf
theorem q41 {scope:Scope}{env:PySem.Env}(h:∀x∈scope.names,x.2 = .free->∃c,env.cells.lookup x.1=some c) :
  ∃cl,closureFor scope env=pure cl/\(∀y c,cl.lookup y=some c->env.cells.lookup y=some c)/\∀x∈scope.names,x.2 = .free->∃c,cl.lookup x.1=some c:=by
 obtain⟨cl,e,h1,h2,_⟩:=q6S scope env scope.names [] h;refine⟨cl,?_,λ y c hy=>(h1 y c hy).elim (λ z=>by simp at z) id,h2⟩;unfold closureFor;dsimp only;rw[e];rfl
theorem q0N (sc:Scope) (env:PySem.Env) (x:Str):(relabel sc env).names.lookup x=(sc.names.lookup x).map λ k=>if (k==NameKind.free&&env.scope.kind == .function&&env.kindOf x==some .cell)=true then NameKind.cell else k:=by
 unfold relabel;dsimp only
 induction sc.names with
 |nil=>rfl
 |cons q r ih =>
  obtain⟨n,k⟩:=q;rw[Qv];cases hx:x==n with
  |true =>
   have e:=beq_iff_eq.mp hx;subst e;dsimp only;split
   ·rename_i h;rw[QP,QP,hx];dsimp only;rw[Option.map_some,if_pos h]
   ·rename_i h;rw[QP,QP,hx];dsimp only;rw[Option.map_some,if_neg h]
  |false =>
   dsimp only;split
   ·rw[QP,QP,hx];exact ih
   ·rw[QP,QP,hx];exact ih
structure ScOk (X:Cx) (sc:Scope) (ts:List Str):Prop where
 kind:sc.kind = .function
 cell:∀y∈sc.names,y.2 = .cell->y.1∈ts/\sc.names.lookup y.1=some .cell
 free:∀y∈sc.names,y.2 = .free->X.env.kindOf y.1=some .cell\/X.env.kindOf y.1=some .free
 names:∀y∈sc.names,y.2 = .local->sc.names.lookup y.1=some .local
 bang:∀y∈X.N,y∈ts->sc.names.lookup (qB7 y)=none
 out:∀y∈X.N,y∉ts->sc.names.lookup y≠some .local
def inN (ts N:List Str):List Str:=ts++N.map λ x=>if x∈ts then qB7 x else x
structure ClOk (X:Cx) (sc:Scope) (n:Nat) (h:Heap) (cl:List (Str×Addr)):Prop where
 old:∀y c,cl.lookup y=some c->X.env.cells.lookup y=some c\/(n<=c/\c<h.objs.size/\h.IsCell c none)
 free:∀y,sc.names.lookup y=some .free->∃c,cl.lookup y=some c/\X.env.cells.lookup y=some c
 own:∀y,sc.names.lookup y=some .cell->∃c,cl.lookup y=some c/\n<=c
 inj:∀x y c,cl.lookup x=some c->cl.lookup y=some c->x=y
theorem qBd {X:Cx}{cl:List (Str×Addr)}(I2:Inv X pins σ H2 s2) (S:ScOk X sc ts) {h':Heap}(co:ClOk X sc (s2.heap.objs.size+2) h' cl)
  (f2:∀b∈fp,FpOk X pins H2 b) (ho:∀b∈fp,∃o,s2.heap.get? b=some o) {tk:Nat}(hns:∃m,h'.Ns (s2.heap.objs.size+1) m)
  (kp:∀b o,s2.heap.get? b=some o->h'.get? b=some o) (hD:h'.get? s2.heap.objs.size=some {cls:= .type "list",data:= .seq ([]:List Value).toArray}) :
  Inv (cxC X s2 H2 sc cl (s2.heap.objs.size+1) (inN ts X.N) fp) [] (Qh ts.length none++σ) (upd H2 s2.heap.objs.size (.lst [])) {s2 with heap:=h',toks:=tk}:=by
 have freeSc:∀x,((relabel sc X.env).names.lookup x=some .cell\/(relabel sc X.env).names.lookup x=some .free)->sc.names.lookup x=some .free\/sc.names.lookup x=some .cell:=λ x hx=>by
  rw[q0N] at hx;cases e:sc.names.lookup x with
  |none=>rw[e] at hx;rcases hx with hx|hx<;>cases hx
  |some k =>
   cases k with
   |free=>exact .inl rfl
   |cell=>exact .inr rfl
   |_=>rw[e] at hx;rcases hx with hx|hx<;>simp at hx
 have cellAt:∀x c,cl.lookup x=some c->(∃v,h'.IsCell c v)/\upd H2 s2.heap.objs.size (.lst []) c=none:=λ x c h=>by
  rcases co.old x c h with z|⟨z1,z2,z3⟩
  ·obtain⟨v,o,ho',hd⟩:=I2.cell x c z;exact⟨⟨v,o,kp _ _ ho',hd⟩,by rw[q05 (Qy (Heap.lt_size ho'))];exact I2.freeC x c z⟩
  ·exact⟨⟨_,z3⟩,by rw[q05 (by lia)];exact I2.hok.fresh (by lia)⟩
 have fr:H2 s2.heap.objs.size=none:=I2.hok.fresh (Qi _);have frC:H2 (s2.heap.objs.size+1)=none:=I2.hok.fresh (Nat.le_succ _);refine⟨⟨I2.ok.mod,S.kind,I2.ok.glob,I2.ok.blt,Nat.le_succ _,co.inj,λ x hx=>(freeSc x hx).elim (λ z=>(co.free x z).imp λ _ z=>z.1) λ z=>(co.own x z).imp λ _ z=>z.1,λ x c h g=>?_,I2.ok.hd,I2.ok.frames,.inl rfl,λ b hb=>⟨?_,λ x c h=>?_⟩,
  I2.bs,Qr I2.ok.bsz I2.sz,λ b o e hb=>?_,λ b hb hm=>?_,I2.stack,I2.q8D⟩,rfl,I2.bare,Un.laid kp (Qi _) fr,?_,λ x c h=>(cellAt x c h).1,?_,λ x c h=>(cellAt x c h).2,λ p hp=>absurd (show p∈([]:List (Addr×Obj)) from hp) (by simp),?_,?_⟩
 ·obtain⟨c',e1,e2⟩:=co.own x (beq_iff_eq.mp h);have g:cl.lookup x=some c:=g;rw[e1] at g;cases g;exact Qr (by show s2.heap.objs.size<=_;lia) e2
 ·obtain⟨o,e⟩:=ho b hb;exact Qy (Ju (Heap.lt_size e))
 ·rcases co.old x c h with z|⟨z,_⟩
  ·exact (f2 b hb).2.2.2.2.1 x c z
  ·obtain⟨o,e⟩:=ho b hb;exact λ y=>by have:=Heap.lt_size e;lia
 ·rcases (f2 b hb).2.2.2.1 with z|z
  ·exact I2.ok.noex b o e z
  ·exact absurd (Qn (Heap.lt_size e) (Qr I2.ok.bsz z)) (Ja _)
 ·rcases Qf.mp (I2.q3D b hm) with z|z
  ·exact (f2 b hb).2.1 z
  ·exact (f2 b hb).2.2.1 z
 ·obtain⟨m,hm⟩:=hns;obtain⟨m2,hn2,hl2⟩:=I2.loc;refine⟨m,hm,λ i x v e1 e2 e3=>?_⟩;have e3:Vis (relabel sc X.env) x:=e3;have e1:(inN ts X.N)[i]? = some x:=e1;unfold inN at e1;have hi:¬i<ts.length:=λ z=>by rw[QH (by simpa using z),List.getElem?_replicate,if_pos z] at e2;cases e2
  rw[QU (by lia)] at e1;rw[QU (by rw[Q7];lia),Q7] at e2;rw[Qt] at e1;cases ey:X.N[i-ts.length]? with
  |none=>rw[ey] at e1;cases e1
  |some y =>
   rw[ey] at e1;have e1:(if y∈ts then qB7 y else y)=x:=(by simpa using e1);have yN:y∈X.N:=Qm ey
   by_cases hy:y∈ts
   ·rw[if_pos hy] at e1;have hb:=S.bang y yN hy;rw[e1] at hb;unfold Vis at e3;rw[q0N,hb] at e3;rcases e3 with z|z|z<;>cases z
   ·rw[if_neg hy] at e1;subst e1;have hf:sc.names.lookup y=some .free:=by
     rcases e3 with z|z
     ·exfalso;rw[q0N] at z;cases e:sc.names.lookup y with
      |none=>rw[e] at z;cases z
      |some k =>
       rw[e] at z;cases k with
       |«local»=>exact S.out y yN hy e
       |_=>simp at z<;>(split at z<;>cases z)
     ·exact (freeSc y z).elim id λ z=>absurd (S.cell _ (PySem.mem_of_lookup z) rfl).1 hy
    have hk:=S.free _ (PySem.mem_of_lookup hf) rfl;obtain⟨u,r,l⟩:=hl2 _ y v ey e2 (.inr hk);refine⟨u,r,.inr ⟨?_,?_⟩⟩
    ·rcases e3 with z|z
     ·exfalso;rw[q0N,hf,Option.map_some] at z;have z:=QR.inj z;split at z<;>cases z
     ·exact z
    ·obtain⟨c,hc,hc1⟩:=co.free y hf;rcases l with ⟨l1,_⟩|⟨_,c',hc',hcell⟩
     ·rcases hk with z|z<;>(rw[l1] at z;cases z)
     ·rw[hc'] at hc1;cases hc1;obtain⟨o,ho',hd⟩:=hcell;exact⟨c,hc,o,kp _ _ ho',hd⟩
 ·show upd H2 s2.heap.objs.size _ (s2.heap.objs.size+1)=none;rw[q05 (Nat.succ_ne_self _)];exact frC
 ·exact I2.hok.laid kp (Qi _) ⟨QM _,[],0,.nil,hD⟩
 ·show _=(inN ts X.N).length;unfold inN;rw[QA,QA,Q7,Qe,I2.len]
theorem q3S:∀(names:List (Str×NameKind)) (n:Nat) (acc:List (Str×Addr)),cellsFrom n names acc=cellsFrom n names []++acc
 |[],_,_=>rfl
 |(x,k)::r,n,acc=>by
  unfold cellsFrom;split
  ·rw[q3S r _ ((x,n)::acc),q3S r _ [(x,n)],Jv];rfl
  ·exact q3S r n acc
theorem q4h:∀(names:List (Str×NameKind)) (n:Nat) (acc:List (Str×Addr)) (x:Str),((x,NameKind.cell)∈names\/∃c,(x,c)∈acc)↔∃c,(x,c)∈cellsFrom n names acc
 |[],_,_,_=>⟨λ h=>h.elim (λ z=>nomatch z) id,.inr⟩
 |(y,k)::r,n,acc,x=>by
  unfold cellsFrom;split
  ·rename_i hk;rw[<-q4h r _ _ x];have hk:=beq_iff_eq.mp hk;subst hk;constructor
   ·rintro (h|⟨c,h⟩)
    ·rcases Qf.mp h with e|h
     ·cases e;exact .inr ⟨n,Qb⟩
     ·exact .inl h
    ·exact .inr ⟨c,Qa _ h⟩
   ·rintro (h|⟨c,h⟩)
    ·exact .inl (Qa _ h)
    ·rcases Qf.mp h with e|h
     ·cases e;exact .inl Qb
     ·exact .inr ⟨c,h⟩
  ·rename_i hk;rw[<-q4h r _ _ x];constructor
   ·rintro (h|h)
    ·rcases Qf.mp h with e|h
     ·cases e;exact absurd rfl hk
     ·exact .inl h
    ·exact .inr h
   ·rintro (h|h)
    ·exact .inl (Qa _ h)
    ·exact .inr h
theorem q3T {x:Str}{c:Addr}:∀{l:List (Str×Addr)},(x,c)∈l->∃c',l.lookup x=some c'
 |(y,d)::l,h=>by
  rw[QP];cases e:x==y with
  |true=>exact⟨d,rfl⟩
  |false =>
   rcases Qf.mp h with z|z
   ·cases z;simp at e
   ·exact q3T z
theorem q54 {X:Cx}{cl0:List (Str×Addr)}{E:Value->Shared->Prop}{P:Value->PySem.Env->Addr->Shared->Prop}(I2:Inv X pins σ H2 s2) (S:ScOk X sc ts)
  (hcl1:∀y c,cl0.lookup y=some c->X.env.cells.lookup y=some c) (hcl2:∀x∈sc.names,x.2 = .free->∃c,cl0.lookup x.1=some c) (f2:∀b∈fp,FpOk X pins H2 b) (ho:∀b∈fp,∃o,s2.heap.get? b=some o)
  (h:∀cl h1,ClOk X sc (s2.heap.objs.size+2) h1 cl->(∀b o,s2.heap.get? b=some o->h1.get? b=some o)->Inv (cxC X s2 H2 sc cl (s2.heap.objs.size+1) (inN ts X.N) fp) [] (Qh ts.length none++σ) (upd H2 s2.heap.objs.size (.lst [])) {s2 with heap:=h1}->
   P (.ref s2.heap.objs.size) (compEnvC sc cl (s2.heap.objs.size+1) X.env) (s2.heap.objs.size+1) {s2 with heap:=h1}) :
  wpAny (model X.prog X.w) X.A (newList []) (λ acc s3=>wpAny (model X.prog X.w) X.A (newFunctionEnv sc X.env.globals cl0 [] X.env.qual none .none (some X.env)) (λ cenv s4=>P acc {cenv with scope:=relabel sc X.env} cenv.locals s4) E s3) E s2:=by
 refine wpAny_newObj_type ?_;simp only[newFunctionEnv,Option.isSome_some,if_true];refine wpAny_bind (wpAny_alloc (wpAny_bind (wpAny_layCells _ (λ name kind cells=>by cases hkc:kind==NameKind.cell<;>simp[hkc]) _ _ _ _ ?_)));rw[List.forIn_nil];refine wpAny_bind (wpAny_pure (wpAny_pure ?_));generalize hH2:s2.heap.push {cls:= .type "list",dict:=none,data:= .seq ([]:List Value).toArray}=HH;have hC:HH.objs.size=s2.heap.objs.size+1:=by rw[<-hH2,Heap.size_push]
 have hC2:(HH.push {cls:= .type "dict",data:= .dict #[]}).objs.size=s2.heap.objs.size+2:=by rw[Heap.size_push,hC]
 have ok:=cellsFrom_ok sc.names (HH.push {cls:= .type "dict",data:= .dict #[]}) (s2.heap.objs.size+2) [] ⟨λ _ _ hm=>(nomatch hm),List.Pairwise.nil⟩ (by rw[hC2];exact Qi _);rw[hC2] at ok;dsimp only;rw[hC2,hC,q3S];generalize hl1:cellsFrom (s2.heap.objs.size+2) sc.names []=l1 at ok;generalize hh1:pushCells (HH.push {cls:= .type "dict",data:= .dict #[]}) sc.names=h1 at ok;have kpp:∀b o,HH.get? b=some o->h1.get? b=some o:=λ b o e=>by rw[<-hh1];exact pushCells_keeps _ _ b o (Heap.get?_push_of_some _ e)
 have kp:∀b o,s2.heap.get? b=some o->h1.get? b=some o:=λ b o e=>kpp b o (hH2▸Heap.get?_push_of_some _ e);have hD:h1.get? s2.heap.objs.size=some {cls:= .type "list",data:= .seq ([]:List Value).toArray}:=kpp _ _ (hH2▸Heap.get?_push_size _ rfl);have hns:h1.Ns (s2.heap.objs.size+1) λ _=>none:=by rw[<-hh1,<-hC];exact (Heap.Ns.new HH (.type "dict")).keeps (pushCells_keeps _ _)
 have own:∀y c,l1.lookup y=some c->(y,NameKind.cell)∈sc.names/\s2.heap.objs.size+2<=c/\c<h1.objs.size/\h1.IsCell c none:=λ y c e=>by have m:=PySem.mem_of_lookup e;have z:=ok.empty y c m;rw[<-hl1] at m;exact⟨((q4h _ _ [] y).mpr ⟨c,m⟩).resolve_right (λ w=>by obtain⟨_,w⟩:=w;cases w),z.2,z.1.lt,z.1⟩
 have look:∀y,(l1++cl0).lookup y=(l1.lookup y).or (cl0.lookup y):=λ y=>List.lookup_append;have co:ClOk X sc (s2.heap.objs.size+2) h1 (l1++cl0):=by
  refine⟨λ y c e=>?_,λ y e=>?_,λ y e=>?_,λ x y c e1 e2=>?_⟩
  ·rw[look] at e;cases q:l1.lookup y with
   |some c'=>rw[q] at e;cases e;exact .inr (own y _ q).2
   |none=>rw[q] at e;exact .inl (hcl1 y c e)
  ·obtain⟨c,hc⟩:=hcl2 (y,.free) (PySem.mem_of_lookup e) rfl;refine⟨c,?_,hcl1 y c hc⟩;rw[look];cases q:l1.lookup y with
   |some c' =>
    have:=(S.cell _ (own y _ q).1 rfl).2;rw[e] at this;cases this
   |none=>exact hc
  ·obtain⟨c,m⟩:=(q4h sc.names (s2.heap.objs.size+2) [] y).mp (.inl (PySem.mem_of_lookup e));rw[hl1] at m;obtain⟨c',q⟩:=q3T m;exact⟨c',by rw[look,q];rfl,(own y _ q).2.1⟩
  ·rw[look] at e1 e2;have lt:∀z,cl0.lookup z=some c->c<s2.heap.objs.size:=λ z hz=>by obtain⟨v,o,e,_⟩:=I2.cell z c (hcl1 z c hz);exact Heap.lt_size e
   cases q1:l1.lookup x with
   |some c1 =>
    rw[q1] at e1;cases e1;cases q2:l1.lookup y with
    |some c2=>rw[q2] at e2;cases e2;exact PySem.name_of_addr ok.apart (PySem.mem_of_lookup q1) (PySem.mem_of_lookup q2)
    |none =>
     rw[q2] at e2;have:=lt y e2;have:=(own x _ q1).2.1;lia
   |none =>
    rw[q1] at e1;cases q2:l1.lookup y with
    |some c2 =>
     rw[q2] at e2;cases e2;have:=lt x e1;have:=(own y _ q2).2.1;lia
    |none=>rw[q2] at e2;exact I2.ok.inj x y c (hcl1 x c e1) (hcl1 y c e2)
 exact h (l1++cl0) h1 co kp (qBd I2 S co f2 ho (tk:=s2.toks) ⟨_,hns⟩ kp hD)
theorem q5c {elt:Ev.Env->R D}{cond:Ev.Env->R Bool}{k:Nat}{ρ:Ev.Env}{d:D}{ds es:List D}(h:q0U elt cond k ρ (d::ds) = .ok es) :
  ∃xs b,unp k d = .ok xs/\cond (vals xs++ρ) = .ok b/\(b=true->∃e es',elt (vals xs++ρ) = .ok e/\q0U elt cond k ρ ds = .ok es'/\es=e::es')/\(b=false->q0U elt cond k ρ ds = .ok es):=by
 unfold q0U at h;cases h1:unp k d with
 |ok xs =>
  rw[h1,q00] at h;cases h2:cond (vals xs++ρ) with
  |ok b =>
   rw[h2,q00] at h;refine⟨xs,b,rfl,h2,λ hb=>?_,λ hb=>?_⟩
   ·subst hb;rw[if_pos rfl] at h;cases h3:elt (vals xs++ρ) with
    |ok e =>
     rw[h3,q00] at h;cases h4:q0U elt cond k ρ ds with
     |ok es'=>rw[h4,q00] at h;cases h;exact⟨e,es',rfl,rfl,rfl⟩
     |err c=>rw[h4] at h;cases h
     |stuck=>rw[h4] at h;cases h
    |err c=>rw[h3] at h;cases h
    |stuck=>rw[h3] at h;cases h
   ·subst hb;rw[if_neg (by simp)] at h;exact h
  |err c=>rw[h2] at h;cases h
  |stuck=>rw[h2] at h;cases h
 |err c=>rw[h1] at h;cases h
 |stuck=>rw[h1] at h;cases h
theorem q42 {p:Pm}{H Hf:Hp}{more:List (List Addr)}:∀{ρ:Ev.Env}{σ:L2.St}{os:List (List Addr)},q1I p H Hf ρ σ os->q1I p H Hf ρ σ (os++more)
 |[],_,_,_=>trivial
 |_::ρ,_,_,h=>by obtain⟨y,σ',as,os',rfl,rfl,h1,h2⟩:=h;exact⟨y,σ',as,os'++more,rfl,rfl,h1,q42 h2⟩
theorem q55 {p:Pm}{H Hf:Hp}{ρ:Ev.Env}{σ:L2.St}{os:List (List Addr)}(h:q1I p H Hf ρ σ os):∀{xs:List D}{vs:List V},RepL p Hf xs vs->q1I p H Hf (vals xs++ρ) (vs.map some++σ) (Qh xs.length []++os)
 |[],vs,r=>by cases (show vs=[] from r);exact h
 |d::xs,vs,r=>by obtain⟨v,r',rfl,h1,h2⟩:=r;exact⟨some v,r'.map some++σ,[],Qh xs.length []++os,rfl,by simp[Jk],⟨rfl,v,rfl,h1⟩,q55 h h2⟩
theorem q4i (n:Nat) (os:List (List Addr)) (D:Addr):(Qh n []++os++[[D]]).flatten=os.flatten++[D]:=by simp
section
variable {prog:Program}{w:World}{A:Around}{R:Result->Shared->Prop}{s:Shared}
theorem q4X {elt target iter:PySem.Expr}{ifs:List PySem.Expr}{scope:Scope}{it acc:Value}{env:PySem.Env}(I:Nat->Shared->Prop)
  (turn:∀n s,I n s->wpAny (model prog w) A (pyNext it) (λ r s₁=>match r with
   |none=>R (.ok .next) s₁
   |some v=>wpAny (model prog w) A (letOwnedTupleGo target it v) (λ _ s₁'=>wpAny (model prog w) A (assign target env v) (λ _ s₂ =>
     wpAny (model prog w) A (forIn ifs true λ c r=>if r=true then do let ok <-isTrue c env (eval c env);pure (ForInStep.yield ok) else pure (ForInStep.yield r)) (λ ok s₃ =>
      if ok=true then wpAny (model prog w) A (eval elt env) (λ x s₄ =>
       wpAny (model prog w) A (call (.builtin "list.append") [acc,x]) (λ _ s₅=>∃m,m<n/\I m s₅) (λ _ _=>False) s₄) (λ _ _=>False) s₃
      else ∃m,m<n/\I m s₃) (λ _ _=>False) s₂) (λ _ _=>False) s₁') (λ _ _=>False) s₁) (λ _ _=>False) s)
  (n:Nat) (h:I n s):codeAny (model prog w) A (.compLoop (.ListComp elt [⟨target,iter,ifs,0⟩] scope pos) 0 it acc env) R s:=by
 refine codeAny_loop rfl I (λ n s hI=>?_) n h;show wpAny _ A ((compTurn (.ListComp elt [⟨target,iter,ifs,0⟩] scope pos) 0 it acc env).onRaise (λ x=>do noteFrame x env;theTreesLotGoes x)) _ _ s;refine wpAny_noted ?_;rw[compTurn_list];refine wpAny_bind (wpAny_standAt (wpAny_bind (wpAny_mono (turn n s hI) (λ r s₁ h₁=>?_) λ _ _ h'=>h'.elim)));cases r with
 |none=>exact wpAny_pure h₁
 |some v =>
  refine wpAny_bind (wpAny_mono h₁ (λ _ s₁' h₁'=>?_) λ _ _ h'=>h'.elim);refine wpAny_bind (wpAny_mono h₁' (λ _ s₂ h₂=>wpAny_bind (wpAny_mono h₂ (λ ok s₃ h₃=>?_) λ _ _ h'=>h'.elim)) λ _ _ h'=>h'.elim);cases ok with
  |false=>exact wpAny_pure ⟨rfl,h₃⟩
  |true =>
   exact wpAny_bind (wpAny_bind (wpAny_mono h₃ (λ x s₄ h₄=>wpAny_bind (wpAny_mono h₄ (λ _ s₅ h₅=>wpAny_pure (wpAny_pure ⟨rfl,h₅⟩)) λ _ _ h'=>h'.elim)) λ _ _ h'=>h'.elim))
end
def SGc (X:Cx) (p:Pm) (tg:PySem.Expr) (k m:Nat):Prop :=
 ∀(E:Value->Shared->Prop) (pins:List (Addr×Obj)) (s:Shared) (σt σ:L2.St) (H Hf:Hp) (d:D) (xs:List D) (v:V) (u:Value),Inv X pins (σt++σ) H s->σt.length=m->RelV v u->Ext Hf H->Rep p Hf d v->unp k d = .ok xs->
  wpAny (model X.prog X.w) X.A (assign tg X.env u) (λ _ s'=>∃vs,RepL p Hf xs vs/\vs.length=m/\Inv X pins (vs.map some++σ) H s') E s
section
variable {X:Cx}{p:Pm}{G:Nat->List D->R D}{sub:Nat->Nat->Bool}
theorem q9T {x:Str}(hN:X.N.Nodup) (hi:X.N[0]? = some x) (hx:Loc X.env.scope x) (hl:X.fn x=true\/X.env.scope.names.lookup x=some .local):SGc X p (.Name x pos) 0 1:=by
 intro E pins s σt σ H Hf d xs v u I hm rv xt q e;cases e;obtain⟨o,rfl⟩:∃o,σt=[o]:=by
  match σt,hm with
  |[o],_=>exact⟨o,rfl⟩
 exact wpAny_assign_Name (q0q I hN hi hx rv (λ s2 I2=>⟨[v],⟨v,[],rfl,q,rfl⟩,rfl,I2⟩) hl)
theorem qGN {x y:Str}{px py:Pos}{k1:Nat}(hK:p.K=X.K) (hc:X.calm=true) (hN:X.N.Nodup) (hi:X.N[0]? = some x) (hx:Loc X.env.scope x) (hl:X.fn x=true\/X.env.scope.names.lookup x=some .local) (hj:X.N[1]? = some y) (hx2:Loc X.env.scope y) (hl2:X.fn y=true\/X.env.scope.names.lookup y=some .local):SGc X p (.Tuple [.Name x px,.Name y py] k1 pos) 2 2:=by
 intro E pins s σt σ H Hf d xs v u I hm rv xt q e;obtain⟨o1,o2,rfl⟩:∃o1 o2,σt=[o1,o2]:=by
  match σt,hm with
  |[o1,o2],_=>exact⟨o1,o2,rfl⟩
 cases d<;>first
  |(exfalso;unfold unp at e;rw[if_neg (by decide)] at e;cases e;done)
  |skip
 rename_i ds;unfold unp at e;rw[if_neg (by decide)] at e;dsimp only at e;split at e
 ·rename_i hl';cases e;obtain⟨a,vs,rfl,s1,z,r1⟩:=q;obtain⟨d1,d2,rfl⟩:∃d1 d2,xs=[d1,d2]:=by
   match xs,hl' with
   |[d1,d2],_=>exact⟨d1,d2,rfl⟩
  obtain⟨v1,r,rfl,q1,h2⟩:=r1;obtain⟨v2,r2,rfl,q2,h4⟩:=h2;cases (show r2=[] from h4);refine wpAny_mono (qHx (X:=X.wish E) (n:=2) hc (q95 (qAv (X:=X.wish E) hN hi hx hl) (q95 (qAv (X:=X.wish E) hN hj hx2 hl2) qFT rfl) rfl) rfl rfl pins s _ H (.ref a) u (λ σ' H'=>H'=H/\σ'=some v1::some v2::σ) (I.wish E) rv
   ⟨a,[v1,v2],rfl,hK▸xt.sqT s1,rfl,v1,[v2],rfl,v2,[],rfl,rfl,rfl,rfl⟩) (λ _ s' h=>?_) (λ _ _ z=>z)
  obtain⟨σ',H',I',rfl,rfl⟩:=h;exact⟨[v1,v2],⟨v1,_,rfl,q1,v2,_,rfl,q2,rfl⟩,rfl,I'.q2n⟩
 ·cases e
def STs (X:Cx) (p:Pm) (G:Nat->List D->R D) (sub:Nat->Nat->Bool) (ifs:List PySem.Expr) (lc:List T):Prop:=(ifs=[]/\lc=[])\/∃c l,ifs=[c]/\lc=[l]/\ST X p G sub c l
theorem q9U {elt tg iter:PySem.Expr}{ifs:List PySem.Expr}{k:Nat}{le:L}{lc:List T}{it:Addr}{tn:Nat->Heap->Prop}{J:It}{ρ:Ev.Env}{os:List (List Addr)}
  {ds es:List D}{vs:List V}{cl0:List (Str×Addr)}{E:Value->Shared->Prop}{RR:Value->Addr->Result->Shared->Prop}(hc:X.calm=true) (S:ScOk X sc ts) (hcl1:∀y c,cl0.lookup y=some c->X.env.cells.lookup y=some c)
  (hcl2:∀x∈sc.names,x.2 = .free->∃c,cl0.lookup x.1=some c) (hE:∀s2 H2 cl C fp,SE (cxC X s2 H2 sc cl C (inN ts X.N) fp) p G sub elt le) (hT:∀s2 H2 cl C fp,STs (cxC X s2 H2 sc cl C (inN ts X.N) fp) p G sub ifs lc)
  (hG:∀s2 H2 cl C fp,SGc (cxC X s2 H2 sc cl C (inN ts X.N) fp) p tg k ts.length)
  (I2:Inv X pins σ H2 s2) (R2:Rel p ρ σ os H2) (T:Turn X.prog X.w X.K tg J fp it tn) (st2:tn 0 s2.heap) (f2:∀b∈fp,FpOk X pins H2 b) (rep:RepL p (fz os.flatten H2) ds vs) (wk:Wk J H2 vs)
  (hgo:q0U (ev G sub le) (tsts G sub lc) k ρ ds = .ok es) (hbig:es.length<=big)
  (hRR:∀D C s' H',Inv X pins σ H' s'->Ext H2 H'->Rep p (fz os.flatten H') (.lst es) (.ref D)->(∃m,s'.heap.Ns C m)->FpOk X pins H' C->H2 D=none->RR (.ref D) C (.ok .next) s') :
  wpAny (model X.prog X.w) X.A (newList []) (λ acc s3=>wpAny (model X.prog X.w) X.A (newFunctionEnv sc X.env.globals cl0 [] X.env.qual none .none (some X.env)) (λ cenv s4 =>
   codeAny (model X.prog X.w) X.A (.compStart (.ListComp elt [⟨tg,iter,ifs,0⟩] sc pos) 0 (.ref it) acc {cenv with scope:=relabel sc X.env}) (RR acc cenv.locals) s4) E s3) E s2:=by
 have ho:∀b∈fp,∃o,s2.heap.get? b=some o:=λ b hb=>let ⟨o,e,_⟩:=T.obj 0 _ st2 b hb;⟨o,e⟩;refine q54 (P:=λ acc cenv C s4=>codeAny (model X.prog X.w) X.A (.compStart (.ListComp elt [⟨tg,iter,ifs,0⟩] sc pos) 0 (.ref it) acc cenv) (RR acc C) s4) I2 S hcl1 hcl2 f2 ho λ cl h1 co kp I4=>?_;generalize hs4:({s2 with heap:=h1}:Shared)=s4 at I4 |-;have st4:tn 0 s4.heap:=T.keep _ _ _ st2 λ b hb o e=>by rw[<-hs4];exact kp b o e
 have fr:H2 s2.heap.objs.size=none:=I2.hok.fresh (Qi _);have frC:H2 (s2.heap.objs.size+1)=none:=I2.hok.fresh (Nat.le_succ _);have stat:∀{H':Hp},(∀b∈fp,H' b=none)->∀b∈fp,FpOk (cxC X s2 H2 sc cl (s2.heap.objs.size+1) (inN ts X.N) fp) [] H' b:=λ {H'} hn b hb=>by
  refine⟨hn b hb,?_,λ hm=>?_,.inl hb,λ x c h=>?_,λ p hp=>absurd (show p∈([]:List (Addr×Obj)) from hp) (by simp)⟩
  ·obtain⟨o,e⟩:=ho b hb;exact Qy (Ju (Heap.lt_size e))
  ·rcases Qf.mp (I2.q3D b hm) with z|z
   ·exact (f2 b hb).2.1 z
   ·exact (f2 b hb).2.2.1 z
  ·rcases co.old x c h with z|⟨z,_⟩
   ·exact (f2 b hb).2.2.2.2.1 x c z
   ·obtain⟨o,e⟩:=ho b hb;exact λ y=>by have:=Heap.lt_size e;lia
 have hlen:ds.length=vs.length:=rep.length;have loop:codeAny (model X.prog X.w) X.A (.compLoop (.ListComp elt [⟨tg,iter,ifs,0⟩] sc pos) 0 (.ref it) (.ref s2.heap.objs.size) (compEnvC sc cl (s2.heap.objs.size+1) X.env)) (RR (.ref s2.heap.objs.size) (s2.heap.objs.size+1)) s4:=by
  refine q4X (λ n s'=>∃i σt H' ys es0 es1,Inv (cxC X s2 H2 sc cl (s2.heap.objs.size+1) (inN ts X.N) fp) [] (σt++σ) H' s'/\σt.length=ts.length/\tn i s'.heap/\(∀b∈fp,H' b=none)/\Ext H2 H'/\H' s2.heap.objs.size=some (.lst ys)/\
   RepL p (fz (os.flatten++[s2.heap.objs.size]) H') es0 ys/\q0U (ev G sub le) (tsts G sub lc) k ρ (ds.drop i) = .ok es1/\es0++es1=es/\n=ds.length-i/\i<=ds.length) ?_ ds.length
   ⟨0,Qh ts.length none,upd H2 s2.heap.objs.size (.lst []),[],[],es,I4,by simp,st4,λ b hb=>?_,Ext.upd fr,q0B,rfl,by simpa using hgo,rfl,by simp,QM _⟩
  ·rintro n s5 ⟨i,σt,H5,ys,es0,es1,I5,hσ,st5,fr5,x5,hDs,rp5,go5,he5,rfl,hi5⟩
   by_cases hlt:i<ds.length
   ·have hd:ds.drop i=ds[i]::ds.drop (i+1):=List.drop_eq_getElem_cons hlt;rw[hd] at go5;obtain⟨xs,b,hu,hcnd,hpos,hneg⟩:=q5c go5;refine wpAny_mono (T.item (cxC X s2 H2 sc cl (s2.heap.objs.size+1) (inN ts X.N) fp) rfl rfl rfl hc i [] s5 _ H5 (λ _ _=>False) I5 (stat fr5) st5 (wk.go i H5 x5 (hlen▸hlt))) (λ r s6 ⟨u,hr,h6⟩=>?_) (λ _ _ z=>z);subst hr;refine wpAny_mono h6 (λ _ s7 ⟨x,H7,I7,r7,y7,st7,fr7⟩=>?_) (λ _ _ z=>z);obtain⟨rfl,hx⟩:=wk.yld i H5 x H7 x5 (hlen▸hlt) y7;obtain⟨v',hv',rv'⟩:=rep.get (i:=i) (d:=ds[i]) (by simp[hlt]);rw[hx] at hv';cases hv';have I7':=I7.pinned (stat fr7) (T.obj _ _ st7);have xf:Ext (fz os.flatten H2) (fz (os.flatten++[s2.heap.objs.size]) H7):=λ a o e=>by
     unfold fz at e;split at e
     ·cases e
     ·rename_i n;refine q25 (x5 a o e) λ m=>?_;rcases Qq.mp m with m|m
      ·exact n m
      ·rw[Qs.mp m,fr] at e;cases e
    refine wpAny_mono (hG s2 H2 cl (s2.heap.objs.size+1) fp (λ _ _=>False) _ s7 σt σ H7 (fz (os.flatten++[s2.heap.objs.size]) H7) ds[i] xs x u I7' hσ r7 q0Y (rv'.mono xf) hu) (λ _ s8 ⟨vs8,rp8,hl8,I8⟩=>?_) (λ _ _ z=>z);have RL:Rel p (vals xs++ρ) (vs8.map some++σ) (Qh xs.length []++os++[[s2.heap.objs.size]]) H7:=by
     refine⟨?_,λ a ha=>?_,?_⟩
     ·rw[q4i];refine Qz.mpr ⟨R2.nd,by simp,λ a ha b hb e=>?_⟩;rw[Qs.mp hb] at e;obtain⟨o,q⟩:=R2.there a ha;rw[e,fr] at q;cases q
     ·rw[q4i] at ha;rcases Qq.mp ha with m|m
      ·obtain⟨o,q⟩:=R2.there a m;exact⟨o,x5 _ _ q⟩
      ·rw[Qs.mp m];exact⟨_,hDs⟩
     ·rw[q4i];exact q42 (q55 (q1k x5 xf R2.slots) rp8)
    have test:wpAny (model X.prog X.w) X.A (forIn ifs true λ c r=>if r=true then do let ok <-isTrue c (compEnvC sc cl (s2.heap.objs.size+1) X.env) (eval c (compEnvC sc cl (s2.heap.objs.size+1) X.env));pure (ForInStep.yield ok) else pure (ForInStep.yield r))
      (λ ok s9=>ok=b/\∃H9,Inv (cxC X s2 H2 sc cl (s2.heap.objs.size+1) (inN ts X.N) fp) ([]++q70 fp s7.heap) (vs8.map some++σ) H9 s9/\Ext H7 H9) (λ _ _=>False) s8:=by
     rcases hT s2 H2 cl (s2.heap.objs.size+1) fp with ⟨rfl,rfl⟩|⟨c,l,rfl,rfl,hst⟩
     ·have:b=true:=(by rw[q1v] at hcnd;cases hcnd;rfl);exact wpAny_tests_nil ⟨this.symm,H7,I8,Ext.refl _⟩
     ·have e1:tst G sub l (vals xs++ρ) = .ok b:=by
       rw[q1Q] at hcnd;cases h:tst G sub l (vals xs++ρ) with
       |ok t =>
        rw[h,q00] at hcnd;cases t
        ·simpa using hcnd
        ·simpa using hcnd
       |err c=>rw[h] at hcnd;cases hcnd
       |stuck=>rw[h] at hcnd;cases hcnd
      refine wpAny_tests_one (wpAny_mono (hst _ _ s8 _ H7 (vals xs++ρ) _ (.inl rfl) I8 RL (by rw[e1];simp)) (λ t s9 ⟨H9,e9,I9,x9⟩=>?_) (λ e s' ⟨c,z,_⟩=>by rw[e1] at z;cases z));rw[e1] at e9;cases e9;exact⟨rfl,H9,I9,x9⟩
    refine wpAny_mono test (λ ok s9 ⟨hok,H9,I9,x9⟩=>?_) (λ _ _ z=>z);subst hok;have keepT:∀{s':Shared}{σ':L2.St}{H':Hp},Inv (cxC X s2 H2 sc cl (s2.heap.objs.size+1) (inN ts X.N) fp) ([]++q70 fp s7.heap) σ' H' s'->tn (i+1) s'.heap/\∀b∈fp,H' b=none:=λ {s' σ' H'} I' =>
     ⟨T.keep _ _ _ st7 λ b hb o e=>(I'.pin (b,o) (Qp _ (Qp _ (q1c hb e)))).1,λ b hb=>by obtain⟨o,e,d⟩:=T.obj _ _ st7 b hb;exact (I'.pin (b,o) (Qp _ (Qp _ (q1c hb e)))).2.1⟩
    cases ok with
    |false =>
     rw[if_neg (by simp)];obtain⟨k1,k2⟩:=keepT I9;exact⟨ds.length-(i+1),by lia,i+1,vs8.map some,H9,ys,es0,es1,I9.q1A,by simpa using hl8,k1,k2,x5.trans x9,x9 _ _ hDs,rp5.mono (q1D x9),hneg rfl,he5,rfl,hlt⟩
    |true =>
     rw[if_pos rfl];obtain⟨e',es',hev,hgo',rfl⟩:=hpos rfl;refine wpAny_mono (hE s2 H2 cl (s2.heap.objs.size+1) fp _ s9 _ H9 (vals xs++ρ) _ I9 (RL.ext x9) (by rw[hev];simp)) (λ y s10 h10=>?_) (λ e s' ⟨c,z,_⟩=>by rw[hev] at z;cases z);obtain⟨d10,v10,H10,e10,I10,r10,x10,q10⟩:=h10;rw[hev] at e10;cases e10;rw[q4i] at q10;have hz:es0.length=ys.length:=rp5.length;have hzb:ys.length<sizeLine:=by have h1:es0.length+(es'.length+1)=es.length:=(by rw[<-he5];simp);have:=q0d;lia
     refine wpAny_mono (q3G (X:=cxC X s2 H2 sc cl (s2.heap.objs.size+1) (inN ts X.N) fp) _ s10 _ H10 (.ref s2.heap.objs.size) [v10] (.ref s2.heap.objs.size) [y] (λ z H'=>H'=upd H10 s2.heap.objs.size (.lst (ys++[v10]))) I10 rfl (.cons r10 .nil)
      ⟨_,ys,v10,rfl,rfl,x10 _ _ (x9 _ _ hDs),hzb,rfl⟩) (λ _ s11 h11=>?_) (λ _ _ z=>z)
     obtain⟨_,H11,I11,_,rfl⟩:=h11;obtain⟨k1,k2⟩:=keepT I11;refine⟨ds.length-(i+1),by lia,i+1,vs8.map some,_,ys++[v10],es0++[e'],es',I11.q1A,by simpa using hl8,k1,k2,λ a o e=>?_,q0B,?_,hgo',by simpa using he5,rfl,hlt⟩
     ·rw[q05 (q0A e fr)];exact x10 _ _ (x9 _ _ (x5 _ _ e))
     ·rw[q3z (by simp)];exact (rp5.mono (q1D (x9.trans x10))).snoc q10
   ·have ei:i=ds.length:=(by lia);subst ei;refine wpAny_mono (T.done (cxC X s2 H2 sc cl (s2.heap.objs.size+1) (inN ts X.N) fp) rfl rfl rfl hc ds.length [] s5 _ H5 (λ _ _=>False) I5 (stat fr5) st5 (hlen▸wk.stop H5 x5)) (λ r s6 ⟨hr,I6⟩=>?_) (λ _ _ z=>z);subst hr;rw[List.drop_length] at go5;have e1:es1=[]:=(by cases go5;rfl);subst e1;rw[Q2] at he5;subst he5;obtain⟨m,hm,_⟩:=I6.loc;have fC:FpOk X pins H5 (s2.heap.objs.size+1):=I2.fpOk (Nat.le_succ _) I6.free;refine hRR _ _ s6 H5 ?_ x5 ⟨_,ys,rfl,SqL.of (q25 hDs λ m=>?_),rp5.mono (q52 λ a ha=>QB _ ha)⟩ ⟨m,hm⟩ fC fr
    ·exact I2.qFS (ch:=fp) I6.os I6.base I6.hok I6.bare λ b hb=>⟨(f2 b hb).2.2.2.1,(f2 b hb).2.1,(f2 b hb).2.2.2.2.1,(f2 b hb).2.2.2.2.2⟩
    ·obtain⟨o,q⟩:=R2.there _ m;rw[fr] at q;cases q
  ·obtain⟨o,e⟩:=ho b hb;rw[q05 (Qy (Heap.lt_size e))];exact (f2 b hb).1
 exact codeAny_compStart_list loop (T.self _ 0 _ _ _ st4 loop)
end
end Snd
namespace Snd
open PySem PySem.Spec PyProof.Rows L2 Ev
variable {fr:Bool}{sc:Scope}{ts:List Str}
section
variable {X:Cx}{p:Pm}{G:Nat->List D->R D}{sub:Nat->Nat->Bool}
theorem q9V {α β:Type}{r:R α}{f:α->R β}(h:r.q6E.bind f ≠ .stuck):∃a,r = .ok a:=by
 cases r with
 |ok a=>exact⟨a,rfl⟩
 |err c=>exact absurd rfl h
 |stuck=>exact absurd rfl h
theorem qBe {J:It}{H:Hp}{os:List (List Addr)}{vs:List V}(w:Wk J (if fr then fz os.flatten H else H) vs):Wk J H vs:=by
 cases fr
 ·exact w
 ·exact w.mono q0Y
theorem q43 (ok:X.Ok) (S:ScOk X sc ts):∀x∈sc.names,x.2 = .free->∃c,X.env.cells.lookup x.1=some c:=λ x hx hf=>ok.has x.1 (S.free x hx hf)
theorem qGO {elt tg iter:PySem.Expr}{ifs:List PySem.Expr}{pos:Pos}{k:Nat}{li:I}{le:L}{lc:List T}(hc:X.calm=true) (S:ScOk X sc ts) (hi:SI X p G sub fr tg iter li)
  (hE:∀s2 H2 cl C fp,SE (cxC X s2 H2 sc cl C (inN ts X.N) fp) p G sub elt le) (hT:∀s2 H2 cl C fp,STs (cxC X s2 H2 sc cl C (inN ts X.N) fp) p G sub ifs lc)
  (hG:∀s2 H2 cl C fp,SGc (cxC X s2 H2 sc cl C (inN ts X.N) fp) p tg k ts.length) (hfs:∀x,foldedSetIterable iter X.env x=pure x) :
  SE X p G sub (.ListComp elt [⟨tg,iter,ifs,0⟩] sc pos) (.comp k le li lc):=by
 intro pins s σ H ρ os I R hs;rw[q13] at hs |-;obtain⟨cl,hcl,hcl1,hcl2⟩:=q41 (q43 I.ok S);rw[eval_ListComp];refine wpAny_comprehension_free (use:=none) rfl hfs hcl S.kind S.names (wpAny_mono (hi pins s σ H ρ os I R (q0C hs)) (λ v s1 h1=>wpAny_mono h1 (λ itv s2 h2=>?_) (λ e s' z=>z.bind)) (λ e s' z=>z.bind));obtain⟨ds,e1,it,fp,tn,J,H2,rfl,I2,T,st2,f2,x2,vs,rep,wk⟩:=h2;rw[e1,q00] at hs |-;obtain⟨es,hes⟩:=q9V hs;rw[hes,q0b,q00] at hs |-;have z:es.length<=big:=by
  by_cases z:es.length<=big
  ·exact z
  ·rw[if_neg z] at hs;exact absurd rfl hs
 rw[if_pos z];refine q9U (RR:=λ acc C=>compPost (model X.prog X.w) X.A _ none _ acc C) hc S hcl1 hcl2 hE hT hG I2 (R.ext x2) T st2 f2 rep (qBe wk) hes z λ D C s' H' I' x' q' hns fC _=>?_;obtain⟨m,hm⟩:=hns;refine⟨m,hm,λ h' hs'=>⟨.lst es,.ref D,H',rfl,?_,rfl,x2.trans x',q'⟩⟩;obtain⟨f0,f1,f2,f3,f4,f5⟩:=fC;exact I'.turned (t':=s'.toks) (λ b o hb e=>hs'.extBut b o hb e) f0 f1 f3 f4 f5
theorem qGP {i:Nat}{x:Str}{elt tg iter:PySem.Expr}{ifs:List PySem.Expr}{pos pos' spos:Pos}{k:Nat}{li:I}{le:L}{lc:List T}(hc:X.calm=true) (S:ScOk X sc ts) (hi:SI X p G sub fr tg iter li)
  (hE:∀s2 H2 cl C fp,SE (cxC X s2 H2 sc cl C (inN ts X.N) fp) p G sub elt le) (hT:∀s2 H2 cl C fp,STs (cxC X s2 H2 sc cl C (inN ts X.N) fp) p G sub ifs lc)
  (hG:∀s2 H2 cl C fp,SGc (cxC X s2 H2 sc cl C (inN ts X.N) fp) p tg k ts.length) (hfs:∀x,foldedSetIterable iter X.env x=pure x)
  (hN:X.N.Nodup) (hiN:X.N[i]? = some x) (hx:Loc X.env.scope x) (hf:X.fn x=true\/X.env.scope.names.lookup x=some .local)
  (hsw:swapsWith (.ListComp elt [⟨tg,iter,ifs,0⟩] sc pos) (some (.Name x pos')) spos.line X.env=pure true) :
  SS X p G sub (.Assign [.Name x pos'] (.ListComp elt [⟨tg,iter,ifs,0⟩] sc pos) spos) (.set i (.comp k le li lc)):=by
 intro H0 O0 E hp pins s σ H ρ os I B hs hE';have e0:ex G sub (.set i (.comp k le li lc)) ρ=(ev G sub (.comp k le li lc) ρ).go ρ λ d=> .ok (ρ.set i (some (.val d))) .nx:=rfl;rw[e0] at hs hE' |-;rw[q13] at hs hE' |-;obtain⟨cl,hcl,hcl1,hcl2⟩:=q41 (q43 I.ok S);have lt:i < ρ.length:=by rw[<-B.slen,I.len];exact (Qd.mp hiN).1
 rw[exec_Assign_Name_used _ _ _ _ hsw];refine wpAny_bind (wpAny_standAt (wpAny_bind ?_));show wpAny _ X.A (do let _ <-comprehension (.ListComp elt [⟨tg,iter,ifs,0⟩] sc pos) sc X.env _ (newList []) false (eval iter X.env) (some (assign (.Name x pos') X.env))) _ _ s;refine wpAny_bind (wpAny_mono (wpAny_comprehension_free (use:=some (assign (.Name x pos') X.env)) (Q:=λ _ s'=>Gs X p H0 O0 pins (((evi G sub li ρ).bind λ ds=>(q0U (ev G sub le) (tsts G sub lc) k ρ ds).q6E.bind λ es=>if es.length<=big then .ok (.lst es) else .stuck).go ρ λ d=> .ok (ρ.set i (some (.val d))) .nx) .next s') rfl hfs hcl S.kind S.names
  (wpAny_mono (hi pins s σ H ρ _ I B.rel (q0C (q2U hs))) (λ v s1 h1=>wpAny_mono h1 (λ itv s2 h2=>?_) (λ e s' z=>hE' e s' (q2z B z.bind))) (λ e s' z=>hE' e s' (q2z B z.bind)))) (λ _ s' hq=>wpAny_pure (wpAny_pure hq)) λ _ _ e=>e)
 obtain⟨ds,e1,it,fp,tn,J,H2,rfl,I2,T,st2,f2,x2,vs,rep,wk⟩:=h2;rw[e1,q00] at hs |-;obtain⟨es,hes⟩:=q9V (q2U hs);rw[hes,q0b,q00] at hs |-;have z:es.length<=big:=by
  by_cases z:es.length<=big
  ·exact z
  ·rw[if_neg z] at hs;exact absurd rfl hs
 rw[if_pos z,q07];refine q9U (RR:=λ acc C=>compPost (model X.prog X.w) X.A _ (some (assign (.Name x pos') X.env)) _ acc C) hc S hcl1 hcl2 hE hT hG I2 (B.rel.ext x2) T st2 f2 rep (qBe wk) hes z λ D C s' H' I' x' q' hns fC _=>?_;obtain⟨m,hm⟩:=hns;obtain⟨f0,f1,f2',f3,f4,f5⟩:=fC;obtain⟨oC,esC,epC,hoC,hdC,hrC⟩:=id hm;have IP:Inv X (pins++[(C,oC)]) σ H' s':=I'.q6A λ q hq=>(Qq.mp hq).elim (λ z=>I'.pin q (Qp _ z)) λ z=>by cases Qs.mp z;exact⟨hoC,f0,f1,f2',λ v z=>by rw[hdC] at z;cases z⟩
 refine wpAny_assign_Name (q0q IP hN hiN hx (v:= .ref D) rfl (λ s3 I3=>?_) hf);have hC3:=(I3.pin (C,oC) (Qp _ (Qp _ (Qs.mpr rfl)))).1;refine⟨m,⟨oC,esC,epC,hC3,hdC,hrC⟩,λ h' hs'=>⟨_,.nx,_,_,H',rfl,(B.mono (x2.trans x')).setV lt q',?_,trivial⟩⟩;exact I3.q1A.turned (t':=s3.toks) (λ b o hb e=>hs'.extBut b o hb e) f0 f1 f3 f4 f5
end
end Snd
namespace Snd
open PySem PySem.Spec PyProof.Rows L2 Ev
variable {a:PySem.Expr}{l:L}{pos:Pos}{pins:List (Addr×Obj)}{σ:L2.St}{H:Hp}{ρ:Ev.Env}{b:Bi}
def Ans (r:R D):Prop:=r = .stuck\/∃d,r = .ok d
theorem q0n (d:D):Ans (.ok d):= .inr ⟨d,rfl⟩
theorem q0o:Ans .stuck:= .inl rfl
theorem q5m {c:Prop}[Decidable c] {r:R D}(h:Ans r):Ans (if c then r else .stuck):=by
 by_cases z:c
 ·rw[if_pos z];exact h
 ·rw[if_neg z];exact q0o
theorem q0e {f:D->R D}(h:∀d,Ans (f d)):∀ds,Ans (oneD f ds)
 |[]=>q0o
 |[d]=>h d
 |_::_::_=>q0o
theorem q6T {f:D->D->R D}(h:∀d e,Ans (f d e)):∀ds,Ans (twoD f ds)
 |[]=>q0o
 |[_]=>q0o
 |[d,e]=>h d e
 |_::_::_::_=>q0o
theorem q44 {f:List D->R D}(h:∀xs,Ans (f xs)) (d:D):Ans (lstD f d):=by cases d<;>first|exact q0o|exact h _
theorem qBf {f:List D->R D}(h:∀xs,Ans (f xs)) (d:D):Ans (seqD f d):=by cases d<;>first|exact q0o|exact h _
theorem q30 {f:Int->R D}(h:∀i,Ans (f i)) (d:D):Ans (intD f d):=by cases d<;>first|exact q0o|exact h _
theorem qBg {f:Nat->R D}(h:∀i,Ans (f i)) (d:D):Ans (excD f d):=by cases d<;>first|exact q0o|exact h _
theorem qBh (x:D):∀(l:List D) (n:Nat),Ans (idxOf x l n)
 |[],_=>q0o
 |y::l,n=>by
  rw[idxOf]
  by_cases z:eqb y x=true
  ·rw[if_pos z];exact q0n _
  ·rw[if_neg z];exact qBh x l (n+1)
theorem q6U (sub:Nat->Nat->Bool) (b:Bi) (ds:List D):biD sub b ds = .stuck\/∃r,biD sub b ds = .ok r:=by
 have it:∀d,q0W d = .stuck\/∃r,q0W d = .ok r:=λ d=>by
  cases d<;>first
   |exact .inr ⟨_,rfl⟩
   |exact .inl rfl
   |skip
  rename_i ks vs;cases z:(ints? ks).isSome with
  |true=>exact .inr ⟨ks,by rw[q0W,z];rfl⟩
  |false=>exact .inl (by rw[q0W,z];rfl)
 have it2:∀d,q1u d = .stuck\/∃r,q1u d = .ok r:=λ d=>by cases d<;>first|exact .inr ⟨_,rfl⟩|exact .inl rfl
 show Ans (biD sub b ds);cases b with
 |len=>exact q0e (λ d=>by cases d<;>first|exact q0o|exact q0n _) ds
 |sorted=>exact q0e (λ d=>by rcases it d with z|⟨r,z⟩<;>rw[z];exact q0o;exact q5m (q0n _)) ds
 |sortedRev=>exact q0e (λ d=>by rcases it d with z|⟨r,z⟩<;>rw[z];exact q0o;exact q5m (q0n _)) ds
 |sortedSet=>exact q0e (λ d=>by rcases it2 d with z|⟨r,z⟩<;>rw[z];exact q0o;exact q5m (q0n _)) ds
 |tuple=>exact q0e (qBf λ _=>q0n _) ds
 |list=>exact q0e (qBf λ _=>q0n _) ds
 |sum=>exact q0e (q44 λ xs=>by unfold sumD;cases ints? xs<;>first|exact q0o|exact q0n _) ds
 |all=>exact q0e (q44 λ xs=>by unfold allD;cases bools? xs<;>first|exact q0o|exact q0n _) ds
 |bits=>exact q0e (q30 λ _=>q5m (q0n _)) ds
 |count=>exact q6T (λ _ _=>q44 (λ _=>q5m (q0n _)) _) ds
 |index=>exact q6T (λ _ _=>q44 (λ _=>q5m (qBh _ _ _)) _) ds
 |min2=>exact q6T (λ x y=>q30 (λ _=>q30 (λ _=>q0n _) y) x) ds
 |max2=>exact q6T (λ x y=>q30 (λ _=>q30 (λ _=>q0n _) y) x) ds
 |any=>exact q0e (q44 λ xs=>by unfold anyD;cases bools? xs<;>first|exact q0o|exact q0n _) ds
 |maxT=>exact q0e (λ d=>by
  cases d<;>first|exact q0o|skip
  rename_i xs;show Ans (maxD xs);unfold maxD;split
  ·exact q0n _
  ·exact q0o) ds
 |toInt=>exact q0e (λ d=>by cases d<;>first|exact q0o|exact q0n _) ds
 |abs=>exact q0e (q30 λ _=>q0n _) ds
 |isTup=>exact q0e (λ d=>by cases d<;>first|exact q0o|exact q0n _) ds
 |isLst=>exact q0e (q44 λ _=>q0n _) ds
 |isInt=>exact q0e (q30 λ _=>q0n _) ds
 |isBool=>exact q0e (λ d=>by cases d<;>first|exact q0o|exact q0n _) ds
 |isVal=>exact q0e (qBg λ _=>q0n _) ds
 |isExc c=>exact q0e (qBg λ _=>q0n _) ds
def BS (X:Cx) (p:Pm) (sub:Nat->Nat->Bool) (b:Bi) (fv:Value):Prop :=
 ∀(E:Value->Shared->Prop) (pins:List (Addr×Obj)) (s:Shared) (σ:L2.St) (H:Hp) (os:List (List Addr)) (d r:D) (v:V) (u:Value),Inv X pins σ H s->Th os.flatten H->RelV v u->RepB p H (fz os.flatten H) d v->biD sub b [d] = .ok r->
  wpAny (model X.prog X.w) X.A (call fv [u]) (EP (X.wish E) pins σ (Fin p os.flatten H r)) E s
section
variable {X:Cx}{p:Pm}{G:Nat->List D->R D}{sub:Nat->Nat->Bool}
theorem q8X (ha:SB X p G sub a l) (hst:starEach [a] X.env=[(false,eval a X.env)]) {s:Shared}{os:List (List Addr)}{E:Value->Shared->Prop}{Q:List Value->Shared->Prop}(I:Inv X pins σ H s) (R:Rel p ρ σ os H) (hs:ev G sub l ρ ≠ .stuck)
  (hq:∀u s1,Gb X p pins σ os H (ev G sub l ρ) u s1->Q [u] s1) (he:∀e s',Er X p pins σ H (ev G sub l ρ) e s'->E e s'):wpAny (model X.prog X.w) X.A (spliced (backTo pos (starEach [a] X.env))) Q E s:=by
 rw[hst];show wpAny _ _ (spliced ((false,eval a X.env)::backTo pos [])) _ _ s;exact Calls.spliced_cons (wpAny_mono (ha pins s σ H ρ os I R hs) (λ u s1 h=>Calls.spliced_nil (hq u s1 h)) he)
theorem q2B {α:Type}{f:D->R α}(l:L) (ρ:Ev.Env) (g:List D->R α) (h:∀d,g [d]=f d):(evs G sub [l] ρ).bind g=(ev G sub l ρ).bind f:=by rw[q0H,q0c];cases ev G sub l ρ<;>first|exact h _|rfl
theorem qBi {s1:Shared}{os:List (List Addr)}{fv u:Value}(hB:BS X p sub b fv) (R:Rel p ρ σ os H) (hs:ev G sub (.bi b [l]) ρ ≠ .stuck) (h:Gb X p pins σ os H (ev G sub l ρ) u s1) :
  wpAny (model X.prog X.w) X.A (call fv [u]) (Gd X p pins σ os H (ev G sub (.bi b [l]) ρ)) (Er X p pins σ H (ev G sub (.bi b [l]) ρ)) s1:=by
 obtain⟨d,v,H1,e1,I1,r1,x1,q1⟩:=h;have e0:ev G sub (.bi b [l]) ρ=biD sub b [d]:=by rw[q1S,q2B (f:=λ d=>biD sub b [d]) l ρ _ (λ _=>rfl),e1];rfl
 rw[e0] at hs |-;rcases q6U sub b [d] with z|⟨r,z⟩
 ·exact absurd z hs
 ·rw[z];exact wpAny_mono (hB (Er X p pins σ H (.ok r)) pins s1 σ H1 os d r v u I1 (R.ext x1).th r1 q1 z) (λ w s2 h2=>qAR x1 rfl h2) λ _ _ z=>z
theorem q7Q {e:Value}{s':Shared}(h:Er X p pins σ H (ev G sub l ρ) e s'):Er X p pins σ H (ev G sub (.bi b [l]) ρ) e s':=by rw[q1S,q2B (f:=λ d=>biD sub b [d]) l ρ _ (λ _=>rfl)];exact h.bind
theorem q7R (hs:ev G sub (.bi b [l]) ρ ≠ .stuck):ev G sub l ρ ≠ .stuck:=λ e=>hs (by rw[q1S,q2B (f:=λ d=>biD sub b [d]) l ρ _ (λ _=>rfl),e];rfl)
theorem q7S {x:Str}{id:String}{q:Pos}(hB:BS X p sub b (.builtin id)) (hg:Gl X x) (hm:X.mg x=none) (hv:bootBuiltins x=some (.builtin id)) (ha:SB X p G sub a l)
  (hn:x ≠ "__name__") (hdb:(x==("__debug__":Str))=false) (hst:starEach [a] X.env=[(false,eval a X.env)]):SE X p G sub (.Call (.Name x q) [a] [] pos) (.bi b [l]):=by
 intro pins s σ H ρ os I R hs;refine wpAny_Call_Name_kw (q1r I hg hm hv ?_ hn hdb);exact PyProof.Rows.callWith_builtin1 (q8X ha hst I R (q7R hs) (λ u s1 h=>qBi hB R hs h) (λ _ _=>q7Q)) hst rfl
theorem qBj {x:Str}{T:String}{q:Pos}(hB:BS X p sub b (.type T)) (hg:Gl X x) (hm:X.mg x=none) (hv:bootBuiltins x=some (.type T)) (ha:SB X p G sub a l)
  (hn:x ≠ "__name__") (hdb:(x==("__debug__":Str))=false) (hst:starEach [a] X.env=[(false,eval a X.env)]):SE X p G sub (.Call (.Name x q) [a] [] pos) (.bi b [l]):=by
 intro pins s σ H ρ os I R hs;refine wpAny_Call_Name_kw (q1r I hg hm hv ?_ hn hdb);exact PyProof.Rows.callWith_type1 (q8X ha hst I R (q7R hs) (λ u s1 h=>qBi hB R hs h) (λ _ _=>q7Q)) hst rfl
theorem qJ5 (hK:p.K=X.K):BS X p sub .len (.builtin "len"):=by
 intro E pins s σ H os d r v u I t rv q h;cases d<;>first
  |(cases h;done)
  |skip
 ·cases h;obtain⟨rfl,z⟩:=q;exact q79 (X:=X.wish E) pins s σ H _ _ _ (I.wish E) (.cons rv .nil) ⟨_,rfl,Qr z q0d,q0I rfl⟩
 ·cases h;obtain⟨a,vs,rfl,s1,z,r1⟩:=q;refine q4Q (X:=X.wish E) pins s σ H _ _ _ (I.wish E) (.cons rv .nil) ⟨a,vs,rfl,.inr (hK▸q0Y.sqT s1),?_⟩;rw[<-r1.length];exact q0I rfl
 ·cases h;obtain⟨a,vs,rfl,s1,r1⟩:=q;refine q4Q (X:=X.wish E) pins s σ H _ _ _ (I.wish E) (.cons rv .nil) ⟨a,vs,rfl,.inl (hK▸s1),?_⟩;rw[<-r1.length];exact q0I rfl
 ·cases h;obtain⟨a,kvs,rfl,s1,rfl,r1⟩:=q;cases rv;refine qKg I s1 λ t s' I'=>⟨.int _,H,I'.wish E,⟨t,rfl⟩,?_⟩
  rw[Qe];exact q0I rfl
theorem qDo (hK:p.K=X.K):BS X p sub .tuple (.type "tuple"):=by
 intro E pins s σ H os d r v u I t rv q h;cases d<;>first
  |(cases h;done)
  |skip
 ·cases h;obtain⟨a,vs,rfl,s1,z,r1⟩:=q;exact q3F (X:=X.wish E) pins s σ H _ _ _ (I.wish E) (.cons rv .nil) ⟨a,vs,rfl,.inr ⟨hK▸q0Y.sqT s1,q0I ⟨a,vs,rfl,s1,z,r1⟩⟩⟩
 ·cases h;obtain⟨a,vs,rfl,s1,r1⟩:=q;have s1':SqL X.K H a vs:=hK▸s1;obtain⟨_,_,_,hz⟩:=I.list s1';exact q3F (X:=X.wish E) pins s σ H _ _ _ (I.wish E) (.cons rv .nil) ⟨a,vs,rfl,.inl ⟨s1',λ l hl=>q8V t r1 hz hl⟩⟩
theorem qGQ (hK:p.K=X.K):BS X p sub .list (.type "list"):=by
 intro E pins s σ H os d r v u I t rv q h;cases d<;>first
  |(cases h;done)
  |skip
 ·cases h;obtain⟨a,vs,rfl,s1,z,r1⟩:=q;exact q4R (X:=X.wish E) pins s σ H _ _ _ (I.wish E) (.cons rv .nil) ⟨a,vs,rfl,.inr (hK▸q0Y.sqT s1),λ l hl=>q40 t r1 hl⟩
 ·cases h;obtain⟨a,vs,rfl,s1,r1⟩:=q;exact q4R (X:=X.wish E) pins s σ H _ _ _ (I.wish E) (.cons rv .nil) ⟨a,vs,rfl,.inl (hK▸s1),λ l hl=>q40 t r1 hl⟩
theorem q6V {vs:List V}{us:List Value}(r:Vals vs us) {i:Nat}{u:Value}(h:us[i]? = some u):∃v,vs[i]? = some v/\RelV v u:=by
 cases e:vs[i]? with
 |none=>rw[r.none_of e] at h;cases h
 |some v =>
  obtain⟨u',h1,h2⟩:=r.get e;rw[h] at h1;cases h1;exact⟨v,rfl,h2⟩
theorem q56 {Hf:Hp}:∀{ds:List D}{bs:List Bool}{vs:List V},bools? ds=some bs->RepL p Hf ds vs->vs=bs.map V.bl
 |[],bs,vs,h,r=>by cases h;exact r
 | .bl b::ds,bs,vs,h,r=>by
  obtain⟨v,r',rfl,h1,h2⟩:=r;have h':(bools? ds).map (b::·)=some bs:=h;cases e:bools? ds with
  |none=>rw[e] at h';cases h'
  |some bs' =>
   rw[e] at h';cases h';cases (show v=_ from h1);rw[q56 e h2];rfl
 | .non::_,_,_,h,_=>by cases h
 | .int _::_,_,_,h,_=>by cases h
 | .str _::_,_,_,h,_=>by cases h
 | .tup _::_,_,_,h,_=>by cases h
 | .lst _::_,_,_,h,_=>by cases h
 | .dct _ _::_,_,_,h,_=>by cases h
 | .exc _::_,_,_,h,_=>by cases h
theorem ints_rep {Hf:Hp}:∀{ds:List D}{ns:List Int}{vs:List V},ints? ds=some ns->RepL p Hf ds vs->vs=ns.map V.int
 |[],bs,vs,h,r=>by cases h;exact r
 | .int b::ds,bs,vs,h,r=>by
  obtain⟨v,r',rfl,h1,h2⟩:=r;have h':(ints? ds).map (b::·)=some bs:=h;cases e:ints? ds with
  |none=>rw[e] at h';cases h'
  |some bs' =>
   rw[e] at h';cases h';cases (show v=_ from h1);rw[ints_rep e h2];rfl
 | .non::_,_,_,h,_=>by cases h
 | .bl _::_,_,_,h,_=>by cases h
 | .str _::_,_,_,h,_=>by cases h
 | .tup _::_,_,_,h,_=>by cases h
 | .lst _::_,_,_,h,_=>by cases h
 | .dct _ _::_,_,_,h,_=>by cases h
 | .exc _::_,_,_,h,_=>by cases h
theorem range_all {α:Type}(f:α->Bool) (d:α):∀(l:List α),(Qk l.length).all (λ i=>f (l.getD i d))=l.all f
 |[]=>rfl
 |a::l=>by rw[Qu,all_succ,List.all_cons];congr 1;exact range_all f d l
theorem qJ6 (hK:p.K=X.K) (hc:X.calm=true):BS X p sub .all (.builtin "all"):=by
 intro E pins s σ H os d r v u I t rv q h;cases d<;>first
  |(cases h;done)
  |skip
 rename_i xs;replace h:allD _ = .ok r:=h;unfold allD at h;split at h
 ·rename_i bs hb;cases h;obtain⟨a,vs,rfl,s1,r1⟩:=q;have e0:=q56 hb r1;subst e0;cases rv;obtain⟨its,rv,pt,hz⟩:=I.list (hK▸s1:SqL X.K H a _);have hl:its.length=bs.length:=by rw[<-rv.length];simp
  have hlt:a<s.heap.objs.size:=by obtain⟨_,e,_⟩:=pt.isList;exact Heap.lt_size e
  refine call_all_walk (wpAny_pyIter_list pt.isList ⟨_,_,_,_,_,_,λ i=>bs.getD i false,rfl,Walks.list (A:=X.A.in1) (I.ok.hd hc) s.heap.objs.size a (Qy hlt) its.toArray,⟨⟨_,Heap.get?_push_size _ rfl,rfl,rfl⟩,pt.isList.push _⟩,λ i v s Q E hP hQ=>?_,λ h' tk hk=>?_⟩)
  ·have hP':its[i]? = some v:=(by simpa using hP);obtain⟨w,hw,rw'⟩:=q6V rv hP';rw[Qt] at hw;cases eb:bs[i]? with
   |none=>rw[eb] at hw;cases hw
   |some b =>
    rw[eb] at hw;cases hw;cases rw';refine wpAny_truthy_bool ?_;have e2:bs.getD i false=b:=(by simp[QY,eb]);dsimp only at hQ;rw[e2] at hQ;exact hQ
  ·refine⟨.bl _,H,(I.wish E).kept (t':=tk) (h':=h') λ b o e=>hk b o (by simp;exact Qy (Heap.lt_size e)) (Heap.get?_push_of_some _ e),rfl,?_⟩;have:(Qk its.toArray.size).all (λ i=>bs.getD i false)=bs.all id:=by rw[Qo,hl];exact range_all id false bs
   rw[this];exact q0I rfl
 ·cases h
theorem range_any (bs:List Bool):(Qk bs.length).any (λ i=>bs.getD i false)=bs.any id:=by
 rw[QE,QQ,QQ];constructor
 ·rintro⟨i,hi,h⟩;have hi:=Qw.mp hi;refine⟨bs[i],QT hi,?_⟩;simpa[QY,hi] using h
 ·rintro⟨b,hb,h⟩;obtain⟨i,hi,rfl⟩:=List.mem_iff_getElem.mp hb;exact⟨i,Qw.mpr hi,by simpa[QY,hi] using h⟩
theorem qJ7 (hK:p.K=X.K) (hc:X.calm=true):BS X p sub .any (.builtin "any"):=by
 intro E pins s σ H os d r v u I t rv q h;cases d<;>first
  |(cases h;done)
  |skip
 rename_i xs;replace h:anyD _ = .ok r:=h;unfold anyD at h;split at h
 ·rename_i bs hb;cases h;obtain⟨a,vs,rfl,s1,r1⟩:=q;have e0:=q56 hb r1;subst e0;cases rv;obtain⟨its,rv,pt,hz⟩:=I.list (hK▸s1:SqL X.K H a _);have hl:its.length=bs.length:=by rw[<-rv.length];simp
  have hlt:a<s.heap.objs.size:=by obtain⟨_,e,_⟩:=pt.isList;exact Heap.lt_size e
  refine call_any_walk (wpAny_pyIter_list pt.isList ⟨_,_,_,_,_,_,λ i=>bs.getD i false,rfl,Walks.list (A:=X.A.in1) (I.ok.hd hc) s.heap.objs.size a (Qy hlt) its.toArray,⟨⟨_,Heap.get?_push_size _ rfl,rfl,rfl⟩,pt.isList.push _⟩,λ i v s Q E hP hQ=>?_,λ h' tk hk=>?_⟩)
  ·have hP':its[i]? = some v:=(by simpa using hP);obtain⟨w,hw,rw'⟩:=q6V rv hP';rw[Qt] at hw;cases eb:bs[i]? with
   |none=>rw[eb] at hw;cases hw
   |some b =>
    rw[eb] at hw;cases hw;cases rw';refine wpAny_truthy_bool ?_;have e2:bs.getD i false=b:=(by simp[QY,eb]);dsimp only at hQ;rw[e2] at hQ;exact hQ
  ·refine⟨.bl _,H,(I.wish E).kept (t':=tk) (h':=h') λ b o e=>hk b o (by simp;exact Qy (Heap.lt_size e)) (Heap.get?_push_of_some _ e),rfl,?_⟩;have:(Qk its.toArray.size).any (λ i=>bs.getD i false)=bs.any id:=by rw[Qo,hl];exact range_any bs
   rw[this];exact q0I rfl
 ·cases h
end
end Snd
namespace Srt
open PySem PySem.W PyProof.Rows
variable {p:Array Nat}{m:Nat}
def run {α:Type}(c:Nat->Nat->Bool):KasT α->α
 | .ret a=>a
 | .ask i j k=>run c (k (c i j))
theorem run_bind {α β:Type}(c:Nat->Nat->Bool) (f:α->KasT β):∀t:KasT α,run c (t.bind f)=run c (f (run c t))
 | .ret a=>rfl
 | .ask i j k=>run_bind c f (k (c i j))
def BndR {α:Type}(c:Nat->Nat->Bool) (n:Nat):KasT α->Prop
 | .ret _=>True
 | .ask i j k=>i<n/\j<n/\BndR c n (k (c i j))
theorem q2C {α β:Type}{c:Nat->Nat->Bool}{n:Nat}{f:α->KasT β}:∀{t:KasT α},BndR c n t->BndR c n (f (run c t))->BndR c n (t.bind f)
 | .ret a,_,h=>h
 | .ask i j k,h1,h=>⟨h1.1,h1.2.1,q2C h1.2.2 h⟩
theorem qJ8 {α:Type}{cmp:Nat->Nat->(Bool->Shared->Prop)->Shared->Prop}{c:Nat->Nat->Bool}{n:Nat}{s:Shared}{Q:α->Shared->Prop}(hc:∀i j C,i<n->j<n->C (c i j) s->cmp i j C s):∀(t:KasT α),BndR c n t->Q (run c t) s->t.kasWp cmp Q s
 | .ret a,_,h=>h
 | .ask i j k,b,h=>hc i j _ b.1 b.2.1 (qJ8 hc (k (c i j)) b.2.2 h)
section
variable {c:Nat->Nat->Bool}{n:Nat}
structure Ord (c:Nat->Nat->Bool) (n:Nat):Prop where
 irr:∀i,i<n->c i i=false
 tot:∀i j,i<n->j<n->i≠j->c i j=false->c j i=true
 tr:∀i j k,i<n->j<n->k<n->c i j=true->c j k=true->c i k=true
def at_ (p:Array Nat) (i:Nat):Nat:=p.getD i 0
structure Pm (p:Array Nat) (n:Nat):Prop where
 sz:p.size=n
 lt:∀i,i<n->at_ p i<n
 inj:∀i j,i<n->j<n->at_ p i=at_ p j->i=j
def Up (c:Nat->Nat->Bool) (p:Array Nat) (m:Nat):Prop:=∀i j,i<j->j<m->c (at_ p i) (at_ p j)=true
def Dn (c:Nat->Nat->Bool) (p:Array Nat) (m:Nat):Prop:=∀i j,i<j->j<m->c (at_ p j) (at_ p i)=true
theorem Ord.asym (o:Ord c n) {i j:Nat}(hi:i<n) (hj:j<n) (h:c i j=true):c j i=false:=by
 cases e:c j i with
 |false=>rfl
 |true=>have:=o.tr i j i hi hj hi h e;rw[o.irr i hi] at this;cases this
theorem Up.succ (o:Ord c n) (P:Pm p n) (h1:1<=m) (hm:m<n) (u:Up c p m) (h:c (at_ p (m-1)) (at_ p m)=true):Up c p (m+1):=λ i j hij hj=>by
 by_cases e:j<m
 ·exact u i j hij e
 ·have e:j=m:=by lia
  subst e
  by_cases e2:i=j-1
  ·rw[e2];exact h
  ·exact o.tr _ (at_ p (j-1)) _ (P.lt _ (by lia)) (P.lt _ (by lia)) (P.lt _ hm) (u i (j-1) (by lia) (by lia)) h
theorem Dn.succ (o:Ord c n) (P:Pm p n) (h1:1<=m) (hm:m<n) (u:Dn c p m) (h:c (at_ p m) (at_ p (m-1))=true):Dn c p (m+1):=λ i j hij hj=>by
 by_cases e:j<m
 ·exact u i j hij e
 ·have e:j=m:=by lia
  subst e
  by_cases e2:i=j-1
  ·rw[e2];exact h
  ·exact o.tr _ (at_ p (j-1)) _ (P.lt _ hm) (P.lt _ (by lia)) (P.lt _ (by lia)) h (u i (j-1) (by lia) (by lia))
theorem q2V {α:Type}(i j:Nat) (k:Bool->KasT α):run c (.ask i j k)=run c (k (c i j)):=rfl
theorem q2W {α:Type}{i j:Nat}{k:Bool->KasT α}(h1:i<n) (h2:j<n) (h:BndR c n (k (c i j))):BndR c n (.ask i j k):=⟨h1,h2,h⟩
theorem qBk (o:Ord c n) {p:Array Nat}(P:Pm p n):∀(f m:Nat),1<=m->m+f=n->Up c p m->BndR c n (kas_asc p f m)/\∃r,run c (kas_asc p f m)=r/\m<=r/\r<=n/\Up c p r/\(r=n\/c (at_ p r) (at_ p (r-1))=true)
 |0,m,h1,hn,u=>⟨trivial,m,rfl,Qi _,by lia,u,.inl (by lia)⟩
 |f+1,m,h1,hn,u=>by
  have hm:m<n:=by lia
  have e0:kas_asc p (f+1) m = .ask (p.getD m 0) (p.getD (m-1) 0) λ c=>if c=true then .ret m else kas_asc p f (m+1):=rfl
  rw[e0];cases e:c (at_ p m) (at_ p (m-1)) with
  |true =>
   have e':c (p.getD m 0) (p.getD (m-1) 0)=true:=e;refine⟨q2W (P.lt m hm) (P.lt (m-1) (by lia)) ?_,m,?_,Qi _,Nat.le_of_lt hm,u,.inr e⟩
   ·rw[e'];trivial
   ·rw[q2V,e'];rfl
  |false =>
   have e':c (p.getD m 0) (p.getD (m-1) 0)=false:=e;have up:=u.succ o P h1 hm (o.tot _ _ (P.lt m hm) (P.lt (m-1) (by lia)) (λ z=>by have:=P.inj m (m-1) hm (by lia) z;lia) e);obtain⟨b1,r,b2,b3,b4,b5,b6⟩:=qBk o P f (m+1) (by lia) (by lia) up;refine⟨q2W (P.lt m hm) (P.lt (m-1) (by lia)) ?_,r,?_,by lia,b4,b5,b6⟩
   ·rw[e'];exact b1
   ·rw[q2V,e'];exact b2
theorem qBl (o:Ord c n) {p:Array Nat}(P:Pm p n):∀(f m:Nat),1<=m->m+f=n->Dn c p m->BndR c n (kas_desc f p m 0)/\∃r,run c (kas_desc f p m 0)=(p,r,0)/\m<=r/\r<=n/\Dn c p r
 |0,m,h1,hn,u=>⟨trivial,m,rfl,Qi _,by lia,u⟩
 |f+1,m,h1,hn,u=>by
  have hm:m<n:=by lia
  have e0:kas_desc (f+1) p m 0 = .ask (p.getD m 0) (p.getD (m-1) 0) λ c=>if c=true then kas_desc f p (m+1) 0
   else .ask (p.getD (m-1) 0) (p.getD m 0) λ d=>if d=true then .ret (p,m,0) else kas_desc f p (m+1) (0+1):=rfl
  rw[e0];cases e:c (at_ p m) (at_ p (m-1)) with
  |true =>
   have e':c (p.getD m 0) (p.getD (m-1) 0)=true:=e;obtain⟨b1,r,b2,b3,b4,b5⟩:=qBl o P f (m+1) (by lia) (by lia) (u.succ o P h1 hm e);refine⟨q2W (P.lt m hm) (P.lt (m-1) (by lia)) ?_,r,?_,by lia,b4,b5⟩
   ·rw[e'];exact b1
   ·rw[q2V,e'];exact b2
  |false =>
   have e':c (p.getD m 0) (p.getD (m-1) 0)=false:=e;have e2:c (at_ p (m-1)) (at_ p m)=true:=o.tot _ _ (P.lt m hm) (P.lt (m-1) (by lia)) (λ z=>by have:=P.inj m (m-1) hm (by lia) z;lia) e;have e2':c (p.getD (m-1) 0) (p.getD m 0)=true:=e2;refine⟨q2W (P.lt m hm) (P.lt (m-1) (by lia)) ?_,m,?_,Qi _,Nat.le_of_lt hm,u⟩
   ·rw[e'];refine q2W (P.lt (m-1) (by lia)) (P.lt m hm) ?_;rw[e2'];trivial
   ·rw[q2V,e'];show run c (KasT.ask (p.getD (m-1) 0) (p.getD m 0) λ d=>if d=true then .ret (p,m,0) else kas_desc f p (m+1) (0+1))=_;rw[q2V,e2'];rfl
theorem q7T (hm:m<=p.size) (k:Nat):at_ (kas_rev p 0 m) k=if k<m then at_ p (m-1-k) else at_ p k:=by
 have e:=getElem?_mirror_all (xs:=p) (i:=0) (j:=m) hm k;have g:∀(q:Array Nat) (i:Nat),at_ q i=q[i]?.getD 0:=λ q i=>by unfold at_;simp[Array.getD_eq_getD_getElem?]
 rw[g,show kas_rev p 0 m=mirror p 0 m ((m-0) / 2) from rfl,e]
 by_cases h:k<m
 ·rw[if_pos ⟨QM _,h⟩,if_pos h,g];congr 2;lia
 ·rw[if_neg (λ z=>h z.2),if_neg h,g]
theorem Pm.rev (P:Pm p n) (hm:m<=n):Pm (kas_rev p 0 m) n:=by
 have hs:m<=p.size:=by rw[P.sz];exact hm
 refine⟨by rw[show kas_rev p 0 m=mirror p 0 m ((m-0) / 2) from rfl,mirror_size,P.sz],λ i hi=>?_,λ i j hi hj h=>?_⟩
 ·rw[q7T hs];split
  ·exact P.lt _ (by lia)
  ·exact P.lt _ hi
 ·rw[q7T hs,q7T hs] at h;split at h<;>split at h
  ·have:=P.inj _ _ (by lia) (by lia) h;lia
  ·have:=P.inj _ _ (by lia) (by lia) h;lia
  ·have:=P.inj _ _ (by lia) (by lia) h;lia
  ·exact P.inj _ _ hi hj h
theorem Dn.rev (hm:m<=p.size) (d:Dn c p m):Up c (kas_rev p 0 m) m:=λ i j hij hj=>by rw[q7T hm,q7T hm,if_pos (by lia),if_pos hj];exact d _ _ (by lia) (by lia)
theorem qDp (o:Ord c n) (hn:2<=n) (P:Pm p n):BndR c n (kas_count n p)/\∃m q,run c (kas_count n p)=(m,q)/\1<=m/\m<=n/\Pm q n/\Up c q m:=by
 have u1:Up c p 1:=λ i j hij hj=>by lia
 obtain⟨a1,r,hr,a2,a3,a4,a5⟩:=qBk o P (n-1) 1 (Qi _) (by lia) u1;have goal:∀t,t=(if (r==n)=true then KasT.ret (r,p) else if r > 1 then .ask (p.getD 0 0) (p.getD (r-1) 0) λ c=>if c=true then .ret (r,p) else kas_descPart r n (kas_rev p 0 r) else kas_descPart r n p)->BndR c n t/\∃m q,run c t=(m,q)/\1<=m/\m<=n/\Pm q n/\Up c q m:=by
  intro t ht
  by_cases e:r=n
  ·rw[if_pos (by simp[e])] at ht;subst ht;exact⟨trivial,r,p,rfl,a2,a3,P,a4⟩
  ·rw[if_neg (by simpa using e)] at ht
   by_cases e2:r > 1
   ·rw[if_pos e2] at ht;have h0:c (p.getD 0 0) (p.getD (r-1) 0)=true:=a4 0 (r-1) (by lia) (by lia);subst ht;refine⟨q2W (P.lt 0 (by lia)) (P.lt (r-1) (by lia)) ?_,r,p,?_,a2,a3,P,a4⟩
    ·rw[h0];trivial
    ·rw[q2V,h0];rfl
   ·rw[if_neg e2] at ht;have er:r=1:=(by lia);subst er;have hlt:c (at_ p 1) (at_ p 0)=true:=by
     rcases a5 with z|z
     ·exact absurd z e
     ·exact z
    have d2:Dn c p 2:=λ i j hij hj=>by have e1:i=0:=(by lia);have e2:j=1:=(by lia);subst e1 e2;exact hlt
    obtain⟨b1,m,b2,b3,b4,b5⟩:=qBl o P (n-2) 2 (by lia) (by lia) d2;have hs:m<=p.size:=(by rw[P.sz];exact b4);obtain⟨k1,k0,k00,k2,k3,k4,k5⟩:=qBk o (P.rev b4) (n-m) m (by lia) (by lia) (b5.rev hs);have t3:BndR c n (kas_tail3 m n p):=q2C k1 trivial;have r3:run c (kas_tail3 m n p)=(k0,kas_rev p 0 m):=by unfold kas_tail3;rw[run_bind,k00];rfl
    have dp:kas_descPart 1 n p=(kas_desc (n-2) p 2 0).bind λ r=>if r.2.2 > 0 then kas_tail3 r.2.1 n (kas_rev r.1 (r.2.1-(r.2.2+1)) r.2.1) else kas_tail3 r.2.1 n r.1:=rfl
    subst ht;rw[dp];refine⟨q2C b1 ?_,_,_,?_,by lia,k3,P.rev b4,k4⟩
    ·rw[b2];dsimp only;rw[if_neg (by simp)];exact t3
    ·rw[run_bind,b2];dsimp only;rw[if_neg (by simp)];exact r3
 obtain⟨g1,g2⟩:=goal _ rfl;refine⟨?_,?_⟩
 ·unfold kas_count;refine q2C a1 ?_;rw[hr];exact g1
 ·unfold kas_count;rw[run_bind,hr];exact g2
theorem q6W (o:Ord c n) {p:Array Nat}(P:Pm p n) {k:Nat}(hk:k<n) (u:Up c p k):∀(f l r:Nat),l<=r->r<=k->r-l<=f->(∀i,i<l->c (at_ p i) (at_ p k)=true)->(∀i,r<=i->i<k->c (at_ p k) (at_ p i)=true)->
  BndR c n (kas_place p k f l r)/\∃m,run c (kas_place p k f l r)=m/\m<=k/\(∀i,i<m->c (at_ p i) (at_ p k)=true)/\∀i,m<=i->i<k->c (at_ p k) (at_ p i)=true
 |0,l,r,hlr,hrk,hf,h1,h2=>⟨trivial,l,rfl,by lia,h1,λ i hi=>h2 i (by lia)⟩
 |f+1,l,r,hlr,hrk,hf,h1,h2=>by
  unfold kas_place
  by_cases e:l≥r
  ·rw[if_pos e];exact⟨trivial,l,rfl,by lia,h1,λ i hi=>h2 i (by lia)⟩
  ·rw[if_neg e];have hmid:(l+r) / 2<r:=(by lia);cases q:c (at_ p k) (at_ p ((l+r) / 2)) with
   |true =>
    have q':c (p.getD k 0) (p.getD ((l+r) / 2) 0)=true:=q;obtain⟨b1,m,b2,b3⟩:=q6W o P hk u f l ((l+r) / 2) (by lia) (by lia) (by lia) h1 (λ i hi hik=>by
     by_cases e3:i=(l+r) / 2
     ·rw[e3];exact q
     ·exact o.tr _ (at_ p ((l+r) / 2)) _ (P.lt _ hk) (P.lt _ (by lia)) (P.lt _ (by lia)) q (u _ _ (by lia) hik))
    refine⟨q2W (P.lt k hk) (P.lt _ (by lia)) ?_,m,?_,b3⟩
    ·rw[q'];exact b1
    ·rw[q2V,q'];exact b2
   |false =>
    have q':c (p.getD k 0) (p.getD ((l+r) / 2) 0)=false:=q;have q2:=o.tot _ _ (P.lt k hk) (P.lt ((l+r) / 2) (by lia)) (λ z=>by have:=P.inj k ((l+r) / 2) hk (by lia) z;lia) q;obtain⟨b1,m,b2,b3⟩:=q6W o P hk u f ((l+r) / 2+1) r (by lia) hrk (by lia) (λ i hi=>by
     by_cases e3:i=(l+r) / 2
     ·rw[e3];exact q2
     ·exact o.tr _ (at_ p ((l+r) / 2)) _ (P.lt _ (by lia)) (P.lt _ (by lia)) (P.lt _ hk) (u _ _ (by lia) (by lia)) q2) h2
    refine⟨q2W (P.lt k hk) (P.lt _ (by lia)) ?_,m,?_,b3⟩
    ·rw[q'];exact b1
    ·rw[q2V,q'];exact b2
theorem q7U {k:Nat}(hk:k<p.size) (hm:m<=k) (i:Nat):at_ (bubble p k (k-m)) i=if i=m then at_ p k else if m<i/\i<=k then at_ p (i-1) else at_ p i:=by
 have e:=getElem?_bubble (xs:=p) hk (k-m) (by lia) i;have g:∀(q:Array Nat) (i:Nat),at_ q i=q[i]?.getD 0:=λ q i=>by unfold at_;simp[Array.getD_eq_getD_getElem?]
 rw[show k-(k-m)=m by lia] at e;rw[g,e];split
 ·rw[g]
 ·split
  ·rw[g]
  ·rw[g]
theorem qF5 (o:Ord c n):∀(f:Nat) (p:Array Nat) (k:Nat),Pm p n->1<=k->k+f=n->Up c p k->BndR c n (kas_bin f p k)/\Pm (run c (kas_bin f p k)) n/\Up c (run c (kas_bin f p k)) n
 |0,p,k,P,h1,hn,u=>⟨trivial,P,show Up c p n from (show k=n by lia)▸u⟩
 |f+1,p,k,P,h1,hn,u=>by
  have hk:k<n:=by lia
  obtain⟨b1,m,hm,b2,b3,b4⟩:=q6W o P hk u k 0 k (QM _) (Qi _) (by lia) (λ i hi=>by lia) (λ i hi hk'=>by lia);have hks:k<p.size:=by rw[P.sz];exact hk
  have P':Pm (bubble p k (k-m)) n:=by
   refine⟨by rw[bubble_size,P.sz],λ i hi=>?_,λ i j hi hj h=>?_⟩
   ·rw[q7U hks b2];split
    ·exact P.lt _ hk
    ·split
     ·exact P.lt _ (by lia)
     ·exact P.lt _ hi
   ·rw[q7U hks b2,q7U hks b2] at h;split at h
    ·split at h
     ·lia
     ·split at h
      ·have:=P.inj _ _ hk (by lia) h;lia
      ·have:=P.inj _ _ hk hj h;lia
    ·split at h
     ·split at h
      ·have:=P.inj _ _ (by lia) hk h;lia
      ·split at h
       ·have:=P.inj _ _ (by lia) (by lia) h;lia
       ·have:=P.inj _ _ (by lia) hj h;lia
     ·split at h
      ·have:=P.inj _ _ hi hk h;lia
      ·split at h
       ·have:=P.inj _ _ hi (by lia) h;lia
       ·exact P.inj _ _ hi hj h
  have u':Up c (bubble p k (k-m)) (k+1):=λ i j hij hj=>by
   rw[q7U hks b2,q7U hks b2]
   by_cases ei:i=m
   ·rw[if_pos ei,if_neg (by lia),if_pos (by lia)];exact b4 _ (by lia) (by lia)
   ·rw[if_neg ei]
    by_cases ej:j=m
    ·rw[if_neg (by lia),if_pos ej];exact b3 _ (by lia)
    ·rw[if_neg ej]
     by_cases ei2:m<i/\i<=k
     ·rw[if_pos ei2,if_pos (by lia)];exact u _ _ (by lia) (by lia)
     ·rw[if_neg ei2]
      by_cases ej2:m<j/\j<=k
      ·rw[if_pos ej2];exact u _ _ (by lia) (by lia)
      ·rw[if_neg ej2];exact u _ _ hij (by lia)
  obtain⟨d1,d2,d3⟩:=qF5 o f _ (k+1) P' (by lia) (by lia) u';have e0:kas_bin (f+1) p k=(kas_place p k k 0 k).bind λ l=>kas_bin f (bubble p k (k-l)) (k+1):=rfl;rw[e0];refine⟨q2C b1 (by rw[hm];exact d1),?_,?_⟩
  ·rw[run_bind,hm];exact d2
  ·rw[run_bind,hm];exact d3
theorem q9W:Pm (Jn (Qk n)) n:=by
 have e:∀i,i<n->at_ (Jn (Qk n)) i=i:=λ i hi=>by simp[at_,Array.getD_eq_getD_getElem?,hi]
 refine⟨by simp,λ i hi=>by rw[e i hi];exact hi,λ i j hi hj h=>?_⟩;rw[e i hi,e j hj] at h;exact h
theorem qGR (o:Ord c n) (hn:2<=n):BndR c n (kas_sort n)/\Pm (run c (kas_sort n)) n/\Up c (run c (kas_sort n)) n:=by
 obtain⟨a1,m,q,a2,a3,a4,a5,a6⟩:=qDp o hn (q9W (n:=n));unfold kas_sort
 by_cases e:m<n
 ·obtain⟨b1,b2,b3⟩:=qF5 o (n-max m 1) q (max m 1) a5 (by lia) (by lia) (by rw[show max m 1=m by lia];exact a6);refine⟨q2C a1 (by rw[a2];dsimp only;rw[if_pos e];exact b1),?_,?_⟩
  ·rw[run_bind,a2];dsimp only;rw[if_pos e];exact b2
  ·rw[run_bind,a2];dsimp only;rw[if_pos e];exact b3
 ·refine⟨q2C a1 (by rw[a2];dsimp only;rw[if_neg e];trivial),?_,?_⟩
  ·rw[run_bind,a2];dsimp only;rw[if_neg e];exact a5
  ·rw[run_bind,a2];dsimp only;rw[if_neg e];have:m=n:=(by lia);subst this;exact a6
theorem len_sub:∀{a b:List Nat},a.Nodup->(∀x∈a,x∈b)->a.length<=b.length
 |[],_,_,_=>QM _
 |x::a,b,nd,h=>by have hx:=h x Qb;have nd':=QG.mp nd;have:=len_sub (a:=a) (b:=b.erase x) nd'.2 λ y hy=>(List.mem_erase_of_ne (λ (z:y=x)=>nd'.1 (z▸hy))).mpr (h y (Qa _ hy));rw[Jw hx] at this;have:=List.length_pos_of_mem hx;simp only[Qu];lia
theorem Pm.perm (P:Pm p n):p.toList.Perm (Qk n):=by
 have e:p.toList=(Qk n).map (at_ p):=by
  refine List.ext_getElem? λ i=>?_
  by_cases h:i<n
  ·have hs:i<p.size:=(by rw[P.sz];exact h);rw[Qt,Jx h,Array.getElem?_toList];simp[at_,Array.getD_eq_getD_getElem?,hs]
  ·rw[Je (by simp[P.sz];lia),Je (by simp;lia)]
 have nd:p.toList.Nodup:=by
  rw[e];refine QI.mpr (Jc.mpr λ i j hi hj hij h=>?_);have hi':i<n:=by simpa using hi
  have hj':j<n:=by simpa using hj
  have:=P.inj i j hi' hj' (by simpa using h);lia
 refine (Jq nd List.nodup_range).mpr λ a=>⟨λ h=>?_,λ h=>?_⟩
 ·rw[e] at h;obtain⟨i,hi,rfl⟩:=Qg.mp h;exact Qw.mpr (P.lt i (Qw.mp hi))
 ·refine Decidable.byContradiction λ hna=>?_;have hsub:∀x∈p.toList,x∈(Qk n).erase a:=λ x hx=>by refine (List.Nodup.mem_erase_iff List.nodup_range).mpr ⟨λ z=>hna (z▸hx),?_⟩;rw[e] at hx;obtain⟨i,hi,rfl⟩:=Qg.mp hx;exact Qw.mpr (P.lt i (Qw.mp hi))
  have hle:=len_sub nd hsub;rw[Jw h,QK,Array.length_toList,P.sz] at hle;have:=Qw.mp h;lia
end
end Srt
namespace Srt
open PySem PySem.W PyProof.Rows
section
variable {prog:Program}{w:World}{A:Around}{E:Value->Shared->Prop}{s:Shared}
def pick {α:Type}(p:Array Nat) (xs:List α) (d:α):List α:=p.toList.map λ i=>xs.getD i d
theorem q3U {α:Type}{n:Nat}{p:Array Nat}(P:Pm p n) (xs:List α) (d:α):(pick p xs d).length=n:=by unfold pick;rw[Qe,Array.length_toList,P.sz]
theorem q5n {α:Type}(xs:List α) (d:α):pick (Jn (Qk xs.length)) xs d=xs:=by
 unfold pick;refine List.ext_getElem? λ i=>?_;simp only[List.toList_toArray,Qt]
 by_cases h:i<xs.length
 ·rw[Jx h];simp[h]
 ·rw[Je (by simp;lia),Je (by lia)];rfl
theorem qGS {a:Addr}{vs:List Value}{e0:Nat}{c:Nat->Nat->Bool}{P:PySem.Fin->Shared->Prop}(ho:s.heap.get? a=some (seqObj "list" vs.toArray e0)) (h64:vs.length<64) (o:Ord c vs.length)
  (hk:2<=vs.length->∀h',(∀b x,b≠a->s.heap.get? b=some x->h'.get? b=some x)->wpAny (model prog w) A (keyKind' vs.toArray) (λ κ s'=>s'={s with heap:=h'}/\∀i j C,i<vs.length->j<vs.length->C (c i j) s'->kas_ask prog w A κ vs i j C s') (λ _ _=>False) {s with heap:=h'})
  (fin:∀(p:Array Nat) (h':Heap) (e:Nat),Pm p vs.length->Up c p vs.length->(∀b x,b≠a->s.heap.get? b=some x->h'.get? b=some x)->h'.get? a=some (seqObj "list" (pick p vs Value.none).toArray e)->P (.done (.ret .none)) {s with heap:=h'}) :
  wpAny (model prog w) A (Builtin.«list.sort» ⟨[.ref a],[]⟩) P E s:=by
 have lta:a<s.heap.objs.size:=Heap.lt_size ho;obtain⟨e1,g1⟩:∃e1,(s.heap.update a (Obj.mapSeq λ _=>(#[]:Array Value))).get? a=some (seqObj "list" #[] e1):=⟨_,get?_update_seq ho λ _=>#[]⟩
 generalize hh3:((s.heap.update a (Obj.mapSeq λ _=>(#[]:Array Value))).push (seqObj "tuple" vs.toArray 0)).push (seqObj "list" #[] 0)=h3;have kp:∀b x,b≠a->s.heap.get? b=some x->h3.get? b=some x:=λ b x nb q=>by rw[<-hh3];exact Heap.get?_push_of_some _ (Heap.get?_push_of_some _ ((Heap.get?_update_other _ _ (Ne.symm nb)).trans q))
 have g3:h3.get? a=some (seqObj "list" #[] e1):=by rw[<-hh3];exact Heap.get?_push_of_some _ (Heap.get?_push_of_some _ g1)
 have small:vs.length<=sizeLine:=by rw[sizeLine_eq];lia
 rw[list_sort_plain];refine wpAny_bind (listItems_at ho rfl (wpAny_bind (listUpdate_at ho rfl (wpAny_bind (seqEpoch_at g1 rfl (wpAny_bind (wpAny_newTuple ?_ small)))) (by simpa using small) (QM _))));refine wpAny_bind (wpAny_newList ?_ (QM _));refine wpAny_holding ?_;have hs3:({s with heap:=((s.heap.update a (Obj.mapSeq λ _=>(#[]:Array Value))).push {cls:= .type "tuple",data:= .seq vs.toArray.toList.toArray}).push {cls:= .type "list",data:= .seq ([]:List Value).toArray}}:Shared)={s with heap:=h3}:=by rw[<-hh3]
 rw[hs3];dsimp only
 by_cases h2:vs.toArray.size<2
 ·rw[if_pos h2,if_pos h2];refine wpAny_bind (wpAny_pure ?_);rw[StateT.run_pure];refine wpAny_bind (wpAny_pure ?_);dsimp only;have eo:((vs.toArray.zip vs.toArray).map λ x=>x.2)=vs.toArray:=by apply Array.toList_inj.mp;simp[List.map_snd_zip]
  simp only[eo];refine wpAny_bind (seqEpoch_at g3 rfl (wpAny_bind (listUpdate_at g3 rfl ?_ (QM _) (by simpa using Nat.le_succ_of_le small))));simp only[bne_self_eq_false,QL,if_false];obtain⟨e2,g4⟩:∃e2,(h3.update a (Obj.mapSeq λ _=>vs.toArray)).get? a=some (seqObj "list" vs.toArray e2):=⟨_,get?_update_seq g3 λ _=>vs.toArray⟩
  have hlen:vs.length<2:=by simpa using h2
  refine wpAny_pure (fin (Jn (Qk vs.length)) _ e2 q9W (λ i j hij hj=>by lia) (λ b x nb q=>(Heap.get?_update_other _ _ (Ne.symm nb)).trans (kp b x nb q)) ?_);rw[q5n];exact g4
 ·have h2':2<=vs.length:=by have:¬vs.length<2:=(by simpa using h2);lia
  rw[if_neg h2,if_neg h2];obtain⟨so1,so2,so3⟩:=qGR o h2';refine wpAny_bind (wpAny_mono (hk h2' h3 kp) (λ κ s4 h4=>?_) λ _ _ x=>x.elim);obtain⟨rfl,ask⟩:=h4;refine wpAny_bind (wpAny_mono (kat_run (Q:=λ st s5=>s5={s with heap:=h3}/\arrOf st=(run c (kas_sort vs.length)).map (kas_item (vs.toArray.zip vs.toArray))/\failedOf st=none) (G:=λ p s5=>p=run c (kas_sort vs.length)/\s5={s with heap:=h3}) rfl h2' h64 (λ p st s5 a1 a2 a3 a4=>⟨a4.2,by rw[a2,a4.1],a3⟩) (qJ8 ask _ so1 ⟨rfl,rfl⟩)) ?_ λ _ _ x=>x);rintro⟨⟨⟩,st⟩ s5 ⟨rfl,har,hf⟩;dsimp only;rw[kat_snds rfl har];have lp:(pick (run c (kas_sort vs.length)) vs Value.none).length=vs.length:=q3U so2 vs _;refine wpAny_bind (seqEpoch_at g3 rfl (wpAny_bind (listUpdate_at g3 rfl ?_ (QM _) (by show (Jn (pick (run c (kas_sort vs.length)) vs Value.none)).size<=_;rw[Qo,lp];exact Nat.le_succ_of_le small))));rw[hf];simp only[bne_self_eq_false,QL,if_false];obtain⟨e2,g4⟩:∃e2,(h3.update a (Obj.mapSeq λ _=>Jn (pick (run c (kas_sort vs.length)) vs Value.none))).get? a=some (seqObj "list" (Jn (pick (run c (kas_sort vs.length)) vs Value.none)) e2):=⟨_,get?_update_seq g3 λ _=>Jn (pick (run c (kas_sort vs.length)) vs Value.none)⟩
  exact wpAny_pure (fin _ _ e2 so2 so3 (λ b x nb q=>(Heap.get?_update_other _ _ (Ne.symm nb)).trans (kp b x nb q)) g4)
theorem q7V {x:Value}{n:Nat}{Gv:List Value->Prop}{c:Nat->Nat->Bool}{Q:Value->Shared->Prop}(h64:n<64) (o:Ord c n) (hlen:∀vs,Gv vs->vs.length=n)
  (hcol:∀(R:List Value->Shared->Prop),(∀vs h' tk,Gv vs->(∀b x,s.heap.get? b=some x->h'.get? b=some x)->R vs {s with heap:=h',toks:=tk})->wpAny (model prog w) A.in1 (collect x) R E s)
  (hk:∀vs,Gv vs->2<=vs.length->∀h' tk,(∀b x,s.heap.get? b=some x->h'.get? b=some x)->wpAny (model prog w) A.in1.in1 (keyKind' vs.toArray) (λ κ s'=>s'={s with heap:=h',toks:=tk}/\∀i j C,i<vs.length->j<vs.length->C (c i j) s'->kas_ask prog w A.in1.in1 κ vs i j C s') (λ _ _=>False) {s with heap:=h',toks:=tk})
  (fin:∀(vs:List Value) (p:Array Nat) (D:Addr) (h':Heap) (tk e:Nat),Gv vs->Pm p n->Up c p n->(∀b x,s.heap.get? b=some x->h'.get? b=some x)->s.heap.get? D=none->h'.get? D=some (seqObj "list" (pick p vs Value.none).toArray e)->Q (.ref D) {s with heap:=h',toks:=tk}) :
  wpAny (model prog w) A (call (.builtin "sorted") [x]) Q E s:=by
 refine Calls.call_function_entry kind_sorted plain_sorted entry_sorted (args_sorted1 _) ?_;unfold Builtin.«sorted»;refine wpAny_bind (m:=checkCount "sorted" 1 1 _) (wpAny_pure (wpAny_bind (hcol _ λ vs h1 tk gv k1=>?_)));have hl:=hlen vs gv;have hle:s.heap.get? h1.objs.size=none:=by
  cases q:s.heap.get? h1.objs.size with
  |none=>rfl
  |some x=>exact absurd (Heap.lt_size (k1 _ _ q)) (Ja _)
 refine wpAny_bind (wpAny_newList ?_ (by rw[sizeLine_eq];lia));refine wpAny_bind (wpAny_holding (wpAny_call_entry slot_list_sort ⟨_,Heap.get?_push_size _ rfl,rfl⟩ entry_list_sort (qGS (c:=c) (s:={s with heap:=h1.push {cls:= .type "list",data:= .seq vs.toArray},toks:=tk}) (e0:=0) (Heap.get?_push_size _ rfl) (hl▸h64) (hl▸o) (λ h2 h' k=>?_) λ p h' e P U k g=>?_) (args_list_sort _)))
 ·exact hk vs gv h2 h' tk λ b x q=>k b x (Qy (Heap.lt_size (k1 b x q))) (Heap.get?_push_of_some _ (k1 b x q))
 ·exact⟨_,rfl,wpAny_pure ⟨_,rfl,fin vs p _ h' tk e gv (hl▸P) (hl▸U) (λ b x q=>k b x (Qy (Heap.lt_size (k1 b x q))) (Heap.get?_push_of_some _ (k1 b x q))) hle g⟩⟩
end
end Srt
namespace Snd
open PySem PySem.Spec PyProof.Rows L2 Ev
variable {H:Hp}{h:Heap}{a:Addr}{ds:List D}
theorem q2D {P:Program}{w:World}{o:HO}(x:q1P P w H h a o):∃ob,h.get? a=some ob:=by
 cases o with
 |lst xs=>obtain⟨_,_,_,_,e⟩:=x;exact⟨_,e⟩
 |tup xs=>obtain⟨_,_,_,o,e,_⟩:=x;exact⟨_,e⟩
 |dK kvs=>obtain⟨_,_,_,_,o,_,_,e,_⟩:=x;exact⟨_,e⟩
 |dT kvs=>obtain⟨_,_,_,_,o,_,_,e,_⟩:=x;exact⟨_,e⟩
 |set S n=>obtain⟨o,_,_,_,e,_⟩:=x;exact⟨_,e⟩
 |ins C dx fs=>obtain⟨_,_,_,e,_⟩:=x;exact⟨_,e⟩
 |own y=>obtain⟨_,e⟩:=x;exact⟨_,e⟩
 |xd fs=>obtain⟨_,⟨_,_,_,e,_⟩,_⟩:=x;exact⟨_,e⟩
 |rng lo hi=>obtain⟨_,_,_,e⟩:=x;exact⟨_,e⟩
 |frz ob u=>obtain⟨e,_⟩:=x;exact⟨_,e⟩
 |tbl ps=>exact⟨_,(show h.get? a=some _ from x)⟩
 |met f y=>exact⟨_,(show h.get? a=some _ from x)⟩
 |ext φ=>obtain⟨_,⟨_,e⟩,_⟩:=x;exact⟨_,e⟩
theorem q6X {P:Program}{w:World}(x:HOk P w H h) (n:h.get? a=none):H a=none:=by
 cases q:H a with
 |none=>rfl
 |some o =>
  obtain⟨ob,e⟩:=q2D (x a o q);rw[n] at e;cases e
theorem qGT {X:Cx}{pins:List (Addr×Obj)}{σ:L2.St}{s:Shared}{h':Heap}{o:HO}{t':Nat}(I:Inv X pins σ H s) (k:∀b u,s.heap.get? b=some u->h'.get? b=some u) (hn:s.heap.get? a=none) (new:q1P X.prog X.w (upd H a o) h' a o) :
  Inv X pins σ (upd H a o) {s with heap:=h',toks:=t'}:=by
 have hf:=q6X I.hok hn;have nb:∀b u,s.heap.get? b=some u->b≠a:=λ b u e z=>by rw[z,hn] at e;cases e
 refine I.un ⟨λ b u q _ _ _=>k b u q,λ b u q _ _ _=>⟨u.slots,k b u q⟩,λ b u q n _=>by rw[q05 (nb b u q)];exact n,λ b u q _=>⟨u,k b u q⟩,λ b xs q=>by rw[q05 (q0A q hf)];exact q,λ b u xs q=>by rw[q05 (q0A q hf)];exact q,λ b ps q=>⟨#[],by rw[q05 (q0A q hf),q];simp⟩⟩ λ b u e=>?_
 by_cases hb:b=a
 ·subst hb;rw[q0B] at e;cases e;exact new
 ·rw[q05 hb] at e;exact (I.hok b u e).stay (λ c v _ q=>k c v q) (λ c q=>by rw[q05 (q0A q hf)];exact q) λ c xs q=>by rw[q05 (q0A q hf)];exact q
theorem q57 {h':Heap}(k:∀b o,h.get? b=some o->h'.get? b=some o):(∀d u,Dv h d u->Dv h' d u)/\(∀ds us,DvL h ds us->DvL h' ds us):=by
 refine D.ind (P:=λ d=>∀u,Dv h d u->Dv h' d u) (Q:=λ ds=>∀us,DvL h ds us->DvL h' ds us)
  (λ u r=>r) (λ _ u r=>r) (λ _ u r=>r) (λ _ u r=>r) (λ l ih u r=>?_) (λ l ih u r=>?_) (λ _ _ _ _ u r=>r) (λ _ u r=>r) (λ us r=>r) (λ d ds ih1 ih2 us r=>?_)
 ·obtain⟨a,us,rfl,⟨o,e,c⟩,r1⟩:=r;exact⟨a,us,rfl,⟨o,k _ _ e,c⟩,ih _ r1⟩
 ·obtain⟨a,us,rfl,⟨o,e,c⟩,r1⟩:=r;exact⟨a,us,rfl,⟨o,k _ _ e,c⟩,ih _ r1⟩
 ·obtain⟨u,r',rfl,h1,h2⟩:=r;exact⟨u,r',rfl,ih1 _ h1,ih2 _ h2⟩
theorem q6Y:∀l:List D,(dedup l).length<=l.length
 |[]=>Qi _
 |x::l=>by
  unfold dedup;split
  ·exact Nat.le_succ_of_le (q6Y l)
  ·exact Nat.succ_le_succ (q6Y l)
theorem q5o:∀{l:List D},qAM l=true->(∀d∈l,q02 d=true)->l.Pairwise (·≠·)
 |[],_,_=> .nil
 |x::l,h,hh=>by
  have h':(dedup (x::l)).length=(x::l).length:=of_decide_eq_true h;unfold dedup at h';split at h'
  ·have:=q6Y l;simp only[Qu] at h';lia
  ·rename_i c;refine QC.mpr ⟨λ y hy z=>c ?_,q5o (decide_eq_true (by simpa using h')) λ d hd=>hh d (Qa _ hd)⟩;refine QQ.mpr ⟨y,hy,(q0T (hh x Qb) (hh y (Qa _ hy))).mpr z⟩
structure SoOk (ds:List D):Prop where
 len:ds.length<64
 hsh:∀d∈ds,q02 d=true
 pln:∀d∈ds,pl d=true
 cmp:∀a∈ds,∀b∈ds,q0V a b=true
 dif:ds.Pairwise (·≠·)
theorem qBm (h:q1B ds=true):SoOk ds/\((∀d∈ds,q4S d=true)\/∀d∈ds,q1g d=true):=by unfold q1B at h;simp only[Qc,Ji,Qj] at h;obtain⟨⟨⟨⟨⟨h1,h2⟩,h3⟩,h4⟩,h5⟩,h6⟩:=h;have h2':=q0D.mp h2;refine⟨⟨of_decide_eq_true h1,h2',q1V.mp h3,λ a ha b hb=>?_,q5o h5 h2'⟩,h6⟩;unfold q1t at h4;simp only[Qj] at h4;exact h4 a ha b hb
def cOf (ds:List D) (i j:Nat):Bool:=ltb (ds.getD i .non) (ds.getD j .non)
theorem getD_mem {i:Nat}(h:i<ds.length):ds.getD i .non∈ds:=by
 have:ds.getD i .non=ds[i]:=by simp[h]
 rw[this];exact QT h
theorem SoOk.ord (h:SoOk ds):Srt.Ord (cOf ds) ds.length:=by
 refine⟨λ i hi=>q8M (h.hsh _ (getD_mem hi)),λ i j hi hj ne hc=>?_,λ i j k hi hj hk a b=>q4s (h.hsh _ (getD_mem hi)) (h.hsh _ (getD_mem hj)) (h.hsh _ (getD_mem hk)) a b⟩;rcases q8O (h.hsh _ (getD_mem hi)) (h.hsh _ (getD_mem hj)) (h.cmp _ (getD_mem hi) _ (getD_mem hj)) with z|z|z
 ·have hc':ltb (ds.getD i .non) (ds.getD j .non)=false:=hc;rw[z] at hc';cases hc'
 ·exfalso;have ei:ds.getD i .non=ds[i]:=by simp[hi]
  have ej:ds.getD j .non=ds[j]:=by simp[hj]
  rw[ei,ej] at z;rcases Nat.lt_or_gt_of_ne ne with l|l
  ·exact Jc.mp h.dif i j hi hj l z
  ·exact Jc.mp h.dif j i hj hi l z.symm
 ·exact z
theorem q7W (h:SoOk ds) {p:Array Nat}(P:Srt.Pm p ds.length) (U:Srt.Up (cOf ds) p ds.length):Srt.pick p ds .non=q20 ds:=by
 have perm:(Srt.pick p ds .non).Perm ds:=by
  have:=P.perm.map λ i=>ds.getD i .non;have e:(Qk ds.length).map (λ i=>ds.getD i .non)=ds:=by have:=Srt.q5n ds (.non:D);unfold Srt.pick at this;simpa using this
  rw[e] at this;exact this
 have hm:∀d∈Srt.pick p ds .non,d∈ds:=λ d hd=>perm.mem_iff.mp hd;refine q24 (perm.trans (q0F ds).symm) (λ d hd=>h.hsh d (hm d hd)) (λ a ha b hb=>h.cmp a (hm a ha) b (hm b hb)) ?_ (q1h h.hsh);refine Jc.mpr λ i j hi hj hij=>?_;have li:i<ds.length:=by rw[<-Srt.q3U P ds .non];exact hi
 have lj:j<ds.length:=by rw[<-Srt.q3U P ds .non];exact hj
 have at1:∀k (hk:k<(Srt.pick p ds .non).length),(Srt.pick p ds .non)[k]=ds.getD (Srt.at_ p k) .non:=λ k hk=>by
  have lk:k<p.size:=by rw[P.sz,<-Srt.q3U P ds .non];exact hk
  simp[Srt.pick,Srt.at_,Array.getD_eq_getD_getElem?,lk]
 rw[at1 i hi,at1 j hj];have:=U i j hij lj;exact h.ord.asym (P.lt i li) (P.lt j lj) this
end Snd
namespace Snd
open PySem PySem.Spec PySem.W PyProof.Rows L2 Ev
variable {d:D}{u:Value}{ds:List D}{us:List Value}
section
variable {prog:Program}{w:World}{A:Around}{E:Value->Shared->Prop}{s:Shared}
theorem qF6 {k:Nat}(hu:A.units+k<cLine) {b fin:Bool}{Q:Bool->Shared->Prop}:∀{ds es:List D}{us vs:List Value}(i:Nat),1<=i->DvL s.heap ds us->DvL s.heap es vs->(∀d∈ds,plN k d=true)->(∀d∈es,plN k d=true)->(∀d∈ds,q02 d=true)->(∀d∈es,q02 d=true)->
  q0l ds es=true->fin=decide (ds.length<es.length)->Q (ltbL ds es) s->KatLex prog w A b fin Q (us.zip vs) i s
 |[],es,us,vs,i,hi,x,y,p1,p2,g1,g2,c,hf,q=>by
  cases (show us=[] from x);rw[List.zip_nil_left];refine kat_nil ?_;rw[hf];cases es with
  |nil=>simpa[ltbL] using q
  |cons e es=>simpa[ltbL] using q
 |d::ds,[],us,vs,i,hi,x,y,p1,p2,g1,g2,c,hf,q=>by cases (show vs=[] from y);rw[List.zip_nil_right];refine kat_nil ?_;rw[hf];simpa[ltbL] using q
 |d::ds,e::es,us,vs,i,hi,x,y,p1,p2,g1,g2,c,hf,q=>by
  obtain⟨u,us',rfl,x1,x2⟩:=x;obtain⟨v,vs',rfl,y1,y2⟩:=y;rw[JA];have pd:=p1 d Qb;have pe:=p2 e Qb;have gd:=g1 d Qb;have ge:=g2 e Qb;rw[ltbL] at q;rw[q0l] at c;refine kat_cons (q2S k pd pe x1 y1 hu prog w _ _ ?_);cases z:eqb d e with
  |true =>
   rw[z,if_pos rfl] at q c;refine kat_yes (qF6 hu (i+1) (by lia) x2 y2 (λ d hd=>p1 d (Qa _ hd)) (λ d hd=>p2 d (Qa _ hd)) (λ d hd=>g1 d (Qa _ hd)) (λ d hd=>g2 d (Qa _ hd)) c ?_ q);rw[hf];simp
  |false =>
   rw[z,if_neg (by simp)] at q c;refine kat_no ?_;have hb:(b&&i==0)=false:=by have:(i==0)=false:=(by simp;lia);rw[this,Bool.and_false]
   rw[hb];exact kat_one _ _ ((q7M k pd pe gd ge c x1 y1 hu).1 prog w _ _ q)
theorem qJ9 {k:Nat}(hu:A.units+k<cLine) {Q:Bool->Shared->Prop}{e:D}{v:Value}(td:q23 d=true) (te:q23 e=true) (x:Dv s.heap d u) (y:Dv s.heap e v) (p1:plN (k+1) d=true) (p2:plN (k+1) e=true) (g1:q02 d=true) (g2:q02 e=true)
  (c:q0V d e=true) (q:Q (ltb d e) s):wpAny (model prog w) A (keyLt' (tuples' true) u v) Q E s:=by
 unfold q23 at td te;split at td
 ·rename_i i ds;split at te
  ·rename_i j es;obtain⟨a,us,rfl,⟨ox,hx,cx,n1,dx⟩,x1⟩:=x;obtain⟨b,vs,rfl,⟨oy,hy,cy,n2,dy⟩,y1⟩:=y;obtain⟨u1,us',rfl,⟨t1,rfl⟩,x2⟩:=x1;obtain⟨v1,vs',rfl,⟨t2,rfl⟩,y2⟩:=y1;rw[q1U,Qj] at p1 p2;have g1':q08 (D.int i::ds)=true:=g1;have g2':q08 (D.int j::es)=true:=g2;have g1'':=q0D.mp g1';have g2'':=q0D.mp g2';have c':q0l (D.int i::ds) (D.int j::es)=true:=c;have q':Q (ltbL (D.int i::ds) (D.int j::es)) s:=q;refine kat_lt hx dx hy dy ?_;show KatLex prog w A true _ Q ((Value.int i t1,Value.int j t2)::us'.zip vs') 0 s;refine kat_cons (SeqAt.EqAt.int_int i t1 j t2 prog w _ _ ?_);rw[ltbL] at q';rw[q0l] at c';have lx:=x2.length;have ly:=y2.length;have eq1:eqb (D.int i) (D.int j)=(i==j):=by have:eqb (D.int i) (D.int j)=decide (i=j):=(by simp[eqb]);rw[this,QE];simp
   rw[eq1] at q' c';cases z:(i==j) with
   |true =>
    rw[z,if_pos rfl] at q' c';refine kat_yes (qF6 hu 1 (Qi _) x2 y2 (λ d hd=>p1 d (Qa _ hd)) (λ d hd=>p2 d (Qa _ hd)) (λ d hd=>g1'' d (Qa _ hd)) (λ d hd=>g2'' d (Qa _ hd)) c' ?_ q');simp[lx,ly]
   |false =>
    rw[z,if_neg (by simp)] at q' c';refine kat_no ?_;have e3:ltb (D.int i) (D.int j)=decide (i<j):=(by simp[ltb]);rw[e3] at q';exact oneLt_int q'
  ·cases te
 ·cases td
theorem q7X {h:Heap}:∀{ds:List D}{us:List Value},DvL h ds us->(∀d∈ds,q23 d=true)->∃fs,KatTups h us fs/\fs.length=ds.length/\∀f∈fs,∃i t,f=Value.int i t
 |[],us,x,_=>by cases (show us=[] from x);exact⟨[],KatTups.nil,rfl,λ f hf=>absurd hf (by simp)⟩
 |d::ds,us,x,t=>by
  obtain⟨u,r,rfl,x1,x2⟩:=x;obtain⟨fs,k1,k2,k3⟩:=q7X x2 λ d hd=>t d (Qa _ hd);have td:=t d Qb;unfold q23 at td;split at td
  ·rename_i i0 tl0;obtain⟨a,us,rfl,⟨ox,hx,cx,n1,dx⟩,y1⟩:=x1;obtain⟨u1,us',rfl,⟨t1,rfl⟩,y2⟩:=y1;refine⟨Value.int i0 t1::fs,KatTups.cons hx cx dx (by simp) k1,by simp[k2],λ f hf=>?_⟩;rcases Qf.mp hf with rfl|hf
   ·exact⟨_,_,rfl⟩
   ·exact k3 f hf
  ·cases td
theorem q45 {h:Heap}(x:DvL h ds us) {i:Nat}(hi:i<ds.length):Dv h (ds.getD i .non) (us.getD i Value.none):=by
 obtain⟨u,e1,e2⟩:=x.get (i:=i) (d:=ds[i]) (by simp[hi]);have e3:ds.getD i .non=ds[i]:=by simp[hi]
 have e4:us.getD i Value.none=u:=by simp[QY,e1]
 rw[e3,e4];exact e2
theorem qBn (hu:A.units+8<cLine) (so:SoOk ds) (hI:∀d∈ds,q23 d=true) (x:DvL s.heap ds us) (h2:2<=us.length) :
  wpAny (model prog w) A (keyKind' us.toArray) (λ κ s'=>s'=s/\∀i j C,i<us.length->j<us.length->C (cOf ds i j) s'->kas_ask prog w A κ us i j C s') (λ _ _=>False) s:=by
 have hl:=x.length;obtain⟨fs,k1,k2,k3⟩:=q7X x hI;refine kat_kind (T:= .type "int") k1 (by lia) (λ v hv=>?_) (by decide) ⟨rfl,λ i j C hi hj hC=>?_⟩
 ·obtain⟨i,t,rfl⟩:=k3 v hv;exact Looks.of_pure rfl
 ·have mi:=getD_mem (ds:=ds) (i:=i) (by lia);have mj:=getD_mem (ds:=ds) (i:=j) (by lia);exact qJ9 (k:=7) (by lia) (hI _ mi) (hI _ mj) (q45 x (by lia)) (q45 x (by lia)) (so.pln _ mi) (so.pln _ mj) (so.hsh _ mi) (so.hsh _ mj) (so.cmp _ mi _ mj) hC
theorem q9X:∀{ds:List D}{us:List Value}{Q:List (Option Value)->Shared->Prop},DvL s.heap ds us->(∀d∈ds,q1g d=true)->(∀fs:List (Option Value),fs.length=ds.length->(∀i:Nat,i<ds.length->((fs.getD i none).isSome=true↔q23 (ds.getD i .non)=true))->Q fs s)->wpAny (model prog w) A (us.mapM firstOfTuple') Q E s
 |[],us,Q,x,_,h=>by cases (show us=[] from x);rw[List.mapM_nil];exact wpAny_pure (h [] rfl λ i hi=>absurd hi (by simp))
 |d::ds,us,Q,x,t,h=>by
  obtain⟨u,r,rfl,x1,x2⟩:=x;have td:=t d Qb;have rest:∀f:Option Value,(f.isSome=true↔q23 d=true)->wpAny (model prog w) A (r.mapM firstOfTuple') (λ bs s'=>wpAny (model prog w) A (pure (f::bs)) Q E s') E s:=λ f hf =>
   q9X x2 (λ d hd=>t d (Qa _ hd)) λ fs l1 l2=>wpAny_pure (h (f::fs) (by simp[l1]) λ i hi=>by
    cases i with
    |zero=>exact hf
    |succ i=>exact l2 i (by simpa using hi))
  rw[List.mapM_cons];refine wpAny_bind ?_;rw[kas_first_eq];have go:∀(a:Addr) (vs:List Value),u = .ref a->IsTup s.heap a vs.toArray->(vs[0]?.isSome=true↔q23 d=true)->wpAny (model prog w) A (do
    if (<-typeOf u) != .type "tuple" then return none
    return (<-Builtin.List.listItems u)[0]?) (λ f s'=>wpAny (model prog w) A (r.mapM firstOfTuple' >>= λ bs=>pure (f::bs)) Q E s') E s:=λ a vs hu0 ht hf=>by
   subst hu0;obtain⟨o,ho,hc,n,hd⟩:=ht;refine wpAny_bind (Looks.here (show Looks (model prog w) s.heap (typeOf (.ref a)) o.cls from (Looks.ld ho).andThen .now) ?_);rw[hc,if_neg (by first|decide|simp)];refine wpAny_bind (listItems_at ho hd (wpAny_pure ?_));have e:vs.toArray[0]? = vs[0]?:=(by simp);rw[e];exact wpAny_bind (rest _ hf)
  unfold q1g at td;split at td
  ·obtain⟨a,vs,rfl,z,y1⟩:=x1;cases (show vs=[] from y1);exact go a [] rfl z (by simp[q23])
  ·obtain⟨a,vs,rfl,z,y1⟩:=x1;obtain⟨u1,us',rfl,_,_⟩:=y1;exact go a _ rfl z (by simp[q23])
  ·cases td
theorem qBo {k:Nat}(hu:A.units+(k+1)<cLine) {Q:Bool->Shared->Prop}{e:D}{v:Value}(td:q1g d=true) (te:q1g e=true) (x:Dv s.heap d u) (y:Dv s.heap e v) (p1:plN (k+1) d=true) (p2:plN (k+1) e=true) (g1:q02 d=true) (g2:q02 e=true)
  (c:q0V d e=true) (q:Q (ltb d e) s) (b:Bool):wpAny (model prog w) A (oneLt' b u v) Q E s:=by
 cases b with
 |false=>exact kat_one _ _ ((q7M (k+1) p1 p2 g1 g2 c x y hu).1 prog w _ _ q)
 |true =>
  obtain⟨ds,rfl⟩:∃ds,d = .tup ds:=by unfold q1g at td;split at td<;>first|exact⟨_,rfl⟩|cases td
  obtain⟨es,rfl⟩:∃es,e = .tup es:=by unfold q1g at te;split at te<;>first|exact⟨_,rfl⟩|cases te
  obtain⟨a,us,rfl,x1,x2⟩:=x;obtain⟨b,vs,rfl,y1,y2⟩:=y;rw[q1U] at p1 p2;have c':q0l ds es=true:=by simpa[q0V] using c
  have h1':q08 ds=true:=by simpa[q02] using g1
  have h2':q08 es=true:=by simpa[q02] using g2
  obtain⟨⟨cls,dd,data,sl⟩,ho,hc,n,hd⟩:=id x1;obtain⟨⟨cls2,dd2,data2,sl2⟩,ho2,hc2,n2,hd2⟩:=id y1;simp only at hc hd hc2 hd2;subst hc hd hc2 hd2;have e1:ltb (.tup ds) (.tup es)=ltbL ds es:=by simp[ltb]
  rw[e1] at q;rw[oneLt'_eq];simp only[if_true];refine wpAny_bind (wpAny_cRoomFor (by lia) ?_);refine wpAny_bind (wpAny_callSpecialIfBound?_slot ⟨_,ho,rfl⟩ PySem.F.slot_tuple_lt (call_meets PySem.F.slot_tuple_lt ⟨_,ho,rfl⟩ PySem.F.entry_tuple_lt (PySem.F.args_tuple_lt_2 _ _) (q7L a b us vs n n2 dd dd2 sl sl2 ds es c') ⟨ho,ho2,x2,y2,λ d hd e he u v x y=>?_,?_⟩))
  ·have hu':A.in1.units+k<cLine:=(by rw[Around.in1_units];lia);have q1:=Qj.mp p1 d hd;have q2:=Qj.mp p2 e he;exact⟨q2S k q1 q2 x y hu',λ c=>(q7M k q1 q2 (q0D.mp h1' d hd) (q0D.mp h2' e he) c x y hu').1⟩
  ·exact wpAny_truthy_bool q
theorem qBp (hu:A.units+8<cLine) (so:SoOk ds) (hk:∀d∈ds,q1g d=true) (hI:¬∀d∈ds,q23 d=true) (x:DvL s.heap ds us) (h2:2<=us.length) :
  wpAny (model prog w) A (keyKind' us.toArray) (λ κ s'=>s'=s/\∀i j C,i<us.length->j<us.length->C (cOf ds i j) s'->kas_ask prog w A κ us i j C s') (λ _ _=>False) s:=by
 have hl:=x.length;have lt:∀(b:Bool) (i j:Nat) (C:Bool->Shared->Prop),i<us.length->j<us.length->C (cOf ds i j) s->wpAny (model prog w) A (oneLt' b (us.getD i Value.none) (us.getD j Value.none)) C (λ _ _=>False) s:=λ b i j C hi hj hC=>by have mi:=getD_mem (ds:=ds) (i:=i) (by lia);have mj:=getD_mem (ds:=ds) (i:=j) (by lia);exact qBo (k:=7) (by lia) (hk _ mi) (hk _ mj) (q45 x (by lia)) (q45 x (by lia)) (so.pln _ mi) (so.pln _ mj) (so.hsh _ mi) (so.hsh _ mj) (so.cmp _ mi _ mj) hC b
 rw[keyKind'_eq,List.mapM_toArray,map_eq_pure_bind];refine wpAny_bind (wpAny_bind (q9X x hk λ fs l1 l2=>wpAny_pure ?_));have hna:¬(fs.toArray.all (·.isSome))=true:=λ h=>hI λ d hd=>by
  obtain⟨i,hi,rfl⟩:=List.mem_iff_getElem.mp hd;have h':fs.all (·.isSome)=true:=by simpa using h
  have:=Qj.mp h' (fs[i]'(by lia)) (QT _);have z:=(l2 i hi).mp (by simpa[QY,show i<fs.length by lia] using this);simpa[QY,hi] using z
 rw[if_neg hna]
 by_cases h0:(fs.toArray[0]?.bind id).isSome=true
 ·rw[if_pos h0];exact wpAny_pure ⟨rfl,λ i j C hi hj hC=>lt false i j C hi hj hC⟩
 ·rw[if_neg h0];have ty:∀v∈us,Looks (model prog w) s.heap (typeOf v) (.type "tuple"):=λ v hv=>by
   obtain⟨d,hd,dv⟩:=x.mem hv;have:=hk d hd;obtain⟨es,rfl⟩:∃es,d = .tup es:=by unfold q1g at this;split at this<;>first|exact⟨_,rfl⟩|cases this
   obtain⟨a,vs,rfl,⟨o,ho,hc,n,hdd⟩,_⟩:=dv;exact hc▸(show Looks (model prog w) s.heap (typeOf (.ref a)) o.cls from (Looks.ld ho).andThen .now)
  rw[oneTypeOnly'_eq,List.mapM_toArray,map_eq_pure_bind];refine wpAny_bind (wpAny_bind (wpAny_bind (kas_mapM (r:=Value.type "tuple") _ (λ v hv Q' hq=>(ty v hv).here hq) (wpAny_pure ?_))));obtain⟨u0,ur,rfl⟩:∃u0 ur,us=u0::ur:=by
   match us,h2 with
   |u0::ur,_=>exact⟨u0,ur,rfl⟩
  have hall:((List.map (λ _=>Value.type "tuple") (u0::ur)).toArray.all λ x=>x==Value.type "tuple")=true:=by simp only[List.all_toArray,List.all_map,Qj];intro _ _;rfl
  have h00:(List.map (λ _=>Value.type "tuple") (u0::ur)).toArray[0]? = some (Value.type "tuple"):=by simp
  rw[h00];simp only[hall,if_true];exact wpAny_pure (wpAny_pure ⟨rfl,λ i j C hi hj hC=>lt true i j C hi hj hC⟩)
theorem qBq (hu:A.units+8<cLine) (so:SoOk ds) (hk:(∀d∈ds,q4S d=true)\/∀d∈ds,q1g d=true) (x:DvL s.heap ds us) (h2:2<=us.length) :
  wpAny (model prog w) A (keyKind' us.toArray) (λ κ s'=>s'=s/\∀i j C,i<us.length->j<us.length->C (cOf ds i j) s'->kas_ask prog w A κ us i j C s') (λ _ _=>False) s:=by
 have hl:=x.length;rcases hk with hk|hk
 ·have allI:∀u∈us,∃i t,u=Value.int i t:=λ u hu=>by
   obtain⟨d,hd,dv⟩:=x.mem hu;have:=hk d hd;unfold q4S at this;split at this
   ·obtain⟨t,e⟩:=dv;exact⟨_,t,e⟩
   ·cases this
  refine kas_kind (T:= .type "int") h2 (λ v hv=>?_) (by decide) (by decide) ⟨rfl,λ i j C hi hj hC=>?_⟩
  ·obtain⟨i,t,rfl⟩:=allI v hv;exact Looks.of_pure rfl
  ·have di:=q45 x (i:=i) (by lia);have dj:=q45 x (i:=j) (by lia);have ki:=hk _ (getD_mem (ds:=ds) (i:=i) (by lia));have kj:=hk _ (getD_mem (ds:=ds) (i:=j) (by lia));unfold cOf at hC;unfold kas_ask;unfold q4S at ki kj;split at ki
   ·rename_i m e1;split at kj
    ·rename_i n e2;rw[e1] at di hC;rw[e2] at dj hC;obtain⟨t1,f1⟩:=di;obtain⟨t2,f2⟩:=dj;rw[f1,f2];refine kat_lt_int ?_;have e3:ltb (D.int m) (D.int n)=decide (m<n):=(by simp[ltb]);rw[e3] at hC;exact hC
    ·cases kj
   ·cases ki
 ·by_cases hI:∀d∈ds,q23 d=true
  ·exact qBn hu so hI x h2
  ·exact qBp hu so hk hI x h2
end
section
variable {X:Cx}{p:Pm}{G:Nat->List D->R D}{sub:Nat->Nat->Bool}
theorem q9Y {Hf:Hp}{ds:List D}{vs:List V}(r:RepL p Hf ds vs):∀{l:List Nat},(∀i∈l,i<ds.length)->RepL p Hf (l.map λ i=>ds.getD i .non) (l.map λ i=>vs.getD i .non)
 |[],_=>rfl
 |i::l,h=>by
  have hi:=h i Qb;obtain⟨v,e1,e2⟩:=r.get (i:=i) (d:=ds[i]) (by simp[hi]);refine⟨vs.getD i .non,_,rfl,?_,q9Y r λ i hi=>h i (Qa _ hi)⟩;have e3:ds.getD i .non=ds[i]:=by simp[hi]
  have e4:vs.getD i .non=v:=by simp[QY,e1]
  dsimp only;rw[e3,e4];exact e2
theorem q7Y {vs:List V}{us:List Value}(r:Vals vs us):∀{l:List Nat},(∀i∈l,i<vs.length)->Vals (l.map λ i=>vs.getD i .non) (l.map λ i=>us.getD i Value.none)
 |[],_=> .nil
 |i::l,h=>by
  have hi:=h i Qb;obtain⟨u,e1,e2⟩:=r.get (i:=i) (x:=vs[i]) (by simp[hi]);have e3:vs.getD i .non=vs[i]:=by simp[hi]
  have e4:us.getD i Value.none=u:=by simp[QY,e1]
  refine .cons ?_ (q7Y r λ i hi=>h i (Qa _ hi));dsimp only;rw[e3,e4];exact e2
theorem q58 {E:Value->Shared->Prop}{pins:List (Addr×Obj)}{s:Shared}{σ:L2.St}{H:Hp}{O:List Addr}{vs:List V}{q:Array Nat}{Dd:Addr}{h':Heap}{tk e n:Nat}(I:Inv X pins σ H s) (t:Th O H) (r1:RepL p (fz O H) ds vs) (rv:Vals vs us) (hz:vs.length<=sizeLine)
  (P:Srt.Pm q n) (hn:n=ds.length) (k:∀b x,s.heap.get? b=some x->h'.get? b=some x) (nD:s.heap.get? Dd=none) (g:h'.get? Dd=some (seqObj "list" (Srt.pick q us Value.none).toArray e)) :
  EP (X.wish E) pins σ (Fin p O H (.lst (Srt.pick q ds .non))) (.ref Dd) {s with heap:=h',toks:=tk}:=by
 have hl:=r1.length;have lt:∀i∈q.toList,i<ds.length:=λ i hi=>by have:=P.perm.mem_iff.mp hi;rw[<-hn];exact Qw.mp this
 have lt2:∀i∈q.toList,i<vs.length:=λ i hi=>hl▸lt i hi;have hf:=q6X I.hok nD;refine⟨.ref Dd,upd H Dd (.lst (Srt.pick q vs .non)),(qGT (o:= .lst (Srt.pick q vs .non)) I k nD ⟨?_,_,_,q7Y rv lt2,g⟩).wish E,rfl,Ext.upd hf,Dd,_,rfl,SqL.of (qBb t hf),(q9Y r1 lt).mono (q1D (Ext.upd hf))⟩;rw[Srt.q3U P,hn,hl];exact hz
def Yld (X:Cx) (p:Pm) (A:Around) (E:Value->Shared->Prop) (s:Shared) (Hf:Hp) (ds:List D) (x:Value):Prop :=
 ∃vs:List V,RepL p Hf ds vs/\vs.length<=sizeLine/\∀(R:List Value->Shared->Prop),(∀us h' tk,Vals vs us->(∀b x,s.heap.get? b=some x->h'.get? b=some x)->R us {s with heap:=h',toks:=tk})->wpAny (model X.prog X.w) A (collect x) R E s
theorem qJA (hK:p.K=X.K) (hc:X.calm=true) {A:Around}(hA:A.handled=none) {E:Value->Shared->Prop}{pins:List (Addr×Obj)}{s:Shared}{σ:L2.St}{H:Hp}{O:List Addr}{v:V}(I:Inv X pins σ H s) (rv:RelV v u) (q:RepB p H (fz O H) d v) (hi:q0W d = .ok ds) :
  Yld X p A E s (fz O H) ds u:=by
 cases d<;>first
  |(exfalso;simpa[q0W] using hi)
  |skip
 ·cases hi;obtain⟨a,vs,rfl,s1,z,r1⟩:=q;cases rv;obtain⟨its,rv,⟨o,ho,hcl,n,hd⟩,hz⟩:=I.tuple (hK▸q0Y.sqT s1:SqT X.K H a vs);exact⟨vs,r1,hz,λ R hR=>wpAny_collect_seq a (.inr rfl) ho hcl hd (λ h' k=>by simpa using hR its h' s.toks rv k) (by simpa[<-rv.length] using hz)⟩
 ·cases hi;obtain⟨a,vs,rfl,s1,r1⟩:=q;cases rv;obtain⟨its,rv,pt,hz⟩:=I.list (hK▸s1:SqL X.K H a vs);obtain⟨o,ho,hcl,n,hd⟩:=pt.isList;exact⟨vs,r1,hz,λ R hR=>wpAny_collect_seq a (.inl rfl) ho hcl hd (λ h' k=>by simpa using hR its h' s.toks rv k) (by simpa[<-rv.length] using hz)⟩
 ·rename_i ks ws;obtain⟨a,kvs,rfl,s1,rfl,r1⟩:=q;cases rv;have hki:(ints? (kvs.map λ q=>keyD q.1)).isSome=true:=by
   cases h:(ints? (kvs.map λ q=>keyD q.1)).isSome with
   |true=>rfl
   |false=>simp[q0W,h] at hi
  have e0:q0W (.dct (kvs.map λ q=>keyD q.1) ws) = .ok (kvs.map λ q=>keyD q.1):=by simp[q0W,hki]
  rw[e0] at hi;cases hi;obtain⟨z,hd,xs,rel,o,es,ep,h1,h2,h3,h4,h5,h6⟩:=q8E I.hok s1;have hl:=KV.length rel;refine⟨_,q6Q hki,by simpa using z,λ R hR=>PySem.W.kdu_collect (A:=A) (PySem.W.kdl_dict (kvs:=xs) (ep:=ep) hd) hA ⟨o,es,h1,h2,h3,h4,h5,h6⟩ (hl▸z) λ h' tk acc hk hacc=>hR _ h' tk ?_ hk⟩;obtain⟨a1,a2⟩:=hacc;have hlen:acc.toList.length=kvs.length:=by rw[Array.length_toList,a1,hl]
  have all:∀(ks:List (Key×V)) (us:List Value),us.length=ks.length->(∀(i:Nat) (q:Key×V) (u:Value),ks[i]? = some q->us[i]? = some u->RelV (kV q.1) u)->Vals (ks.map λ q=>kV q.1) us:=by
   intro ks
   induction ks with
   |nil=>intro us hl _;cases us with
    |nil=>exact .nil
    |cons _ _=>simp at hl
   |cons q ks ih=>intro us hl h;cases us with
    |nil=>simp at hl
    |cons u us=>exact .cons (h 0 q u rfl rfl) (ih us (by simpa using hl) λ i q u e1 e2=>h (i+1) q u (by simpa using e1) (by simpa using e2))
  refine all kvs acc.toList hlen λ i q u e1 e2=>?_;have hi:i<acc.size:=by have:=(Qd.mp e2).1;simpa using this
  obtain⟨k',x',b1,b2⟩:=a2 i u (by simpa using e2);obtain⟨u',hu'⟩:=KV.key rel e1;rw[b1] at hu';cases hu';exact qJ3 b2
theorem qBr (hK:p.K=X.K) (hc:X.calm=true) (hu:X.A.units+64<cLine):BS X p sub .sorted (.builtin "sorted"):=by
 intro E pins s σ H os d r v u I t rv q h;cases hi:q0W d with
 |stuck=>exact absurd (show (q0W d).bind _ = .ok r from h) (by rw[hi];intro z;cases z)
 |err c=>exact absurd (show (q0W d).bind _ = .ok r from h) (by rw[hi];intro z;cases z)
 |ok ds =>
  have h':(if q1B ds then R.ok (D.lst (q20 ds)) else .stuck) = .ok r:=by rw[<-h];show _=(q0W d).bind _;rw[hi];rfl
  split at h'
  ·rename_i so;cases h';obtain⟨sk,kd⟩:=qBm so;obtain⟨vs,r1,hz,hcol⟩:=qJA (E:=E) hK hc (A:=X.A.in1) (I.ok.hd hc) I rv q hi;refine Srt.q7V (Gv:=λ us=>Vals vs us) sk.len sk.ord (λ us rvs=>by rw[<-rvs.length,<-r1.length]) hcol (λ us rvs h2 h' tk k=>?_) λ us q D h' tk e rvs P U k nD g=>?_
   ·exact qBq (s:={s with heap:=h',toks:=tk}) (by show X.A.units+1+1+8<cLine;lia) sk kd ((q57 k).2 _ _ ((q2T hK I).2 ds vs us (r1.mono q0Y) rvs)) h2
   ·rw[<-q7W sk P U];exact q58 I t r1 rvs hz P rfl k nD g
  ·cases h'
end
end Snd
namespace Snd
open PySem PySem.Spec PyProof.Rows L2 Ev
variable {h:Heap}{pins:List (Addr×Obj)}{σ:L2.St}{H:Hp}{b:Addr}{c:Nat}
def TrW (B:Heap) (l:List PySem.Env) (e:Addr) (cls a0 fl:Value) (h:Heap):Prop:=B.StaysIn h/\B.get? e=none/\h.FunFrames B l/\h.TracedAtW B e cls a0 fl
section
variable {M:Model}{A:Around}{E:Value->Shared->Prop}{s:Shared}{B:Heap}{l outer:List PySem.Env}{env:PySem.Env}{e L:Addr}{cls a0 fl:Value}{Q:Unit->Shared->Prop}
theorem qDq {o:Option Addr}(h:TrW B l e cls a0 fl s.heap) (hQ:∀h',TrW B l e cls a0 (o.elim Value.none λ f=>rawInt f) h'->s.heap.UpToSlots h'->Q () {s with heap:=h'}):wpAny M A (setFlight (.ref e) o) Q E s:=by
 obtain⟨k1,k2,k3,oe,vs,T,oT,ts,g1,g2,g3,g4,g5,g6,g7,g8,g9⟩:=h;have sz:3<ts.size:=(Array.getElem?_eq_some_iff.mp g9).1;generalize hv:(o.elim Value.none λ f=>rawInt f)=fv at hQ;have oth:∀b,b≠T->(s.heap.update T (Obj.mapFields λ x=>x.setIfInBounds 3 fv)).get? b=s.heap.get? b:=λ b nb=>Heap.get?_update_other _ _ (Ne.symm nb);have nrec:∀b x,s.heap.get? b=some x->(∀vs,x.data ≠ .fields vs)->b≠T:=λ b x q nf z=>by rw[z,g7] at q;cases q;exact nf ts g8
 unfold setFlight;refine wpAny_bind (wpAny_field g1 g3 g4 ?_);have ht:(Value.ref T != Value.none)=true:=by simp
 rw[if_pos ht,hv];refine wpAny_setField g7 g8 sz (hQ _ ⟨λ b x q=>(oth b λ z=>by rw[z,g5] at q;cases q).trans (k1 b x q),k2,k3.of_keeps λ b x q nf=>⟨x,(oth b (nrec b x q nf)).trans q,rfl⟩,?_⟩ λ b x q nf=>⟨x.slots,(oth b (nrec b x q nf)).trans q⟩);exact⟨oe,vs,T,_,_,(oth e (Ne.symm g6)).trans g1,g2,g3,g4,g5,g6,Heap.get?_update_self _ g7 (Obj.isFreed_of_fields (Obj.data_mapFields g8 _)),Obj.data_mapFields g8 _,by simp[sz]⟩
theorem qF7 (hfr:A.frames=some (env::outer)) (hf:env.frame=some L) (h:TrW B (env::outer) e cls a0 fl s.heap) (hfl:fl = .none\/fl=rawInt L) (hQ:∀h',TrW B (env::outer) e cls a0 (rawInt L) h'->s.heap.UpToSlots h'->Q () {s with heap:=h'}) :
  wpAny M A (noteFrame (.ref e) env) Q E s:=by
 rcases hfl with rfl|rfl
 ·exact wpAny_looks_onW hfr hf h hQ
 ·exact wpAny_noteFrame_againW hf h.2.2.2 (hQ s.heap h (Heap.UpToSlots.refl _))
theorem qDr {args:List Value}(hfr:A.frames=some (env::outer)) (hf:env.frame=some L) (hkb:B.StaysIn h) (hl:h.FunFrames B (env::outer)) (hx:Heap.MadeExcOf h s.heap e cls args)
  (hQ:∀h' t,TrW B (env::outer) e cls (.ref t) (rawInt L) h'->s.heap.UpToSlots h'->Q () {s with heap:=h'}):wpAny M A (noteFrame (.ref e) env) Q E s:=by
 obtain⟨t,g1,g2,g3⟩:=hx.there;have ne:B.get? e=none:=by
  cases q:B.get? e with
  |none=>rfl
  |some o=>have:=hkb e o q;rw[hx.new] at this;cases this
 have kb:B.StaysIn s.heap:=λ b o q=>hx.keeps b o (hkb b o q);unfold noteFrame;simp only[hf];refine wpAny_bind (wpAny_field g1 rfl (x:= .none) rfl ?_);have hn:¬((Value.none != Value.none)=true):=by decide
 rw[if_neg hn];refine wpAny_entryW (a0:= .ref t) hfr (hl.of_keeps λ b o q _=>⟨o,hx.keeps b o q,rfl⟩) hf g1 kb ne rfl (by simp) rfl λ h' hN=>?_;obtain⟨n1,n2,n3,n4⟩:=hN;exact hQ h' t ⟨n1,ne,n2,n3⟩ n4
end
section
variable {X:Cx}{p:Pm}
theorem q9Z (ok:X.Ok):∀b∈X.fs,b∈frs X.stack:=λ b hb=>by
 rcases ok.stk with e|⟨e,hf⟩
 ·rw[e];exact hb
 ·rw[e];unfold frs;rw[Q6,hf];exact Qa _ hb
theorem q1l {s:Shared}{B h':Heap}(I:Inv X pins σ H s) (b:BOk X pins H B) (st:B.StaysIn h') (up:s.heap.UpToSlots h'):Inv X pins σ H {s with heap:=h'}:=by
 have nst:∀c o,X.s₀.heap.get? c=some o->c∉X.fs->c∉frs X.stack:=λ c o e hc hm=>by
  rcases Qf.mp (I.q3D c hm) with z|z
  ·exact absurd (Qn (Heap.lt_size e) I.ok.above) (by rw[z];exact Ja _)
  ·exact hc z
 have hok:HOk X.prog X.w H h':=b.hok.kept st;have slot:∀c o,X.s₀.heap.get? c=some o->X.H₀ c=none->c∈X.fs->c∉X.ex->∃sl,h'.get? c=some {o with slots:=sl}:=λ c o e n hc hx=>by obtain⟨sl,e1⟩:=I.base.slot c o e n hc hx;obtain⟨_,o',ho',hd'⟩:=I.ok.funs.mem hc;rw[e] at ho';cases ho';obtain⟨sl',e2⟩:=up c _ e1 hd';exact⟨sl',e2⟩
 have cellK:∀c v,s.heap.IsCell c v->h'.IsCell c v:=λ c v ⟨o,e,d⟩=>by
  obtain⟨sl,e2⟩:=up c o e λ vs z=>by rw[d] at z;cases z
  exact⟨_,e2,d⟩
 refine⟨I.ok,I.os,I.bare,⟨λ c o e n hc hx=>?_,slot,I.base.free,λ c o e hx=>?_,I.base.tups,I.base.frzs,I.base.tbls⟩,?_,λ x c e=>?_,I.free,I.freeC,λ q hq=>?_,hok,I.len⟩
 ·exact st _ _ (b.keep c o e n (nst c o e hc) hx)
 ·by_cases hc:c∈X.fs
  ·obtain⟨sl,e2⟩:=slot c o e (I.ok.frf c hc) hc hx;exact⟨_,e2⟩
  ·obtain⟨o',e2⟩:=b.there c o e (nst c o e hc) hx;exact⟨_,st _ _ e2⟩
 ·obtain⟨m,hn,hl⟩:=I.loc;refine⟨m,up.ns hn,λ i x v e1 e2 e3=>?_⟩;obtain⟨u,r,l⟩:=hl i x v e1 e2 e3;refine⟨u,r,?_⟩;rcases l with l|⟨k,c,e,z⟩
  ·exact .inl l
  ·exact .inr ⟨k,c,e,cellK c _ z⟩
 ·obtain⟨v,z⟩:=I.cell x c e;exact⟨v,cellK c v z⟩
 ·obtain⟨_,n,ne,nf,d⟩:=I.pin q hq;exact⟨st _ _ (b.pin q hq),n,ne,nf,d⟩
def hidF (X:Cx) (h:Heap):Heap:=PySem.W.hideAll h (frs X.stack)
theorem q4j {o:Obj}(e:h.get? b=some o) (n:b∉frs X.stack):(hidF X h).get? b=some o:=PySem.W.hideAll_get _ e n
theorem qGU {o:Obj}(e:(hidF X h).get? b=some o):h.get? b=some o:=PySem.W.of_hideAll _ e
theorem qBs (hb:b∈frs X.stack):(hidF X h).get? b=none:=PySem.W.hideAll_none _ hb
theorem q9a {s:Shared}(I:Inv X pins σ H s):BOk X pins H (hidF X s.heap):=by
 have nfr:∀b o,H b=some o->b∉frs X.stack:=λ b o e hm=>by rw[I.q8D b hm] at e;cases e
 refine⟨λ a o e=>?_,λ b o e n hb hx=>?_,λ b o e hb hx=>?_,λ q hq=>?_⟩
 ·refine (I.hok a o e).stay (λ c v hc q=>q4j q ?_) (λ _ q=>q) λ _ _ q=>q;rcases hc with rfl|hc
  ·exact nfr _ _ e
  ·exact nfr _ _ hc
 ·exact q4j (I.base.keep b o e n (λ z=>hb (q9Z I.ok b z)) hx) hb
 ·obtain⟨o',e'⟩:=I.base.there b o e hx;exact⟨o',q4j e' hb⟩
 ·obtain⟨e,n,ne,nf,d⟩:=I.pin q hq;refine q4j e λ z=>?_;rcases Qf.mp (I.q3D _ z) with z|z
  ·exact ne z
  ·exact nf z
theorem q8Y {s:Shared}(I:Inv X pins σ H s):s.heap.FunFrames (hidF X s.heap) X.stack:=by
 have all:∀l:List PySem.Env,(∀b∈frs l,b∈frs X.stack)->s.heap.FunFrames X.base l->s.heap.FunFrames (hidF X s.heap) l:=by
  intro l
  induction l with
  |nil=>intro _ _;trivial
  |cons env r ih =>
   intro hs hl;obtain⟨hk,⟨L,o,hf,hn,ho,hd⟩,hr⟩:=hl;have hL:L∈frs X.stack:=hs L (by unfold frs;rw[Q6,hf];exact Qb);exact⟨hk,⟨L,o,hf,qBs hL,ho,hd⟩,ih (λ b hb=>hs b (by unfold frs;rw[Q6,hf];exact Qa _ hb)) hr⟩
 exact all X.stack (λ _ hb=>hb) I.stack
structure Top (X:Cx):Prop where
 stk:X.stack=X.env::X.outer
 frame:X.env.frame=some X.env.locals
theorem Top.frames (T:Top X) (ok:X.Ok):X.A.frames=some (X.env::X.outer):=by rw[ok.frames,T.stk]
theorem q6Z {E:Value->Shared->Prop}{Q:Unit->Shared->Prop}{e:Value}{s:Shared}(T:Top X) (m:Mid X p pins σ H c e s)
  (hQ:∀H' a C B t h',e = .ref a->p.cls[c]? = some C->Ext H H'->Inv X pins σ H' {s with heap:=h'}->BOk X pins H' B->TrW B X.stack a (.ref C) (.ref t) (rawInt X.env.locals) h'->Q () {s with heap:=h'}):wpAny (model X.prog X.w) X.A (noteFrame e X.env) Q E s:=by
 obtain⟨H',a,C,rfl,h2,h3,h4⟩:=m;rcases h4 with ⟨s1,vs,I,mk,es⟩|⟨B,t,I,b,f⟩|⟨B,t,L,hL,I,b,f⟩
 ·have kb:(hidF X s1.heap).StaysIn s1.heap:=λ b o e=>qGU e;refine qDr (B:=hidF X s1.heap) (T.frames I.ok) T.frame kb (T.stk▸q8Y I) mk λ h' t tr up=>?_;have hs:({s with heap:=h'}:Shared)={s1 with heap:=h'}:=by rw[es]
  refine hQ H' a C _ t h' rfl h2 h3 ?_ (q9a I) (T.stk▸tr);rw[hs];exact q1l I (q9a I) tr.1 ((Heap.UpToSlots.of_keeps mk.keeps).trans up)
 ·refine qF7 (fl:= .none) (T.frames I.ok) T.frame (T.stk▸f) (.inl rfl) λ h' tr up=>?_;exact hQ H' a C B t h' rfl h2 h3 (q1l I b tr.1 up) b (T.stk▸tr)
 ·rw[T.frame] at hL;cases hL;refine qF7 (fl:=rawInt X.env.locals) (T.frames I.ok) T.frame (T.stk▸f) (.inr rfl) λ h' tr up=>?_;exact hQ H' a C B t h' rfl h2 h3 (q1l I b tr.1 up) b (T.stk▸tr)
theorem qAS {e:Value}{s:Shared}{P:Value->Shared->Prop}(T:Top X) (m:Mid X p pins σ H c e s) (hP:∀s',Mid X p pins σ H c e s'->P e s'):notedBy (model X.prog X.w) X.A X.env (cameBackBy (model X.prog X.w) X.A X.env P) e s:=by
 refine q6Z T m λ H' a C B t h' e1 e2 e3 I b tr=>?_;subst e1;obtain⟨_,_,_,oe,vs,T',oT,ts,g1,g2,g3,g4,_⟩:=id tr;unfold cameBackBy;refine wpAny_bind (wpAny_field g1 g3 g4 ?_);have hn:¬((Value.ref T'==Value.none)=true):=by simp
 rw[if_neg hn,T.frame];refine qDq tr λ h2 tr2 up2=>?_;exact hP _ ⟨H',a,C,rfl,e2,e3,.inr (.inr ⟨B,t,_,T.frame,q1l (s:={s with heap:=h'}) I b tr2.1 up2,b,tr2⟩)⟩
theorem q7Z {H0:Hp}{O0:List Addr}{r:RS}(T:Top X):PassesOwn (model X.prog X.w) X.A X.env (Es X p H0 O0 pins r):=λ e s h=>by obtain⟨c,ρ',σ',os',H',h1,h2,m⟩:=h;exact qAS T m λ s' m'=>⟨c,ρ',σ',os',H',h1,h2,m'⟩
noncomputable def CXs (P:Program) (w:World):CXT:=λ outer H s E e s'=>∃H' a C B t,e = .ref a/\E e (some C) H'/\Ext H H'/\s'.os=s.os/\AllBare s'.gens/\HOk P w H' B/\(∀b o,s.heap.get? b=some o->H b=none->b∉frs outer->B.get? b=some o)/\
 (∀b o,s.heap.get? b=some o->H b=none->H' b=none)/\(∀b o,s.heap.get? b=some o->H b=none->b∈frs outer->∃sl,s'.heap.get? b=some {o with slots:=sl})/\Heap.FlyingW B outer a (.ref C) (.ref t) s'.heap
theorem qAT {e:Value}{s:Shared}{Ex:XK}{Q:Unit->Shared->Prop}{E:Value->Shared->Prop}(T:Top X) (hex:X.ex=[]) (m:Mid X p pins σ H c e s) (x0:Ext X.H₀ H)
  (hE:∀C H',p.cls[c]? = some C->Ext X.H₀ H'->Ex e (some C) H') (hQ:∀s',CXs X.prog X.w X.outer X.H₀ X.s₀ Ex e s'->Q () s'):wpAny (model X.prog X.w) X.A (leaving X.env e) Q E s:=by
 unfold leaving;refine wpAny_bind (q6Z T m λ H' a C B t h' e1 e2 e3 I b tr=>?_);subst e1;refine qDq tr λ h2 tr2 up2=>hQ _ ?_;have I2:=q1l (s:={s with heap:=h'}) I b tr2.1 up2;have nx:∀b,b∉X.ex:=λ b=>by rw[hex];simp
 have tr3:TrW B (X.env::X.outer) a (.ref C) (.ref t) .none h2:=T.stk▸tr2;obtain⟨k1,k2,⟨_,_,k3⟩,k4⟩:=tr3;refine⟨H',a,C,B,t,rfl,hE C H' e2 (x0.trans e3),x0.trans e3,I2.os,I2.bare,b.hok,λ c o q n hc=>?_,λ c o q n=>I2.base.free c o q n (nx c),λ c o q n hc=>I2.base.slot c o q n hc (nx c),k1,k2,k3,k4⟩;refine b.keep c o q n (λ hm=>?_) (nx c);rcases Qf.mp (I2.q3D c hm) with z|z
 ·exact absurd (Qn (Heap.lt_size q) I2.ok.above) (by rw[z];exact Ja _)
 ·exact hc z
theorem qBt {e:Value}{s s':Shared}{Ex:XK}(I:Inv X pins σ H s) (h:CXs X.prog X.w X.stack H s Ex e s') (hE:∀C H',Ex e (some C) H'->p.cls[c]? = some C):Mid X p pins σ H c e s':=by
 obtain⟨H',a,C,B,t,rfl,h1,h2,h3,h4,h5,h6,h7,h8,h9⟩:=h;have hok:HOk X.prog X.w H' s'.heap:=h5.kept h9.1;have un:Un (frs X.stack) [] H H' s.heap s'.heap:=by
  refine⟨λ b o q n hb _=>h9.1 _ _ (h6 b o q n hb),λ b o q n hb _=>h8 b o q n hb,λ b o q n _=>h7 b o q n,λ b o q _=>?_,λ b xs q=>h2 _ _ q,λ b o u q=>h2 _ _ q,λ b ps q=>⟨#[],by rw[h2 _ _ q];simp⟩⟩;cases n:H b with
  |some u=>exact q2D (hok b u (h2 _ _ n))
  |none =>
   by_cases hb:b∈frs X.stack
   ·obtain⟨sl,e⟩:=h8 b o q n hb;exact⟨_,e⟩
   ·exact⟨_,h9.1 _ _ (h6 b o q n hb)⟩
 have I':Inv X pins σ H' s':=I.qFS (ch:=[]) h3 un hok h4 (λ b z=>absurd z (by simp));refine⟨H',a,C,rfl,hE C H' h1,h2,.inr (.inl ⟨B,t,I',⟨h5,λ b o q n hb hx=>?_,λ b o q hb hx=>?_,λ q hq=>?_⟩,h9⟩)⟩
 ·exact h6 b o (I.base.keep b o q n (λ z=>hb (q9Z I.ok b z)) hx) (I.base.free b o q n hx) hb
 ·obtain⟨o',q'⟩:=I.base.there b o q hx;cases n:H b with
  |some u=>exact q2D (h5 b u (h2 _ _ n))
  |none=>exact⟨_,h6 b o' q' n hb⟩
 ·obtain⟨q1,n,ne,nf,d⟩:=I.pin q hq;refine h6 _ _ q1 n λ z=>?_;rcases Qf.mp (I.q3D _ z) with z|z
  ·exact ne z
  ·exact nf z
end
end Snd
namespace Snd
open PySem PySem.Spec PyProof.Rows L2 Ev
noncomputable def spG (p:Pm) (G:Nat->List D->R D) (f n:Nat):Sp:=λ vs H Q E=>∃ds O,vs.length=n/\O.Nodup/\Th O H/\RepL p (fz O H) ds vs/\G f ds ≠ .stuck/\
 (∀r v H',G f ds = .ok r->Ext H H'->Rep p (fz O H') r v->Q v H')/\(∀c C H' e,G f ds = .err c->p.cls[c]? = some C->Ext H H'->E e (some C) H')
section
variable {X:Cx}{p:Pm}{G:Nat->List D->R D}{sub:Nat->Nat->Bool}
theorem qDs {k j:Nat}{f:Addr}{fd:FuncData}{ps:List Str}{pins:List (Addr×Obj)}{σ:L2.St}{H:Hp}{s:Shared}{O:List Addr}{ds:List D}{vs:List V}{us:List Value}(F:FnOk X.prog X.w X.K X.mg X.base (CXs X.prog X.w) k f fd ps (spG p G j ps.length))
  (hr:Room k X.A) (hb:Binds X.K fd ps []) (I:Inv X pins σ H s) (r:Vals vs us) (nd:O.Nodup) (t:Th O H) (q:RepL p (fz O H) ds vs) (hl:ds.length=ps.length) (hs:G j ds ≠ .stuck) :
  wpAny (model X.prog X.w) X.A (call (.ref f) us) (λ u s'=>∃d v H',G j ds = .ok d/\Inv X pins σ H' s'/\RelV v u/\Ext H H'/\Rep p (fz O H') d v) (Er X p pins σ H (G j ds)) s:=by
 have hlv:vs.length=ps.length:=by rw[<-q.length];exact hl
 have hlu:(us++[]).length=ps.length:=by rw[Q2,<-r.length];exact hlv
 have sp0:spG p G j ps.length vs H (λ v H'=>∃d,G j ds = .ok d/\Ext H H'/\Rep p (fz O H') d v) (λ e C H'=>∃c C',G j ds = .err c/\C=some C'/\p.cls[c]? = some C') :=
  ⟨ds,O,hlv,nd,t,q,hs,λ r v H' e x w=>⟨r,e,x,w⟩,λ c C H' e h1 h2 _=>⟨c,C,h1,rfl,h2⟩⟩
 have hb':=hb s us I.kIn hlu;rw[Q2] at hb';refine wpAny_call (codeAny_mono (F.run X.A X.stack s H ⟨us,[]⟩ us vs _ _ hr I.env0 hb' r sp0) λ rr s' hq=>?_);cases rr with
 |error e =>
  have hq:CXs X.prog X.w X.stack H s (λ e C H'=>∃c C',G j ds = .err c/\C=some C'/\p.cls[c]? = some C') e s':=hq;obtain⟨H',a,C,B,tt,h0,⟨c,C',h1,h2,h3⟩,hrest⟩:=id hq;exact⟨c,h1,qBt I hq λ C2 H2 ⟨c2,C3,g1,g2,g3⟩=>by rw[h1] at g1;cases g1;cases g2;exact g3⟩
 |ok fl =>
  cases fl with
  |ret u =>
   obtain⟨v,H',I',rv,d,e,x,w⟩:=I.after hq;exact⟨d,v,H',e,I',rv,x,w⟩
  |next=>exact False.elim hq
  |brk=>exact False.elim hq
  |cont=>exact False.elim hq
theorem q5p {H Hf:Hp}:∀(n:Nat),q1I p H Hf (Qh n none) (Qh n none) (Qh n [])
 |0=>trivial
 |n+1=>⟨none,Qh n none,[],Qh n [],rfl,rfl,rfl,q5p n⟩
theorem qDt (n:Nat) (O:List Addr):(Qh n []++[O]).flatten=O:=by simp
theorem qDu {N:List Str}{H:Hp}{O:List Addr}{ds:List D}{vs:List V}(nd:O.Nodup) (t:Th O H) (q:RepL p (fz O H) ds vs) (hl:vs.length<=N.length) :
  Bd p H O (vals ds++Qh (N.length-ds.length) none) (L2.start N vs) (Qh N.length []) H:=by
 have e:=q.length;have f:(Qh N.length []++[O]).flatten=O:=qDt _ _;refine⟨⟨by rw[f];exact nd,by rw[f];exact t,?_⟩,?_,?_,Ext.refl _,λ a ha=>absurd ha (by simp)⟩
 ·rw[f];have h:=q42 (more:=[O]) (q55 (p:=p) (H:=H) (Hf:=fz O H) (q5p (N.length-ds.length)) q);have e2:Qh ds.length ([]:List Addr)++Qh (N.length-ds.length) []=Qh N.length []:=by rw[List.replicate_append_replicate];congr 1;lia
  rw[e2] at h;unfold L2.start;rw[<-e];exact h
 ·simp[vals];lia
 ·simp[vals,L2.start];lia
theorem qJB {P:Program}{w:World}{K:PySem.W.Frag}{mg:Str->Option Value}{base:Heap}{k j:Nat}{f:Addr}{name qual:Str}{params:Arguments}{body:List Stmt}{scope:Scope}{dV kV doc pm cdv ct oc:Value}{an od:Option Addr}
  {osl:Array (Option Value)}{N ps:List Str}{G':Nat->List D->R D}{l:List S}(lk:K.lookup f=some ⟨oc,od,.func (PySem.W.fnOf name qual params body scope dV kV doc pm an cdv ct),osl⟩) (hcd:PySem.W.codeIn K cdv qual=true) (S:FnScope N ps scope)
  (hG:∀ds,G j ds ≠ .stuck->ds.length=ps.length->G j ds=Ev.run G' sub N.length l ds)
  (hbody:∀(A:Around) (outer:List PySem.Env) (s:Shared) (H:Hp) (E:XK),Room k (A.deeper (envOfC qual scope s.heap.objs.size f cdv))->Env0 P w K mg base A outer s H->SSs (cxOf (CXs P w) P w K mg base N qual scope f cdv A outer s H E) p G' sub body l) :
  FnOk P w K mg base (CXs P w) (k+1) f (PySem.W.fnOf name qual params body scope dV kV doc pm an cdv ct) ps (spG p G j ps.length):=by
 refine⟨λ vs H Q E h=>h.choose_spec.choose_spec.1,λ A outer s H args us vs Q E hr e0 hb r hsp=>?_⟩;obtain⟨ds,O,hl,nd,t,q,ns,q1,q2⟩:=hsp;have KX:K.In s.heap:=e0.mod.kin.keeps λ b o e=>(e0.bs b o e).1;have lim:s.heap.NoLimit:=e0.mod.nolimit.keeps λ b o e=>(e0.bs b o e).1;have hkind:∀y∈ps.zip us,scope.names.lookup y.1=some .local\/(scope.names.lookup y.1=some .cell/\((cellsFrom (s.heap.objs.size+1) scope.names []).lookup y.1).isSome=true):=λ⟨n,v⟩ hy=>by
  rcases S.par n (List.of_mem_zip hy).1 with q|q
  ·exact .inl q
  ·exact .inr ⟨q,PySem.W.cellsFrom_some _ _ _ (.inl q)⟩
 refine codeAny_call_function hr.depth (KX _ _ lk) rfl S.co S.gen rfl (PySem.W.codeRec_of KX hcd) (hb _ _ _ _ ?_);refine wpAny_newFunctionEnv_cells S.kind hkind λ env he s1 x=>?_;subst he;refine⟨lim.keeps x.toInCall.keep,codeAny_func ?_⟩;have I:Inv (cxOf (CXs P w) P w K mg base N qual scope f cdv A outer s H E) [] (L2.start N vs) H s1:=qAy S hr.hd e0 hl r x;have hpl:ps.length<=N.length:=by have:=congrArg List.length S.pre;rw[List.length_take] at this;lia
 have B:=qDu (N:=N) nd t q (by lia);have hrun:=hG ds ns (by rw[q.length];exact hl);rw[hrun] at ns q1 q2;unfold Ev.run at ns q1 q2;have T:Top (cxOf (CXs P w) P w K mg base N qual scope f cdv A outer s H E):=⟨rfl,rfl⟩
 generalize hr0:exs G' sub l (vals ds++Qh (N.length-ds.length) none)=r0 at ns q1 q2;have ns':r0 ≠ .stuck:=λ e=>ns (by rw[e]);refine wpAny_mono (hbody A outer s H E (hr.deeper _) e0 H O _ (q7Z (p:=p) (H0:=H) (O0:=O) (pins:=[]) (r:=r0) T) [] s1 _ H _ _ I B (by rw[hr0];exact ns') (λ e s' z=>by rw[hr0] at z;exact z)) (λ fl s' hs=>?_) λ e s' hs=>?_
 ·rw[hr0] at hs;obtain⟨ρ',fl',σ',os',H',e1,B',I',r'⟩:=hs;subst e1;cases fl'<;>cases fl<;>first|exact r'.elim|skip
  ·exact⟨.non,H',I'.os,I'.bare,I'.base,I'.hok,rfl,q1 .non .non H' rfl B'.ext rfl⟩
  ·exact absurd rfl ns
  ·exact absurd rfl ns
  ·obtain⟨v,rv,w'⟩:=r';exact⟨v,H',I'.os,I'.bare,I'.base,I'.hok,rv,q1 _ v H' rfl B'.ext w'⟩
 ·obtain⟨c,ρ',σ',os',H',e1,B',m⟩:=hs;subst e1;exact qAT T rfl m B'.ext (λ C H2 h1 h2=>q2 c C H2 e rfl h1 h2) λ s2 h2=>h2
end
end Snd
namespace Snd
open PySem PySem.Spec PyProof.Rows L2 Ev
variable {x y:Str}{pos:Pos}{a:PySem.Expr}
section
variable {X:Cx}{p:Pm}{G:Nat->List D->R D}{sub:Nat->Nat->Bool}
def JP (X:Cx) (e:PySem.Expr) (y:Str):Prop:=∀(E:Value->Shared->Prop) (pins:List (Addr×Obj)) (σ:L2.St) (H:Hp) (s:Shared),Inv X pins σ H s->
 wpAny (model X.prog X.w) X.A (eval e X.env) (λ u s'=>(∃t,u = .str y t)/\Inv X pins σ H s') E s
def SM (X:Cx) (e:PySem.Expr):Prop:=∀(E:Value->Shared->Prop) (pins:List (Addr×Obj)) (σ:L2.St) (H:Hp) (s:Shared),Inv X pins σ H s->
 wpAny (model X.prog X.w) X.A (eval e X.env) (λ u s'=>Inv X pins σ H s') E s
theorem qJC {j:Nat}:JP X (.Constant (.str x) j pos) x:=λ E pins σ H s I =>
 Calls.Constant_str ⟨⟨_,rfl⟩,I.tok _⟩
theorem qJD {a:Int}{t:Tok}{q:Pos}(hg:Gl X x) (hm:X.mg x=some (.int a t)) (hd:(x==("__debug__":Str))=false) (hl:a.natAbs.log2<1920):JP X (.FormattedValue (.Name x q) (-1) none pos) (toString a):=λ E pins σ H s I =>
 PyProof.Rows.FormattedValue_plain (q3t I hg hm (PyProof.Rows.formatField_int_small hl ⟨⟨_,rfl⟩,I.tok _⟩) hd)
theorem q59 {rest:List (Sem Value)}{out:Str}{e:PySem.Expr}{E:Value->Shared->Prop}{pins:List (Addr×Obj)}{σ:L2.St}{H:Hp}{s:Shared}{Q:Value->Shared->Prop}(he:JP X e y) (I:Inv X pins σ H s) (hz:(out++y).length<=sizeLine)
  (h:∀s',Inv X pins σ H s'->wpAny (model X.prog X.w) X.A (joinParts (out++y) rest) Q E s'):wpAny (model X.prog X.w) X.A (joinParts out (eval e X.env::rest)) Q E s :=
 PyProof.Rows.joinParts_cons (wpAny_mono (he E pins σ H s I) (λ u s' ⟨⟨t,e⟩,I'⟩=>by subst e;exact⟨hz,h s' I'⟩) λ _ _ z=>z)
theorem qJE {b:PySem.Expr}(ha:JP X a x) (hb:JP X b y) (h1:(Str.empty++x).length<=sizeLine) (h2:(Str.empty++x++y).length<=sizeLine):SM X (.JoinedStr [a,b] pos):=λ E pins σ H s I =>
 PyProof.Rows.JoinedStr_many (q59 ha I h1 λ s1 I1=>q59 hb I1 h2 λ s2 I2=>PyProof.Rows.joinParts_nil (I2.tok _) h2)
theorem qDv {b c:PySem.Expr}{z:Str}(ha:JP X a x) (hb:JP X b y) (hc:JP X c z) (h1:(Str.empty++x).length<=sizeLine) (h2:(Str.empty++x++y).length<=sizeLine) (h3:(Str.empty++x++y++z).length<=sizeLine):SM X (.JoinedStr [a,b,c] pos):=λ E pins σ H s I =>
 PyProof.Rows.JoinedStr_many (q59 ha I h1 λ s1 I1=>q59 hb I1 h2 λ s2 I2=>q59 hc I2 h3 λ s3 I3=>PyProof.Rows.joinParts_nil (I3.tok _) h3)
theorem qDw {c:Nat}{C:Addr}{bm:List Value}{newId initId B:String}{np cpos:Pos}(hc:X.calm=true) (hg:Gl X x) (O:OwnCls x C bm newId X.mg X.base) (FB:ExcBaseFacts B newId initId bm) (hcl:p.cls[c]? = some C) (ha:SM X a)
  (hd:(x==("__debug__":Str))=false) (hst:starEach [a] X.env=[(false,eval a X.env)]):SS X p G sub (.Raise (some (.Call (.Name x np) [a] [] cpos)) none pos) (.raise c):=by
 intro H0 O0 E hp pins s σ H ρ os I B hs hE;have e0:ex G sub (.raise c) ρ = .err c ρ:=rfl;rw[e0] at hE |-;obtain⟨tl,N,nm,q,bs,hdct,sn,sb,ab,col,dd,k0,k1,k2,k3,k5,mN,hC,hN,hni,T⟩:=O.obj;refine wpAny_Raise_call_subT (C:=C) (nm:=nm) (q:=q) (N:=N) (bs:=bs) (bm:=tl) (hdct:=hdct) (sn:=sn) (sub:=sb) (ab:=ab) (col:=col) (dd:=dd) (k0:=k0) (k1:=k1) (k2:=k2) (k3:=k3) (k5:=k5)
  FB (mN:=mN) (T.hasType FB.hasBase) (I.ok.hd hc) (by rw[hst];rfl) hni (q3t I hg O.bound ⟨rfl,?_⟩ hd)
 rw[hst];refine Calls.evalArgs_plain ?_;show wpAny _ _ (spliced ((false,eval a X.env)::backTo cpos [])) _ _ s;refine Calls.spliced_cons (wpAny_mono (ha E pins σ H s I) (λ u s1 I1=>?_) λ _ _ z=>z);refine Calls.spliced_nil ⟨rfl,show 1<=sizeLine by rw[sizeLine_eq];decide,I1.bk _ _ hC,hN.keeps I1.bk,T.keeps I1.bk,λ h' e mk=>?_⟩;exact hE _ _ ⟨c,ρ,σ,os,H,rfl,B,H,e,C,rfl,hcl,Ext.refl _,.inl ⟨s1,_,I1,mk,rfl⟩⟩
end
end Snd
namespace Snd
open PySem PySem.Spec PyProof.Rows L2 Ev
variable {pins:List (Addr×Obj)}{σ:L2.St}{H:Hp}{s:Shared}
section
variable {X:Cx}{p:Pm}{G:Nat->List D->R D}{sub:Nat->Nat->Bool}
def mk (X:Cx) (e:Addr):Cx:={X with A:=X.A.mark (some (.ref e)),calm:=false}
theorem qF8 {e:Addr}(I:Inv X pins σ H s):Inv (mk X e) pins σ H s :=
 ⟨⟨I.ok.mod,I.ok.kind,I.ok.glob,I.ok.blt,I.ok.above,I.ok.inj,I.ok.has,I.ok.cab,λ z=>(nomatch z),I.ok.frames,I.ok.stk,I.ok.exf,I.ok.bs,I.ok.bsz,I.ok.noex,I.ok.exfs,I.ok.funs,I.ok.frf⟩,I.os,I.bare,I.base,I.loc,I.cell,I.free,I.freeC,I.pin,I.hok,I.len⟩
theorem qBu {B:Heap}{a C:Addr}{a0 fl:Value}(I:Inv X pins σ H s) (b:BOk X pins H B) (tr:TrW B X.stack a (.ref C) a0 fl s.heap) :
  H a=none/\Inv X pins σ (upd H a (.ext (q3N a C))) s:=by
 obtain⟨k1,k2,k3,oe,vs,T,oT,ts,g1,g2,g3,_⟩:=tr;have hn:H a=none:=q6X b.hok k2;have nst:a∉frs X.stack:=λ hm=>by obtain⟨_,o,ho,hd⟩:=k3.mem hm;rw[g1] at ho;cases ho;exact hd _ g3
 have n0:∀o,X.s₀.heap.get? a=some o->a∉X.ex->False:=λ o e hx=>by obtain⟨o',e'⟩:=b.there a o e nst hx;rw[k2] at e';cases e'
 have hok:HOk X.prog X.w (upd H a (.ext (q3N a C))) s.heap:=λ c u e=>by
  by_cases hc:c=a
  ·subst hc;rw[q0B] at e;cases e;exact⟨⟨oe,g1,g2.1⟩,⟨oe,g1⟩,λ h1 h2 ⟨o,e1,e2⟩ k=>⟨o,k o e1,e2⟩⟩
  ·rw[q05 hc] at e;exact (I.hok c u e).stay (λ _ _ _ q=>q) (λ d q=>by rw[q05 (q0A q hn)];exact q) λ d xs q=>by rw[q05 (q0A q hn)];exact q
 refine⟨hn,I.ok,I.os,I.bare,⟨I.base.keep,I.base.slot,λ c o e n hx=>?_,I.base.there,λ c xs e=>?_,λ c o u e=>?_,λ c ps e=>?_⟩,I.loc,I.cell,?_,λ x c e=>?_,λ q hq=>?_,hok,I.len⟩
 ·rw[q05 λ z=>by rw[z] at e hx;exact n0 o e hx];exact I.base.free c o e n hx
 ·have:=I.base.tups c xs e;rw[q05 (q0A this hn)];exact this
 ·have:=I.base.frzs c o u e;rw[q05 (q0A this hn)];exact this
 ·obtain⟨more,this⟩:=I.base.tbls c ps e;exact⟨more,by rw[q05 (q0A this hn)];exact this⟩
 ·rw[q05 λ z=>?_]
  ·exact I.free
  ·obtain⟨m,⟨o,es,ep,ho,hd,_⟩,_⟩:=I.loc;rw[z,g1] at ho;cases ho;rw[g3] at hd;cases hd
 ·rw[q05 λ z=>?_]
  ·exact I.freeC x c e
  ·obtain⟨v,o,ho,hd⟩:=I.cell x c e;rw[z,g1] at ho;cases ho;rw[g3] at hd;cases hd
 ·obtain⟨e,n,ne,nf,d⟩:=I.pin q hq;refine⟨e,?_,ne,nf,d⟩;rw[q05 λ z=>?_]
  ·exact n
  ·have:=b.pin q hq;rw[z,k2] at this;cases this
theorem name_goes {E:Value->Shared->Prop}{Q:Unit->Shared->Prop}{i:Nat}{x:Str}{pos:Pos}(I:Inv X pins σ H s) (hN:X.N.Nodup) (hi:X.N[i]? = some x) (hl:X.env.scope.names.lookup x=some .local)
  (h:∀s',Inv X pins (σ.set i none) H s'->Q () s'):wpAny (model X.prog X.w) X.A (do bindName X.env x .none;unbindBehindTheSuite X.env x pos) Q E s:=by
 obtain⟨m,hn,hlo⟩:=id I.loc;have hcls:(X.env.scope.kind == .class || (X.env.scope.kind == .module&&X.env.locals != X.env.globals))=false:=by rw[I.ok.kind];rfl
 have hiσ:i < σ.length:=by rw[I.len];exact (Qd.mp hi).1
 have cne:=I.cne;refine wpAny_nameGoes_keeps hl hn hcls λ h' v hn' hs=>?_;obtain⟨oL,_,_,hoL,_⟩:=id hn;have hok:HOk X.prog X.w H h':=λ b ob e=>by
  refine (I.hok b ob e).stay (λ c w' hc q=>(hs.2 c ?_).trans q) (λ _ q=>q) λ _ _ q=>q;rintro rfl;rcases hc with rfl|hc
  ·rw[I.free] at e;cases e
  ·rw[I.free] at hc;cases hc
 have low:∀b o,X.s₀.heap.get? b=some o->b≠X.env.locals:=λ b o e=>Qy (Qn (Heap.lt_size e) I.ok.above);refine h _ ⟨I.ok,I.os,I.bare,⟨λ b o e n hb hx=>?_,λ b o e n hb hx=>?_,I.base.free,λ b o e hx=>?_,I.base.tups,I.base.frzs,I.base.tbls⟩,⟨_,hn',λ j y v' e1 e2 e3=>?_⟩,λ y c e=>?_,I.free,I.freeC,λ q hq=>?_,hok,by simpa using I.len⟩
 ·exact (hs.2 b (low b o e)).trans (I.base.keep b o e n hb hx)
 ·obtain⟨sl,e1⟩:=I.base.slot b o e n hb hx;exact⟨sl,(hs.2 b (low b o e)).trans e1⟩
 ·obtain⟨o',e1⟩:=I.base.there b o e hx;exact⟨o',(hs.2 b (low b o e)).trans e1⟩
 ·by_cases hj:j=i
  ·subst hj;rw[Jl hiσ] at e2;cases e2
  ·rw[Jt (Ne.symm hj)] at e2;obtain⟨u',r',q⟩:=hlo j y v' e1 e2 e3;refine⟨u',r',?_⟩;rcases q with ⟨k,e⟩|⟨k,c,e,z⟩
   ·refine .inl ⟨k,?_⟩;have:y≠x:=λ e=>hj (q6B hN e1 (e▸hi));simp[this,e]
   ·exact .inr ⟨k,c,e,z.sameBut hs (cne y c e)⟩
 ·obtain⟨w',z⟩:=I.cell y c e;exact⟨w',z.sameBut hs (cne y c e)⟩
 ·obtain⟨e,n,ne,nf,d⟩:=I.pin q hq;exact⟨(hs.2 q.1 ne).trans e,n,ne,nf,d⟩
theorem qDx {α:Type}(l:List α) (i j:Nat) (a b c:α) (h:i≠j):((l.set i a).set j b).set i c=(l.set j b).set i c:=by rw[List.set_comm _ _ h,List.set_set]
theorem qJF {c i j:Nat}{body:List Stmt}{lb:List S}{x y cn:Str}{Cc:Addr}{q q2 q3 q4 pos' pos:Pos}(T:Top X) (hN:X.N.Nodup) (hi:X.N[i]? = some x) (hl:X.env.scope.names.lookup x=some .local) (hj:X.N[j]? = some y) (hy:Loc X.env.scope y) (hfy:X.fn y=true\/X.env.scope.names.lookup y=some .local)
  (hxy:x≠y) (hg:Gl X cn) (hm:X.mg cn=some (.ref Cc)) (hsub:∀e Ce,p.cls[e]? = some Ce->PySem.W.exmOne X.K (.ref Ce) (.ref Cc)=some (sub e c)) (hdc:(cn==("__debug__":Str))=false) (hd:(x==("__debug__":Str))=false) (hcd:(x==("__classdict__":Str))=false)
  (hb:SSs X p G sub body lb):SS X p G sub (.Try body [.ExceptHandler (some (.Name cn q)) (some x) [.Assign [.Name y q2] (.Name x q3) q4] pos'] [] [] pos) (.tryE lb c i j):=by
 intro H0 O0 E hp pins s σ H ρ os I B hs hE;have e0:ex G sub (.tryE lb c i j) ρ=match exs G sub lb ρ with
   | .err e ρ'=>if sub e c then .ok ((ρ'.set j (some (.val (.exc e)))).set i none) .nx else .stuck
   |r=>r:=rfl
 rw[e0] at hs hE |-;generalize hr:exs G sub lb ρ=r0 at hs hE |-;have ns:r0 ≠ .stuck:=λ e=>hs (by rw[e]);have hij:i≠j:=λ e=>hxy (by rw[e,hj] at hi;exact (QR.inj hi).symm);refine wpAny_Try_except (wpAny_mono (hb H0 O0 _ (q7Z (p:=p) (H0:=H0) (O0:=O0) (pins:=pins) (r:=r0) T) pins s σ H ρ os I B (by rw[hr];exact ns) (λ e s' z=>by rw[hr] at z;exact z)) (λ f s1 qq=>?_) (λ e s1 qq=>?_))
 ·rw[hr] at qq;obtain⟨ρ1,fl,σ1,os1,H1,e1,B1,I1,r1⟩:=qq;subst e1;cases fl<;>cases f<;>first|exact r1.elim|skip
  ·exact wpAny_execs_nil ⟨ρ1,.nx,σ1,os1,H1,rfl,B1,I1,trivial⟩
  ·exact⟨ρ1,.brk,σ1,os1,H1,rfl,B1,I1,trivial⟩
  ·exact⟨ρ1,.cont,σ1,os1,H1,rfl,B1,I1,trivial⟩
  ·exact⟨ρ1,_,σ1,os1,H1,rfl,B1,I1,r1⟩
 ·obtain⟨c',ρ',σ',os',H',e1,B',m⟩:=qq;subst e1;have hsb:sub c' c=true:=by
   cases h:sub c' c with
   |true=>rfl
   |false=>exact absurd (by simp[h]) hs
  refine q6Z T m λ H2 a C Bh t h2 ea ecl x2 I2 bo tr=>?_;subst ea;refine qDq (s:={s1 with heap:=h2}) (o:=none) tr λ h3 tr3 up3=>?_;have I3:=q1l (s:={s1 with heap:=h2}) I2 bo tr3.1 up3;refine wpAny_handleBy_cons (codeAny_handlers_test ?_) (by intro q;cases q);refine q3t (X:=mk X a) (qF8 I3) hg hm ?_ hdc;have LT:PySem.W.Looks (model X.prog X.w) h3 (typeOf (.ref a)) (.ref C):=by obtain⟨ob,g1,g2⟩:=tr3.2.2.2.there;exact g2▸(PySem.W.Looks.ld g1).andThen .now
  refine PySem.W.Looks.here (s:={s1 with heap:=h3}) (PySem.W.exm_one I3.kIn LT (hsub c' C ecl)) ?_;rw[hsb,if_pos rfl];refine codeAny_handlers_suite_as ?_;refine qDq (s:={s1 with heap:=h3}) (o:=none) tr3 λ h4 tr4 up4=>?_;have I4:=q1l (s:={s1 with heap:=h3}) I3 bo tr4.1 up4;obtain⟨hn,I5⟩:=qBu I4 bo tr4;have B5:Bd p H0 O0 ρ' σ' os' (upd H2 a (.ext (q3N a C))):=B'.mono (x2.trans (Ext.upd hn));have lt:i < ρ'.length:=by rw[<-B'.slen,I2.len];exact (Qd.mp hi).1
  have lt2:j < ρ'.length:=by rw[<-B'.slen,I2.len];exact (Qd.mp hj).1
  have notin:a∉(os'++[O0]).flatten:=λ z=>by obtain⟨o,e⟩:=B'.rel.there a z;rw[x2 _ _ e] at hn;cases hn
  have rep:Rep p (fz (os'++[O0]).flatten (upd H2 a (.ext (q3N a C)))) (.exc c') (.ref a):=⟨a,C,rfl,ecl,q25 q0B notin⟩
  have B6:=B5.setV lt rep;have sub6:∀b∈(os'.set i []++[O0]).flatten,b∈(os'++[O0]).flatten:=λ b hb=>by rw[<-q0r (by rw[B'.len];exact lt)] at hb;exact (q0J hb).elim id λ z=>absurd z (by simp)
  have B7:=B6.setV (i:=j) (by simpa using lt2) (rep.mono (q52 sub6));have B8:=B7.setN (i:=i) (y:=none) (by simpa using lt);refine q0q (v:= .ref a) I5 hN hi (.inl hl) rfl (λ s6 I6=>?_) (.inr hl);refine wpAny_execs_cons (wpAny_Assign_Name (q2s (X:=mk X a) (v:= .ref a) (qF8 I6) hi (.inl hl) ?_ hd hcd λ u r=>?_) rfl)
  ·rw[Jl (by rw[B'.slen];exact lt)]
  refine q0q (v:= .ref a) I6 hN hj hy r (λ s7 I7=>?_) hfy;refine wpAny_execs_nil ?_;refine name_goes I7 hN hi hl λ s8 I8=>?_;refine⟨_,.nx,_,_,_,?_,B8,I8,trivial⟩;show (if sub c' c=true then _ else _)=_;rw[if_pos hsb,qDx _ _ _ _ _ _ hij]
end
end Snd
namespace Snd
open PySem PySem.Spec PyProof.Rows L2 Ev PySem.W PySem.Builtin PySem.Builtin.ObjectAttr
variable {x C:Addr}
structure ExOk (K:PySem.W.Frag) (C:Addr):Prop where
 ga:findIn K (.ref C) "__getattribute__" = some (some (.builtin "BaseException.__getattribute__"))
 gh:findIn K (.ref C) "__getattr__" = some none
 bex:mroIn K C (.type "BaseException")=some true
 own:findIn K (.ref C) "__class__" = some (some (.builtin "object.__class__"))
 spc:specialIn K (.builtin "object.__class__") "__get__" = some (some (.builtin "getset_descriptor.__get__"))
 tk:takesIn K (.builtin "object.__class__")=some true
 mro:mroIn K C (.type "object")=some true
 cls:isClsIn K C=true
section
variable {M:Model}{K:PySem.W.Frag}{h:Heap}
theorem q4k (q:q3N x C h):PySem.W.Looks M h (typeOf (.ref x)) (.ref C):=by obtain⟨o,e1,e2⟩:=q;exact e2▸(PySem.W.Looks.ld e1).andThen .now
theorem qDy (Z:K.In h) (o:ExOk K C):PySem.W.Looks M h (find (.ref x) (.ref C) "__class__") (.bind (.builtin "getset_descriptor.__get__") (.builtin "object.__class__")):=by have z1:=looks_findIn (M:=M) Z o.own;have z2:PySem.W.Looks M h (getOf (some (Value.builtin "object.__class__"))) (some (.builtin "getset_descriptor.__get__")):=looks_specialIn Z o.spc;have z3:=looks_takesIn (M:=M) Z o.tk;refine z1.andThen (z2.andThen ((show PySem.W.Looks M h (dataDescriptor? (some (.builtin "object.__class__")) (some (.builtin "getset_descriptor.__get__"))) (some (.builtin "getset_descriptor.__get__",.builtin "object.__class__")) from z3.andThen .now).andThen ?_));exact PySem.W.Looks.tag .now
end
section
variable {prog:Program}{w:World}{A:Around}{E:Value->Shared->Prop}{s:Shared}{K:PySem.W.Frag}
theorem qGV {tp:Value}{R:Result->Shared->Prop}(Z:K.In s.heap) (o:ExOk K C) (q:q3N x C s.heap) (hR:R (.ok (.ret (.ref C))) s):codeAny (model prog w) A (.call (.builtin "getset_descriptor.__get__") ⟨[.builtin "object.__class__",.ref x,tp],[]⟩) R s:=by
 obtain⟨hp,ge,dr,tk,os⟩:=s;have z0:=q4k (M:=model prog w) (show q3N x C hp from q);have z4:=looks_mroIn (M:=model prog w) (show K.In hp from Z) o.mro;refine codeAny_call_builtin KF.slot_gs.plain KF.entry_gs (KF.slot_gs.check _ _ _ _ _ _ _ _ KF.type_class (KF.args_gs _ _ _) (show wpAny _ _ (Builtin.Getset_descriptor.descrGet _) _ _ _ from ?_));unfold Builtin.Getset_descriptor.descrGet;rw[dga_obj];refine wpAny_bind (wpAny_pure ?_);unfold Builtin.Getset_descriptor.descrGetter Builtin.Getset_descriptor.descrCheckInstance Builtin.Getset_descriptor.descrNameAndClass isInstance;simp only[KF.owner_class]
 repeat lk
 refine⟨Code.quiet_builtin _ (by decide +kernel),codeAny_builtin KF.entry_class ?_⟩;unfold Builtin.«object.__class__»;unfold shownTypeOf
 repeat lk
 exact hR
theorem qBv {nv:Value}{Q:Unit->Shared->Prop}(Z:K.In s.heap) (o:ExOk K C) (q:q3N x C s.heap) (hq:Q () s):wpAny (model prog w) A (checkBuiltinCall "BaseException.__getattribute__" ⟨[.ref x,nv],[]⟩) Q E s:=by
 obtain⟨hp,ge,dr,tk,os⟩:=s;have z0:=q4k (M:=model prog w) (show q3N x C hp from q);have z4:=looks_mroIn (M:=model prog w) (show K.In hp from Z) o.bex;have k1:builtinKind "BaseException.__getattribute__" = some .slot:=by decide +kernel
 have k2:splitId "BaseException.__getattribute__" = some ("BaseException", "__getattribute__"):=by decide +kernel
 have k3:=PySem.F.args_bexc_ga (.ref x) nv;unfold argsOk at k3;unfold checkBuiltinCall;simp only[k1,k2];refine wpAny_bind ?_;unfold isInstance
 repeat lk
 exact hq
theorem qBw {Q:Option Value->Shared->Prop}(Z:K.In s.heap) (o:ExOk K C) (q:q3N x C s.heap) (hq:Q (some (.ref C)) {s with toks:=s.toks+1}):wpAny (model prog w) A (getAttr? (.ref x) "__class__") Q E s:=by
 obtain⟨hp,ge,dr,tk,os⟩:=s;have z0:=q4k (M:=model prog w) (show q3N x C hp from q);have z1:=looks_findIn (M:=model prog w) (show K.In hp from Z) o.ga;have z2:=qDy (M:=model prog w) (x:=x) (show K.In hp from Z) o;have z3:=looks_findIn (M:=model prog w) (show K.In hp from Z) o.gh;have nb:(onTheHeap (Value.ref C)&&Value.builtin "BaseException.__getattribute__"==Value.builtin "object.__getattribute__")=false:=by
  have:(Value.builtin "BaseException.__getattribute__"==Value.builtin "object.__getattribute__")=false:=by decide +kernel
  rw[this,Bool.and_false]
 unfold getAttr? getAttrBy? getAttrBy;refine wpAny_bind (wpAny_mkText (wpAny_bind (wpAny_attempt (wpAny_holding (wpAny_bind (z0.at (wpAny_bind (z1.at ?_))))))));dsimp only;rw[nb,if_neg (by decide)];unfold getAttrByItsOwn hookBefore;rw[if_pos (show onTheHeap (Value.ref C)=true from rfl)];refine wpAny_bind (z3.at (wpAny_bind (wpAny_attempt (wpAny_holding ?_))));show wpAny _ _ (boundAndCalled _ _ _) _ _ _;unfold boundAndCalled;refine wpAny_bind (wpAny_of_eq (PySem.F.attr_ValueError.ga.bind (.ref x)) ?_);refine wpAny_call (codeAny_call_builtin PySem.F.attr_ValueError.ga.plain PySem.F.entry_bexc_ga (qBv (s:={heap:=hp,gens:=ge,drawn:=dr,toks:=tk+1,os:=os}) Z o q ?_));unfold Builtin.«object.__getattribute__»;refine wpAny_bind (wpAny_pure (wpAny_bind (wpAny_pure (wpAny_bind (z0.at (wpAny_bind (z2.at ?_)))))));dsimp only;show wpAny _ _ (Builtin.ObjectAttr.bindTo _ _ _ _) _ _ _;show wpAny _ _ (holding [_] (call _ [_,Value.ref x,Value.ref C]) >>= ret) _ _ _;exact wpAny_bind (wpAny_holding (wpAny_call (qGV (s:={heap:=hp,gens:=ge,drawn:=dr,toks:=tk+1,os:=os}) Z o q (wpAny_pure (handed_on rfl (wpAny_pure hq))))))
end
theorem q9b {K:PySem.W.Frag}(o:ExOk K C):KitX K (.ref x) (.ref C) (q3N x C) where
 ty:=λ _ _ _ q=>q4k q
 it:=λ _ _ Z _=>by
  obtain⟨cd,hc⟩:=Option.isSome_iff_exists.mp o.cls;unfold clsIn at hc;split at hc
  ·rename_i ho;intro A' Q' E' s' k q;unfold isType;unfold loadHead;exact wpAny_bind (wpAny_loadPart (k _ _ (Z _ _ ho)) (wpAny_pure q))
  ·cases hc
 ne:=λ h tp dd its n sl Z htp=>by
  obtain⟨cd,hc⟩:=Option.isSome_iff_exists.mp o.cls;refine Bool.eq_false_iff.mpr λ q=>?_;cases Value.ref.inj (beq_iff_eq.mp q);unfold clsIn at hc;split at hc
  ·rename_i ho;cases (Z _ _ ho).symm.trans htp
  ·cases hc
 ca:=λ Z q k=>qBw Z o q k
section
variable {X:Cx}{p:Pm}{G:Nat->List D->R D}{sub:Nat->Nat->Bool}
def BI (X:Cx) (p:Pm) (sub:Nat->Nat->Bool) (b:Bi) (cv:Value):Prop :=
 ∀(E:Value->Shared->Prop) (pins:List (Addr×Obj)) (s:Shared) (σ:L2.St) (H:Hp) (os:List (List Addr)) (d r:D) (v:V) (u:Value),Inv X pins σ H s->RelV v u->RepB p H (fz os.flatten H) d v->biD sub b [d] = .ok r->
  wpAny (model X.prog X.w) X.A (call (.builtin "isinstance") [u,cv]) (EP (X.wish E) pins σ (Fin p os.flatten H r)) E s
theorem q4l {K:PySem.W.Frag}{t:Value}:kitOne K t t=some true:=by unfold kitOne;rw[if_pos (beq_self_eq_true t)]
theorem q2o {E:Value->Shared->Prop}{pins:List (Addr×Obj)}{s:Shared}{σ:L2.St}{H:Hp}{O:List Addr}(I:Inv X pins σ H s) (b:Bool) (tk:Nat):EP (X.wish E) pins σ (Fin p O H (.bl b)) (.bool b) {s with toks:=tk} :=
 ⟨.bl b,H,(I.wish E).tok tk,rfl,q0I rfl⟩
theorem qJG (hK:p.K=X.K):BI X p sub .isTup (.type "tuple"):=by
 intro E pins s σ H os d r v u I rv q h;cases d<;>first
  |(cases h;done)
  |skip
 cases h;obtain⟨a,vs,rfl,s1,z,r1⟩:=q;cases rv;obtain⟨its,rv,⟨o,e,c,_⟩,_⟩:=I.tuple (hK▸q0Y.sqT s1);exact kia_one kitx_tuple I.kIn ⟨o,e,c⟩ q4l (λ z=>nomatch z) λ tk=>q2o I _ tk
theorem qJH (hK:p.K=X.K):BI X p sub .isLst (.type "list"):=by
 intro E pins s σ H os d r v u I rv q h;cases d<;>first
  |(cases h;done)
  |skip
 cases h;obtain⟨a,vs,rfl,s1,r1⟩:=q;cases rv;obtain⟨its,rv,⟨o,n,e,c,_⟩,_⟩:=I.list (hK▸s1);exact kia_one kitx_list I.kIn ⟨o,e,c⟩ q4l (λ z=>nomatch z) λ tk=>q2o I _ tk
theorem qJI:BI X p sub .isInt (.type "int"):=by
 intro E pins s σ H os d r v u I rv q h;cases d<;>first
  |(cases h;done)
  |skip
 cases h;cases (show v=_ from q);obtain⟨t,rfl⟩:=rv;exact kia_one kitx_int I.kIn trivial q4l (λ z=>nomatch z) λ tk=>q2o I _ tk
theorem q7a {K:PySem.W.Frag}:kitOne K (.type "int") (.type "bool")=some false:=by
 have h1:(Value.type "int"==Value.type "bool")=false:=by decide +kernel
 have h2:kitMeta "bool" = true:=by decide +kernel
 have h3:(fastBuiltinMro "int").map (·.contains (Value.type "bool"))=some false:=by decide +kernel
 unfold kitOne kitCls subIn;rw[if_neg (by rw[h1];decide)];dsimp only;rw[if_pos h2,h3]
theorem qGW:BI X p sub .isBool (.type "bool"):=by
 intro E pins s σ H os d r v u I rv q h;cases d<;>first
  |(cases h;done)
  |skip
 ·cases h;cases (show v=_ from q);cases rv;exact kia_one kitx_bool I.kIn trivial q4l (λ z=>nomatch z) λ tk=>q2o I _ tk
 ·cases h;cases (show v=_ from q);obtain⟨t,rfl⟩:=rv;exact kia_one kitx_int I.kIn trivial q7a (λ z=>nomatch z) λ tk=>q2o I _ tk
theorem qF9 {pins:List (Addr×Obj)}{s:Shared}{σ:L2.St}{H:Hp}{O:List Addr}{c:Nat}{v:V}(I:Inv X pins σ H s) (q:Rep p (fz O H) (.exc c) v):∃a C,v = .ref a/\p.cls[c]? = some C/\q3N a C s.heap:=by obtain⟨a,C,e,h1,h2⟩:=q;exact⟨a,C,e,h1,(I.hok a _ (q0Y _ _ h2)).1⟩
theorem qJJ (hX:∀(c:Nat) (C:Addr),p.cls[c]? = some C->ExOk X.K C/\kitOne X.K (.ref C) (.type "ValueError")=some true):BI X p sub .isVal (.type "ValueError"):=by
 intro E pins s σ H os d r v u I rv q h;cases d<;>first
  |(cases h;done)
  |skip
 cases h;obtain⟨a,C,rfl,h1,h2⟩:=qF9 I q;cases rv;obtain⟨k1,k2⟩:=hX _ C h1;exact kia_one (q9b k1) I.kIn h2 k2 (λ z=>nomatch z) λ tk=>q2o I _ tk
theorem qJK {k:Nat}{Cc:Addr}(hX:∀(c:Nat) (C:Addr),p.cls[c]? = some C->ExOk X.K C/\kitOne X.K (.ref C) (.ref Cc)=some (sub c k)):BI X p sub (.isExc k) (.ref Cc):=by
 intro E pins s σ H os d r v u I rv q h;cases d<;>first
  |(cases h;done)
  |skip
 cases h;obtain⟨a,C,rfl,h1,h2⟩:=qF9 I q;cases rv;obtain⟨k1,k2⟩:=hX _ C h1;exact kia_one (q9b k1) I.kIn h2 k2 (λ z=>nomatch z) λ tk=>q2o I _ tk
theorem q46 {a:PySem.Expr}{cn:Str}{l:L}{b:Bi}{cv:Value}{q q2 pos:Pos}(hB:BI X p sub b cv) (hg:Gl X "isinstance") (hm:X.mg "isinstance" = none) (ha:SB X p G sub a l)
  (hc:∀(E:Value->Shared->Prop) (Q:Value->Shared->Prop) (pins:List (Addr×Obj)) (s:Shared) (σ:L2.St) (H:Hp),Inv X pins σ H s->Q cv s->wpAny (model X.prog X.w) X.A (eval (.Name cn q2) X.env) Q E s)
  (hst:starEach [a,.Name cn q2] X.env=[(false,eval a X.env),(false,eval (.Name cn q2) X.env)]):SE X p G sub (.Call (.Name "isinstance" q) [a,.Name cn q2] [] pos) (.bi b [l]):=by
 intro pins s σ H ρ os I R hs;refine wpAny_Call_Name_kw (q1r I hg hm boot_isinstance ?_ (by decide) (by decide));refine PyProof.Rows.callWith_builtin1 ?_ (by rw[hst];rfl) rfl;rw[hst];show wpAny _ _ (spliced ((false,eval a X.env)::backTo pos [(false,eval (.Name cn q2) X.env)])) _ _ s;refine Calls.spliced_cons (wpAny_mono (ha pins s σ H ρ os I R (q7R hs)) (λ u s1 h=>?_) (λ _ _=>q7Q));obtain⟨d,v,H1,e1,I1,r1,x1,q1⟩:=h;have e0:ev G sub (.bi b [l]) ρ=biD sub b [d]:=by rw[q1S,q2B (f:=λ d=>biD sub b [d]) l ρ _ (λ _=>rfl),e1];rfl
 rw[e0] at hs |-;show wpAny _ _ (spliced ((false,eval (.Name cn q2) X.env)::[])) _ _ s1;refine Calls.spliced_cons (hc _ _ pins s1 σ H1 I1 (Calls.spliced_nil ?_));rcases q6U sub b [d] with z|⟨r,z⟩
 ·exact absurd z hs
 ·rw[z];exact wpAny_mono (hB (Er X p pins σ H (.ok r)) pins s1 σ H1 os d r v u I1 r1 q1 z) (λ w s2 h2=>qAR x1 rfl h2) λ _ _ z=>z
end
end Snd
namespace Snd
open PySem PySem.Spec PyProof.Rows L2 Ev
variable {H:Hp}{o:HO}{i:Nat}{x:Str}{pos pos' q:Pos}
theorem qGX {O:List Addr}{a:Addr}(n:H a=none):Ext (fz O H) (fz (O++[a]) (upd H a o)):=λ c u e=>by
 unfold fz at e |-;split at e
 ·cases e
 ·rename_i h;have ne:c≠a:=λ z=>by rw[z,n] at e;cases e
  rw[if_neg (by simp[h,ne]),q05 ne];exact e
theorem qAU {p:Pm}{H':Hp}(x:∀a o,H a=some o->(∀kvs,o ≠ .dK kvs)->H' a=some o):(∀d v,Rep p H d v->Rep p H' d v)/\(∀ds vs,RepL p H ds vs->RepL p H' ds vs):=by
 have rdL:∀{a:Addr}{vs:List V},SqL p.K H a vs->SqL p.K H' a vs:=λ h=>h.elim (λ r=> .inl (r.elim (λ e=> .inl (x _ _ e (λ _ z=>nomatch z))) λ⟨o,e⟩=> .inr ⟨o,x _ _ e (λ _ z=>nomatch z)⟩)) .inr;have rdT:∀{a:Addr}{vs:List V},SqT p.K H a vs->SqT p.K H' a vs:=λ h=>h.elim (λ r=> .inl (r.elim (λ e=> .inl (x _ _ e (λ _ z=>nomatch z))) λ⟨o,e⟩=> .inr ⟨o,x _ _ e (λ _ z=>nomatch z)⟩)) .inr;refine D.ind (P:=λ d=>∀v,Rep p H d v->Rep p H' d v) (Q:=λ ds=>∀vs,RepL p H ds vs->RepL p H' ds vs)
  (λ v h=>h) (λ _ v h=>h) (λ _ v h=>h) (λ _ v h=>h) (λ l ih v h=>?_) (λ l ih v h=>?_) (λ k l ihk ih v h=>?_) (λ c v h=>?_) (λ vs h=>h) (λ d ds ih1 ih2 vs h=>?_)
 ·obtain⟨a,vs,e,s,z,r⟩:=h;exact⟨a,vs,e,rdT s,z,ih _ r⟩
 ·obtain⟨a,vs,e,s,r⟩:=h;exact⟨a,vs,e,rdL s,ih _ r⟩
 ·obtain⟨a,kvs,o,e,s,q,r⟩:=h;exact⟨a,kvs,o,e,x _ _ s (λ _ z=>nomatch z),q,ih _ r⟩
 ·obtain⟨a,C,e,s,q⟩:=h;exact⟨a,C,e,s,x _ _ q (λ _ z=>nomatch z)⟩
 ·obtain⟨v,r,e,h1,h2⟩:=h;exact⟨v,r,e,ih1 _ h1,ih2 _ h2⟩
theorem qJL {p:Pm}{H':Hp}(x:∀a o,H a=some o->(∀kvs,o ≠ .dK kvs)->H' a=some o) {d:D}{v:V}(h:Rep p H d v):Rep p H' d v:=(qAU x).1 d v h
theorem q5A {p:Pm}{H Hf:Hp}{c:Addr}{o:HO}:∀{bs:List Addr}{xss:List (List D)},c∉bs->q2r p H Hf bs xss->q2r p (upd H c o) Hf bs xss
 |[],_,_,h=>h
 |b::bs,xss,n,h=>by obtain⟨xs,r,e,⟨vs,h1,h2⟩,h3⟩:=h;exact⟨xs,r,e,⟨vs,by rw[q05 λ z=>n (by simp[z])];exact h1,h2⟩,q5A (λ z=>n (Qa _ z)) h3⟩
theorem q5B {p:Pm}{Hf:Hp}{c:Addr}{x:Option Sl}{y:Option V}{as:List Addr}(n:c∉as) (h:q3O p H Hf x y as):q3O p (upd H c o) Hf x y as:=by
 cases x with
 |none=>exact h
 |some sl =>
  cases sl with
  |val d=>exact h
  |own d =>
   obtain⟨a,h1,h2,h3⟩:=h;have ne:a≠c:=λ z=>n (by rw[h2,z];simp);refine⟨a,h1,h2,?_⟩;cases d with
   |lst ds=>obtain⟨vs,q1,q2⟩:=h3;exact⟨vs,by rw[q05 ne];exact q1,q2⟩
   |dct ks ds=>obtain⟨kvs,q1,q2,q3⟩:=h3;exact⟨kvs,by rw[q05 ne];exact q1,q2,q3⟩
   |_=>exact h3
  |own2 xss =>
   obtain⟨a,bs,h1,h2,h3,h4⟩:=h;subst h2;exact⟨a,bs,h1,rfl,by rw[q05 λ z=>n (by simp[z])];exact h3,q5A (λ z=>n (Qa _ z)) h4⟩
theorem q47 {p:Pm}{H Hf:Hp}{c:Addr}{o:HO}:∀{ρ:Ev.Env}{σ:L2.St}{os:List (List Addr)},c∉os.flatten->q1I p H Hf ρ σ os->q1I p (upd H c o) Hf ρ σ os
 |[],_,_,_,_=>trivial
 |_::ρ,_,_,n,h=>by obtain⟨y1,σ',as,os',rfl,rfl,h1,h2⟩:=h;simp only[Qx,Qq,not_or] at n;exact⟨y1,σ',as,os',rfl,rfl,q5B n.1 h1,q47 n.2 h2⟩
theorem q7b {p:Pm}{H Hf:Hp}{c:Addr}{o:HO}{x:Option Sl}:∀{ρ:Ev.Env}{σ:L2.St}{os:List (List Addr)}(i:Nat) {y:Option V}{as:List Addr},q1I p H Hf ρ σ os->σ[i]? = some y->os[i]? = some as->c∈as->os.flatten.Nodup->q3O p (upd H c o) Hf x y as->
  q1I p (upd H c o) Hf (ρ.set i x) σ os
 |[],_,_,_,_,_,_,_,_,_,_,_=>trivial
 |_::ρ,_,_,0,y,as,h,e1,e2,hc,nd,q=>by obtain⟨y1,σ',as',os',rfl,rfl,h1,h2⟩:=h;simp at e1 e2;subst e1 e2;simp only[Qx] at nd;exact⟨_,σ',_,os',rfl,rfl,q,q47 (λ z=>(Qz.mp nd).2.2 c hc c z rfl) h2⟩
 |_::ρ,_,_,i+1,y,as,h,e1,e2,hc,nd,q=>by obtain⟨y1,σ',as',os',rfl,rfl,h1,h2⟩:=h;simp only[Qx] at nd;have m:c∈os'.flatten:=QW.mpr ⟨as,Qm (by simpa using e2),hc⟩;exact⟨y1,σ',as',os',rfl,rfl,q5B (λ z=>(Qz.mp nd).2.2 c z c m rfl) h1,q7b i h2 (by simpa using e1) (by simpa using e2) hc (Qz.mp nd).2.1 q⟩
theorem Bd.write {p:Pm}{H0:Hp}{O0:List Addr}{ρ:Ev.Env}{σ:L2.St}{os:List (List Addr)}{sl:Sl}{y:Option V}{as:List Addr}{c:Addr}(b:Bd p H0 O0 ρ σ os H) (e1:σ[i]? = some y) (e2:os[i]? = some as) (hc:c∈as)
  (q:q3O p (upd H c o) (fz (os++[O0]).flatten H) (some sl) y as):Bd p H0 O0 (ρ.set i (some sl)) σ os (upd H c o):=by
 have mo:c∈os.flatten:=QW.mpr ⟨as,Qm e2,hc⟩;have m:c∈(os++[O0]).flatten:=by rw[q0m];exact QB _ mo
 have e3:(os++[O0])[i]? = some as:=by rw[QH (Qd.mp e2).1];exact e2
 refine⟨⟨b.rel.nd,λ a ha=>?_,?_⟩,by simp[b.len],by simp[b.slen],λ a u e=>?_,b.new⟩
 ·by_cases h:a=c
  ·subst h;exact⟨_,q0B⟩
  ·obtain⟨u,e⟩:=b.rel.there a ha;exact⟨u,by rw[q05 h];exact e⟩
 ·rw[q3z m];exact q7b i b.rel.slots e1 e3 hc b.rel.nd q
 ·rw[q05 λ z=>by rw[z,b.new c mo] at e;cases e];exact b.ext a u e
theorem Bd.at {p:Pm}{H0:Hp}{O0:List Addr}{ρ:Ev.Env}{σ:L2.St}{os:List (List Addr)}{H:Hp}{i:Nat}{x:Option Sl}(b:Bd p H0 O0 ρ σ os H) (h:ρ[i]? = some x):∃y as,σ[i]? = some y/\os[i]? = some as/\q3O p H (fz (os++[O0]).flatten H) x y as:=by
 obtain⟨y,as,e1,e2,h1⟩:=q3Q b.rel.slots h;have lt:i<os.length:=by rw[b.len];exact (Qd.mp h).1
 rw[QH lt] at e2;exact⟨y,as,e1,e2,h1⟩
section
variable {X:Cx}{p:Pm}{G:Nat->List D->R D}{sub:Nat->Nat->Bool}
theorem q9c {α:Type}{H0:Hp}{O0:List Addr}{pins:List (Addr×Obj)}{ρ:Ev.Env}{σ:L2.St}{os:List (List Addr)}{H1:Hp}{r:R α}{f:α->RS}{e:Value}{s':Shared}(B:Bd p H0 O0 ρ σ os H) (x:Ext H H1) (h:Er X p pins σ H1 r e s'):Es X p H0 O0 pins (r.go ρ f) e s':=by obtain⟨c,e1,m⟩:=h;exact⟨c,ρ,σ,os,H,by rw[e1];rfl,B,m.ext x⟩
theorem qGY {es:List PySem.Expr}{ls:List L}{pos2:Pos}(hN:X.N.Nodup) (hi:X.N[i]? = some x) (hx:Loc X.env.scope x) (hf:X.fn x=true\/X.env.scope.names.lookup x=some .local) (h:SA X p G sub es ls) :
  SS X p G sub (.Assign [.Name x pos'] (.List es pos2) pos) (.setO i (.lst ls)):=by
 intro H0 O0 E hp pins s σ H ρ os I B hs hE;have e0:ex G sub (.setO i (.lst ls)) ρ=(ev G sub (.lst ls) ρ).go ρ λ d=> .ok (ρ.set i (some (.own d))) .nx:=rfl;rw[e0,q7F] at hs hE |-;have ns:=q0C (q2U hs);refine wpAny_Assign_Name (wpAny_List_spliced (wpAny_mono (h pos2 pins s σ H ρ _ I B.rel ns) (λ us s1 ⟨ds,vs,H1,e1,I1,r1,x1,q1⟩=>?_) (λ e s' z=>hE e s' (q2z B z.bind)))) rfl;rw[e1,q00] at hs hE |-;have z:ds.length<=big:=by
  by_cases z:ds.length<=big
  ·exact z
  ·rw[if_neg z] at hs;exact absurd rfl hs
 rw[if_pos z];have z1:vs.length<=sizeLine:=Qr (q1.length▸z) q0d;refine⟨by rw[<-r1.length];exact z1,?_⟩;have hfr:H1 s1.heap.objs.size=none:=I1.hok.fresh (Qi _);have lt:i < ρ.length:=by rw[<-B.slen,I.len];exact (Qd.mp hi).1
 have B1:=B.mono x1;have I2:Inv X pins σ (upd H1 s1.heap.objs.size (.lst vs)) {s1 with heap:=s1.heap.push {cls:= .type "list",data:= .seq us.toArray}}:=I1.lnew (t':=s1.toks) r1 z1;refine q0q (v:= .ref s1.heap.objs.size) I2 hN hi hx rfl (λ s3 I3=>⟨_,.nx,_,_,_,rfl,B1.setO lt (Ext.upd hfr) (as:=[s1.heap.objs.size]) (by simp) (λ a ha=>?_) (λ a ha=>?_) ⟨_,rfl,rfl,vs,q0B,q1.mono (qGX hfr)⟩,I3,trivial⟩) hf
 ·rw[Qs.mp ha];exact hfr
 ·rw[Qs.mp ha];exact⟨_,q0B⟩
theorem qJM {a:PySem.Expr}{l:L}{ap cp:Pos}(hi:X.N[i]? = some x) (hv:Vis X.env.scope x) (hd:(x==("__debug__":Str))=false) (hcd:(x==("__classdict__":Str))=false) (ha:SE X p G sub a l)
  (hst:starEach [a] X.env=[(false,eval a X.env)]) (hline:(ap.endLine==cp.line)=true):SS X p G sub (.Expr (.Call (.Attribute (.Name x q) "append" ap) [a] [] cp) pos) (.app i l):=by
 intro H0 O0 E hp pins s σ H ρ os I B hs hE;have e0:ex G sub (.app i l) ρ=match ρ[i]? with
   |some (some (.own (.lst xs)))=>(ev G sub l ρ).go ρ λ d=>if xs.length<big then .ok (ρ.set i (some (.own (.lst (xs++[d]))))) .nx else .stuck
   |_=> .stuck:=rfl
 rw[e0] at hs hE |-;split at hs
 ·rename_i xs hρ;simp only[hρ] at hE |-;obtain⟨y,as,s1,s2,a',rfl,rfl,vs,s5,s6⟩:=B.at hρ;refine wpAny_Expr_any (wpAny_Call_method_late rfl (by rw[hst];rfl) hline rfl (q2s I hi hv s1 hd hcd λ u r=>?_)) I.quiet rfl;cases r;obtain⟨h1,h2⟩:=q7A (T := "list") (x:= .ref a') I rfl (.inl ⟨rfl,_,SqL.of s5⟩);refine⟨"list", "list.append",PySem.F.plainAttrs_list,PySem.F.slot_list_append,PySem.F.type_list_append,h1,h2,?_⟩;rw[hst];refine Calls.callWith_builtin rfl (Calls.evalArgs_plain ?_);show wpAny _ _ (spliced ((false,eval a X.env)::[])) _ _ s;refine Calls.spliced_cons (wpAny_mono (ha pins s σ H ρ _ I B.rel (q2U hs)) (λ v s3 ⟨d,x',H1,e1,I1,r1,x1,q1⟩=>Calls.spliced_nil ?_) (λ e s' z=>hE e s' (q2z B z)));rw[e1,q07] at hs hE |-;have z:xs.length<big:=by
   by_cases z:xs.length<big
   ·exact z
   ·rw[if_neg z] at hs;exact absurd rfl hs
  rw[if_pos z];have hl:=s6.length;refine wpAny_mono (q3G (X:=X.wish E) pins s3 σ H1 (.ref a') [x'] _ _ (λ z H'=>H'=upd H1 a' (.lst (vs++[x']))) (I1.wish E) rfl (.cons r1 .nil) ⟨a',vs,x',rfl,rfl,x1 _ _ s5,Qn (by lia) q0d,rfl⟩) (λ w s4 ⟨zv,H2,I2,_,eH⟩=>?_) (λ _ _ z=>z);subst eH;exact⟨_,.nx,σ,os,_,rfl,(B.mono x1).write s1 s2 (by simp) ⟨a',rfl,rfl,_,q0B,(s6.mono (q1D x1)).snoc q1⟩,I2.q2n,trivial⟩
 ·exact absurd rfl hs
theorem qJN {j:Nat}{y:Str}{ap cp:Pos}(hN:X.N.Nodup) (hi:X.N[i]? = some x) (hx:Loc X.env.scope x) (hf:X.fn x=true\/X.env.scope.names.lookup x=some .local) (hj:X.N[j]? = some y) (hv:Vis X.env.scope y) (hd:(y==("__debug__":Str))=false) (hcd:(y==("__classdict__":Str))=false)
  (hline:(ap.endLine==cp.line)=true):SS X p G sub (.Assign [.Name x pos'] (.Call (.Attribute (.Name y q) "pop" ap) [] [] cp) pos) (.pop i j):=by
 intro H0 O0 E hp pins s σ H ρ os I B hs hE;have e0:ex G sub (.pop i j) ρ=match ρ[j]? with
   |some (some (.own (.lst xs)))=>match xs.getLast? with
     |some d=> .ok ((ρ.set j (some (.own (.lst xs.dropLast)))).set i (some (.val d))) .nx
     |none=> .stuck
   |_=> .stuck:=rfl
 rw[e0] at hs hE |-;split at hs
 ·rename_i xs hρ;simp only[hρ] at hE |-;split at hs
  ·rename_i d hlast;simp only[hlast] at hE |-;obtain⟨y',as,s1,s2,a',rfl,rfl,vs,s5,s6⟩:=B.at hρ;have hl:=s6.length;have hlast':xs[xs.length-1]? = some d:=(by rw[List.getLast?_eq_getElem?] at hlast;exact hlast);obtain⟨v,hv1,hv2⟩:=s6.get hlast';rw[hl] at hv1;have lt:i < ρ.length:=(by rw[<-B.slen,I.len];exact (Qd.mp hi).1);refine wpAny_Assign_Name (wpAny_Call_method0_late rfl hline (q2s I hj hv s1 hd hcd λ u r=>?_)) rfl;cases r;obtain⟨h1,h2⟩:=q7A (T := "list") (x:= .ref a') I rfl (.inl ⟨rfl,_,SqL.of s5⟩);refine⟨"list", "list.pop",PySem.F.plainAttrs_list,PySem.F.slot_list_pop,PySem.F.type_list_pop,h1,h2,?_⟩;refine Calls.callWith_builtin rfl (PySem.evalArgs_none ?_);refine wpAny_mono (qIE (X:=X.wish E) pins s σ H (.ref a') [] _ _ (λ z H'=>z=v/\H'=upd H a' (.lst vs.dropLast)) (I.wish E) rfl .nil ⟨a',vs,v,rfl,rfl,s5,hv1,rfl,rfl⟩) (λ w s4 ⟨zv,H2,I2,rz,ez,eH⟩=>?_) (λ _ _ z=>z);subst ez eH;have dl:RepL p (fz (os++[O0]).flatten H) xs.dropLast vs.dropLast:=by rw[List.dropLast_eq_take,List.dropLast_eq_take,hl];exact s6.take _
   have B2:Bd p H0 O0 (ρ.set j (some (.own (.lst xs.dropLast)))) σ os (upd H a' (.lst vs.dropLast)):=B.write s1 s2 (by simp) ⟨a',rfl,rfl,_,q0B,dl⟩;have m:a'∈(os++[O0]).flatten:=(by rw[q0m];exact QB _ (QW.mpr ⟨_,Qm s2,by simp⟩));exact q0q I2.q2n hN hi hx rz (λ s5 I5=>⟨_,.nx,_,_,_,rfl,B2.setV (by simpa using lt) (by rw[q3z m];exact hv2),I5,trivial⟩) hf
  ·exact absurd rfl hs
 ·exact absurd rfl hs
theorem qBx {O:List Addr}(o:Op2) (d e r:D) (x y:V) (h:augD o d e = .ok r) (hx:Rep p (fz O H) d x) (hy:Rep p (fz O H) e y):∃r2:R2,OpR X (inplaceOp (opr o)) r2/\r2 x y H (Fin p O H r):=by
 unfold augD at h;split at h
 ·rename_i m n;cases (show x=_ from hx);cases (show y=_ from hy);exact⟨_,qG6 o,q7O o h⟩
 ·cases h
theorem qDz (o:Op2) (d e:D):augD o d e = .stuck\/∃r,augD o d e = .ok r:=by
 unfold augD;split
 ·exact qBY _ _ _
 ·exact .inl rfl
theorem qJO {e:PySem.Expr}{l:L}{op:Operator}{o:Op2}(hN:X.N.Nodup) (hi:X.N[i]? = some x) (hx:Loc X.env.scope x) (hf:X.fn x=true\/X.env.scope.names.lookup x=some .local) (ho:opOf op=some o) (he:SE X p G sub e l) :
  SS X p G sub (.AugAssign (.Name x pos') op e pos) (.aug i o l):=by
 intro H0 O0 E hp pins s σ H ρ os I B hs hE;have e0:ex G sub (.aug i o l) ρ=(getV ρ i).go ρ λ x=>(ev G sub l ρ).go ρ λ y=>(augD o x y).go ρ λ z=> .ok (ρ.set i (some (.val z))) .nx:=rfl;rw[e0] at hs hE |-;rw[q9F ho];cases hg:getV ρ i with
 |stuck=>simp only[hg] at hs;exact absurd rfl hs
 |err c=>unfold getV at hg;split at hg<;>cases hg
 |ok d =>
 simp only[hg,q07] at hs hE |-;obtain⟨v,e1,hrep⟩:=B.rel.val hg;obtain⟨m,hn,hl⟩:=I.loc;have vis:Vis X.env.scope x:=by rcases hx with k|k;exact .inl k;exact .inr (.inl k)
 obtain⟨u,r,lk⟩:=hl i x v hi e1 vis;have lt:i < ρ.length:=by rw[<-B.slen,I.len];exact (Qd.mp hi).1
 refine wpAny_AugAssign_Name ?_;have go:wpAny (model X.prog X.w) X.A (eval e X.env) (λ w s₂=>wpAny (model X.prog X.w) X.A (inplaceOp (opr o) u w) (λ r s₃=>wpAny (model X.prog X.w) X.A (storeName X.env x r) (λ _=>Gs X p H0 O0 pins ((ev G sub l ρ).go ρ λ y=>(augD o d y).go ρ λ z=> .ok (ρ.set i (some (.val z))) .nx) .next) E s₃) E s₂) E s:=by
  refine wpAny_mono (he pins s σ H ρ _ I B.rel (q2U hs)) (λ w s1 ⟨d2,y,H1,e2,I1,r1,x1,q1⟩=>?_) (λ e s' z=>hE e s' (q2z B z));rw[e2,q07] at hs hE |-;rcases qDz o d d2 with z|⟨dr,z⟩
  ·rw[z] at hs;exact absurd rfl hs
  rw[z,q07];obtain⟨r2,k,q⟩:=qBx (X:=X.wish E) (p:=p) (O:=(os++[O0]).flatten) (H:=H1) o d d2 dr v y z (hrep.mono (q1D x1)) q1;refine wpAny_mono (k pins s1 σ H1 v y u w _ (I1.wish E) r r1 q) (λ zz s2 ⟨zv,H2,I2,r2',x2,q2⟩=>?_) (λ _ _ z=>z);exact q0q I2.q2n hN hi hx r2' (λ s3 I3=>⟨_,.nx,_,_,H2,rfl,((B.mono x1).mono x2).setV lt q2,I3,trivial⟩) hf
 rcases lk with ⟨hk,hm⟩|⟨hk,c,hc,hcell⟩
 ·exact wpAny_loadName_local I.ok.kind hk hn hm go
 ·rcases hk with hk|hk
  ·exact wpAny_loadName_cell I.ok.kind hk hc hcell go
  ·have hk:X.env.scope.names.lookup x=some .free:=hk;rcases hx with k|k<;>(rw[k] at hk;cases hk)
theorem qGZ {k v:PySem.Expr}{lk lv:L}{pos2:Pos}(hN:X.N.Nodup) (hi:X.N[i]? = some x) (hx:Loc X.env.scope x) (hf:X.fn x=true\/X.env.scope.names.lookup x=some .local) (hk:SE X p G sub k lk) (hv:SE X p G sub v lv) :
  SS X p G sub (.Assign [.Name x pos'] (.Dict [some k] [v] pos2) pos) (.setO i (.dct lk lv)):=by
 intro H0 O0 E hp pins s σ H ρ os I B hs hE;have e0:ex G sub (.setO i (.dct lk lv)) ρ=(ev G sub (.dct lk lv) ρ).go ρ λ d=> .ok (ρ.set i (some (.own d))) .nx:=rfl;rw[e0,qIQ] at hs hE |-;have ns:=q0C (q2U hs);have hn:H s.heap.objs.size=none:=I.hok.fresh (Qi _);have lt:i < ρ.length:=by rw[<-B.slen,I.len];exact (Qd.mp hi).1
 have I1:=I.laid (a:=s.heap.objs.size) (o:= .dK []) (h':=s.heap.push {cls:= .type "dict",data:= .dict #[]}) (t':=s.toks) (λ _ _ q=>Heap.get?_push_of_some _ q) (Qi _) (q99 s.heap I.big);have x0:Ext H (upd H s.heap.objs.size (.dK [])):=Ext.upd hn;have B1:=B.mono x0;refine wpAny_Assign_Name (wpAny_Dict_walk (knd:=q0k X.prog X.w) rfl rfl (by simp) (by simp) (pairTrees_cons_walk (wpAny_mono (hk pins _ σ _ ρ _ I1 B1.rel ns) (λ u s1 ⟨d1,y1,H1,e1,I1',r1,x1,q1⟩=>?_) (λ e s' z=>hE e s' (q9c B x0 z.bind))))) rfl;rw[e1,q00] at hs hE |-;refine wpAny_mono (hv pins s1 σ H1 ρ _ I1' (B1.rel.ext x1) (q0C (q2U hs))) (λ u2 s2 ⟨d2,y2,H2,e2,I2,r2,x2,q2⟩=>?_) (λ e s' z=>hE e s' (q9c B (x0.trans x1) z.bind));rw[e2,q00] at hs hE |-;refine pairTrees_nil_walk ?_;cases d1<;>first
  |exact absurd rfl hs
  |skip
 rename_i n;cases (show y1=_ from q1);have hp2:H2 s.heap.objs.size=some (.dK []):=x2 _ _ (x1 _ _ q0B);obtain⟨z,hd,vs0,r0,dd⟩:=qFe I2.hok hp2;cases r0;obtain⟨rs,c,rk⟩:=q5g (P:=X.prog) (w:=X.w) (kvs:=[(Sum.inl n,y2)]) (ws:=[(u,u2)]) (.cons ⟨r1,r2⟩ .nil);refine⟨rs,c,dd,λ h' dd' hsb=>?_⟩;have he:∃q,h'.get? s.heap.objs.size=some q:=let ⟨q,_,_,hq,_⟩:=dd';⟨q,hq⟩;have hz:(qEn [] [((Sum.inl n:Key),y2)]).length<=sizeLine:=by rw[sizeLine_eq];show 1<=_;decide
 have I3:Inv X pins σ (upd H2 s.heap.objs.size (.dK [(Sum.inl n,y2)])) {s2 with heap:=h',toks:=s2.toks+[(u,u2)].length}:=q8F I2 (by rw[hp2];exact True.intro) hsb he (qEm hz hd (rk.merge .nil) dd');have xt:Ext H (upd H2 s.heap.objs.size (.dK [(Sum.inl n,y2)])):=λ a o e=>by rw[q05 (q0A e hn)];exact x2 _ _ (x1 _ _ (x0 _ _ e))
 refine q0q (v:= .ref s.heap.objs.size) I3 hN hi hx rfl (λ s3 I4=>⟨_,.nx,_,_,_,rfl,B.setO lt xt (as:=[s.heap.objs.size]) (by simp) (λ a ha=>?_) (λ a ha=>?_) ⟨_,rfl,rfl,_,q0B,rfl,y2,[],rfl,qJL ?_ q2,rfl⟩,I4,trivial⟩) hf
 ·rw[Qs.mp ha];exact hn
 ·rw[Qs.mp ha];exact⟨_,q0B⟩
 ·intro a o e nd;unfold fz at e |-;split at e
  ·cases e
  ·rename_i h;have ne:a≠s.heap.objs.size:=λ z=>by rw[z,hp2] at e;exact nd _ (QR.inj e).symm
   rw[if_neg λ m=>(Qq.mp m).elim h λ z=>ne (Qs.mp z),q05 ne];exact e
theorem qBy {Hf:Hp}{n:Int}{y:D}{v:V}(hy:Rep p Hf y v):∀{kvs:List (Key×V)}{ds:List D}{r:List D×List D},(kvs.map (·.1)).Nodup->RepL p Hf ds (kvs.map (·.2))->put n y (kvs.map λ q=>keyD q.1) ds = .ok r->
  r.1=(putK kvs (.inl n) v).map (λ q=>keyD q.1)/\RepL p Hf r.2 ((putK kvs (.inl n) v).map (·.2))
 |[],ds,r,_,h,e=>by cases (show ds=[] from by cases ds with|nil=>rfl|cons _ _=>obtain⟨_,_,z,_⟩:=h;cases z);cases e;exact⟨rfl,v,[],rfl,hy,rfl⟩
 |(k,w)::t,ds,r,nd,h,e=>by
  cases ds with
  |nil=>cases (show (w::t.map (·.2))=[] from h)
  |cons d1 ds =>
   obtain⟨v0,r',q,h1,h2⟩:=h;injection q with q1 q2
   subst q1 q2;have nd':k∉t.map (·.1)/\(t.map (·.1)).Nodup:=QG.mp nd;cases k with
   |inr x=>simp[put,keyD] at e
   |inl j =>
    have e':(if j=n then R.ok (D.int j::t.map (λ q=>keyD q.1),y::ds) else (put n y (t.map λ q=>keyD q.1) ds).bind λ r=> .ok (.int j::r.1,d1::r.2)) = .ok r:=e;clear e
    by_cases c:j=n
    ·rw[if_pos c] at e';subst c;cases e';have eq:putK ((Sum.inl j,w)::t) (.inl j) v=(Sum.inl j,v)::t:=by
      unfold putK;rw[if_pos (by simp),Qv,if_pos rfl];congr 1;have:∀q∈t,(if q.1=(Sum.inl j:Key) then (q.1,v) else q)=q:=λ q hq=>if_neg λ z=>nd'.1 (Qg.mpr ⟨q,hq,z⟩)
      conv=>rhs;rw[<-List.map_id t]
      exact List.map_congr_left λ q hq=>this q hq
     rw[eq];exact⟨rfl,v,_,rfl,hy,h2⟩
    ·rw[if_neg c] at e';cases e2:put n y (t.map λ q=>keyD q.1) ds with
     |ok r2 =>
      rw[e2,q00] at e';cases e';obtain⟨g1,g2⟩:=qBy hy nd'.2 h2 e2;have eq:putK ((Sum.inl j,w)::t) (.inl n) v=(Sum.inl j,w)::putK t (.inl n) v:=by
       unfold putK;have c':¬((Sum.inl j:Key)=Sum.inl n):=λ z=>c (Sum.inl.inj z);rw[Q3];simp only[c',decide_false,Bool.false_or];split
       ·rw[Qv,if_neg c']
       ·rfl
      rw[eq];exact⟨by rw[Qv,<-g1];rfl,w,_,rfl,h1,g2⟩
     |err c=>rw[e2] at e';cases e'
     |stuck=>rw[e2] at e';cases e'
theorem qBz (n:Int) (y:D):∀(ks vs:List D),put n y ks vs = .stuck\/∃r,put n y ks vs = .ok r
 |[],[]=> .inr ⟨_,rfl⟩
 |[],_::_=> .inl rfl
 |k::ks,[]=>by cases k<;>exact .inl rfl
 |k::ks,v::vs=>by
  cases k<;>first
   |exact .inl rfl
   |(unfold put
     split
     ·exact .inr ⟨_,rfl⟩
     ·rcases qBz n y ks vs with z|⟨r,z⟩
      ·rw[z];exact .inl rfl
      ·rw[z];exact .inr ⟨_,rfl⟩)
theorem qE0 {P:Program}{w:World}{h:Heap}{a:Addr}{kvs:List (Key×V)}(ok:HOk P w H h) (e:H a=some (.dK kvs)):(kvs.map (·.1)).Nodup:=by
 obtain⟨z,hd,vs,rel,_,_,_,_,_,_,_,_,nd⟩:=qFe ok e;have:∀{l:List (Key×V)}{m:List (Key×Value)},KV l m->l.map (·.1)=m.map (·.1):=by
  intro l m r;unfold KV at r
  induction r with
  |nil=>rfl
  |cons h t ih=>rw[Qv,Qv,ih,h.1]
 rw[this rel];exact nd
theorem qJP {k v:PySem.Expr}{lk lv:L}(hu:X.A.units+64<cLine) (hi:X.N[i]? = some x) (hvs:Vis X.env.scope x) (hd:(x==("__debug__":Str))=false) (hcd:(x==("__classdict__":Str))=false) (hk:SE X p G sub k lk) (hv:SE X p G sub v lv)
  (hsw:swapsWith v (some (.Subscript (.Name x q) k pos')) pos.line X.env=pure false):SS X p G sub (.Assign [.Subscript (.Name x q) k pos'] v pos) (.put i lk lv):=by
 intro H0 O0 E hp pins s σ H ρ os I B hs hE;have e0:ex G sub (.put i lk lv) ρ=match ρ[i]? with
   |some (some (.own (.dct ks vs)))=>(ev G sub lv ρ).go ρ λ y=>(ev G sub lk ρ).go ρ λ x=>match x with
     | .int n=>if ks.length<big then (put n y ks vs).go ρ λ r=> .ok (ρ.set i (some (.own (.dct r.1 r.2)))) .nx else .stuck
     |_=> .stuck
   |_=> .stuck:=rfl
 rw[e0] at hs hE |-;split at hs
 ·rename_i ks ds hρ;simp only[hρ] at hE |-;obtain⟨y,as,s1,s2,a',rfl,rfl,kvs,s5,s6,s7⟩:=B.at hρ;refine wpAny_Assign_Subscript (wpAny_mono (hv pins s σ H ρ _ I B.rel (q2U hs)) (λ u1 t1 ⟨d1,y1,H1,e1,I1,r1,x1,q1⟩=>?_) (λ e s' z=>hE e s' (q2z B z))) hsw;rw[e1,q07] at hs hE |-;refine q2s I1 hi hvs s1 hd hcd λ u r=>?_;cases r;have B1:=B.mono x1;refine wpAny_mono (hk pins t1 σ H1 ρ _ I1 B1.rel (q2U hs)) (λ u2 t2 ⟨d2,y2,H2,e2,I2,r2,x2,q2⟩=>?_) (λ e s' z=>hE e s' (q9c B x1 z));rw[e2,q07] at hs hE |-;cases d2<;>first
   |exact absurd rfl hs
   |skip
  rename_i n;have hs:(if ks.length<big then (put n d1 ks ds).go ρ λ r=>RS.ok (ρ.set i (some (.own (.dct r.1 r.2)))) .nx else .stuck) ≠ .stuck:=hs;show wpAny _ _ _ (λ _=>Gs X p H0 O0 pins (if ks.length<big then (put n d1 ks ds).go ρ λ r=>RS.ok (ρ.set i (some (.own (.dct r.1 r.2)))) .nx else .stuck) Flow.next) _ _
  by_cases z:ks.length<big
  ·rw[if_pos z] at hs |-;rcases qBz n d1 ks ds with w|⟨r,w⟩
   ·rw[w] at hs;exact absurd rfl hs
   rw[w,q07];cases (show y2=_ from q2);have x12:=x1.trans x2;have h5:H2 a'=some (.dK kvs):=x12 _ _ s5;subst s6;obtain⟨g1,g2⟩:=qBy (v:=y1) (q1.mono (q1D x2)) (qE0 I2.hok h5) (s7.mono (q1D x12)) w;have hl:kvs.length<sizeLine:=Qn (by simpa using z) q0d;refine qB1 (A:=X.A) (by lia) I2 (DPut.k (k:= .inl n) h5 hl) r2 r1 λ t3 I3=>?_;exact⟨_,.nx,σ,os,_,rfl,(B.mono x12).write s1 s2 (by simp) ⟨a',rfl,rfl,_,q0B,g1,g2⟩,I3,trivial⟩
  ·rw[if_neg z] at hs;exact absurd rfl hs
 ·exact absurd rfl hs
end
end Snd
namespace Snd
open PySem PySem.Spec PyProof.Rows L2 Ev
section
variable {X:Cx}{p:Pm}{G:Nat->List D->R D}{sub:Nat->Nat->Bool}
theorem qC0 {tg iter:PySem.Expr}{sc:Scope}{q pos:Pos}{ts:List Str}{it:Addr}{fp:List Addr}{tn:Nat->Heap->Prop}{J:It}{pins:List (Addr×Obj)}{s2:Shared}{σ:L2.St}{H2:Hp}{os:List (List Addr)}
  {ds:List D}{vs:List V}{cl0:List (Str×Addr)}{E:Value->Shared->Prop}{RR:Value->Addr->Result->Shared->Prop}(hc:X.calm=true) (S:ScOk X sc ts) (hcl1:∀y c,cl0.lookup y=some c->X.env.cells.lookup y=some c)
  (hcl2:∀x∈sc.names,x.2 = .free->∃c,cl0.lookup x.1=some c)
  (hG:∀s2 H2 cl C fp,SGc (cxC X s2 H2 sc cl C (inN ts X.N) fp) p tg 0 ts.length)
  (I2:Inv X pins σ H2 s2) (T:Turn X.prog X.w X.K tg J fp it tn) (st2:tn 0 s2.heap) (f2:∀b∈fp,FpOk X pins H2 b) (rep:RepL p (fz os.flatten H2) ds vs) (wk:Wk J H2 vs) (hbig:ds.length<=1000)
  (hRR:∀D C s' H' bs,Inv X pins σ H' s'->Ext H2 H'->H' D=some (.lst (bs.map V.ref))->bs.length=ds.length->(D::bs).Nodup->(∀b∈D::bs,H2 b=none)->(∀b∈bs,H' b=some (.lst []))->(∃m,s'.heap.Ns C m)->FpOk X pins H' C->RR (.ref D) C (.ok .next) s') :
  wpAny (model X.prog X.w) X.A (newList []) (λ acc s3=>wpAny (model X.prog X.w) X.A (newFunctionEnv sc X.env.globals cl0 [] X.env.qual none .none (some X.env)) (λ cenv s4 =>
   codeAny (model X.prog X.w) X.A (.compStart (.ListComp (.List [] q) [⟨tg,iter,[],0⟩] sc pos) 0 (.ref it) acc {cenv with scope:=relabel sc X.env}) (RR acc cenv.locals) s4) E s3) E s2:=by
 have ho:∀b∈fp,∃o,s2.heap.get? b=some o:=λ b hb=>let ⟨o,e,_⟩:=T.obj 0 _ st2 b hb;⟨o,e⟩;refine q54 (P:=λ acc cenv C s4=>codeAny (model X.prog X.w) X.A (.compStart (.ListComp (.List [] q) [⟨tg,iter,[],0⟩] sc pos) 0 (.ref it) acc cenv) (RR acc C) s4) I2 S hcl1 hcl2 f2 ho λ cl h1 co kp I4=>?_;generalize hs4:({s2 with heap:=h1}:Shared)=s4 at I4 |-;have st4:tn 0 s4.heap:=T.keep _ _ _ st2 λ b hb o e=>by rw[<-hs4];exact kp b o e
 have fr:H2 s2.heap.objs.size=none:=I2.hok.fresh (Qi _);have stat:∀{H':Hp},(∀b∈fp,H' b=none)->∀b∈fp,FpOk (cxC X s2 H2 sc cl (s2.heap.objs.size+1) (inN ts X.N) fp) [] H' b:=λ {H'} hn b hb=>by
  refine⟨hn b hb,?_,λ hm=>?_,.inl hb,λ x c h=>?_,λ p hp=>absurd (show p∈([]:List (Addr×Obj)) from hp) (by simp)⟩
  ·obtain⟨o,e⟩:=ho b hb;exact Qy (Ju (Heap.lt_size e))
  ·rcases Qf.mp (I2.q3D b hm) with z|z
   ·exact (f2 b hb).2.1 z
   ·exact (f2 b hb).2.2.1 z
  ·rcases co.old x c h with z|⟨z,_⟩
   ·exact (f2 b hb).2.2.2.2.1 x c z
   ·obtain⟨o,e⟩:=ho b hb;exact λ y=>by have:=Heap.lt_size e;lia
 have hlen:ds.length=vs.length:=rep.length;have loop:codeAny (model X.prog X.w) X.A (.compLoop (.ListComp (.List [] q) [⟨tg,iter,[],0⟩] sc pos) 0 (.ref it) (.ref s2.heap.objs.size) (compEnvC sc cl (s2.heap.objs.size+1) X.env)) (RR (.ref s2.heap.objs.size) (s2.heap.objs.size+1)) s4:=by
  refine q4X (λ n s'=>∃i σt H' bs,Inv (cxC X s2 H2 sc cl (s2.heap.objs.size+1) (inN ts X.N) fp) [] (σt++σ) H' s'/\σt.length=ts.length/\tn i s'.heap/\(∀b∈fp,H' b=none)/\Ext H2 H'/\H' s2.heap.objs.size=some (.lst (bs.map V.ref))/\
   (s2.heap.objs.size::bs).Nodup/\(∀b∈bs,H2 b=none/\H' b=some (.lst []))/\bs.length=i/\n=ds.length-i/\i<=ds.length) ?_ ds.length
   ⟨0,Qh ts.length none,upd H2 s2.heap.objs.size (.lst []),[],I4,by simp,st4,λ b hb=>?_,Ext.upd fr,q0B,by simp,λ b hb=>absurd hb (by simp),rfl,by simp,QM _⟩
  ·rintro n s5 ⟨i,σt,H5,bs,I5,hσ,st5,fr5,x5,hDs,nd5,bs5,lb5,rfl,hi5⟩
   by_cases hlt:i<ds.length
   ·refine wpAny_mono (T.item (cxC X s2 H2 sc cl (s2.heap.objs.size+1) (inN ts X.N) fp) rfl rfl rfl hc i [] s5 _ H5 (λ _ _=>False) I5 (stat fr5) st5 (wk.go i H5 x5 (hlen▸hlt))) (λ r s6 ⟨u,hr,h6⟩=>?_) (λ _ _ z=>z);subst hr;refine wpAny_mono h6 (λ _ s7 ⟨x,H7,I7,r7,y7,st7,fr7⟩=>?_) (λ _ _ z=>z);obtain⟨rfl,hx⟩:=wk.yld i H5 x H7 x5 (hlen▸hlt) y7;obtain⟨v',hv',rv'⟩:=rep.get (i:=i) (d:=ds[i]) (by simp[hlt]);rw[hx] at hv';cases hv';have I7':=I7.pinned (stat fr7) (T.obj _ _ st7);refine wpAny_mono (hG s2 H2 cl (s2.heap.objs.size+1) fp (λ _ _=>False) _ s7 σt σ H7 (fz os.flatten H2) ds[i] [ds[i]] x u I7' hσ r7 (q0Y.trans x5) rv' rfl) (λ _ s8 ⟨vs8,rp8,hl8,I8⟩=>?_) (λ _ _ z=>z);refine wpAny_tests_nil ?_;rw[if_pos rfl];refine wpAny_List_spliced (Calls.spliced_nil ⟨QM _,?_⟩);have fr8:H7 s8.heap.objs.size=none:=I8.hok.fresh (Qi _);have I9:=I8.lnew (t':=s8.toks) (ys:=[]) (its:=[]) .nil (QM _);have neD:s2.heap.objs.size≠s8.heap.objs.size:=q0A hDs fr8;have hD9:upd H7 s8.heap.objs.size (.lst []) s2.heap.objs.size=some (.lst (bs.map V.ref)):=(by rw[q05 neD];exact hDs);refine wpAny_mono (q3G (X:=cxC X s2 H2 sc cl (s2.heap.objs.size+1) (inN ts X.N) fp) _ _ _ _ (.ref s2.heap.objs.size) [.ref s8.heap.objs.size] (.ref s2.heap.objs.size) [.ref s8.heap.objs.size] (λ z H'=>H'=upd (upd H7 s8.heap.objs.size (.lst [])) s2.heap.objs.size (.lst (bs.map V.ref++[.ref s8.heap.objs.size]))) I9 rfl (.cons rfl .nil)
     ⟨_,bs.map V.ref,.ref s8.heap.objs.size,rfl,rfl,hD9,?_,rfl⟩) (λ _ s11 h11=>?_) (λ _ _ z=>z)
    ·rw[Qe,lb5,sizeLine_eq];exact Qn hlt (Qr hbig (by decide))
    obtain⟨_,H11,I11,_,rfl⟩:=h11;have k1:tn (i+1) s11.heap:=T.keep _ _ _ st7 λ b hb o e=>(I11.pin (b,o) (Qp _ (Qp _ (q1c hb e)))).1;have k2:∀b∈fp,upd (upd H7 s8.heap.objs.size (.lst [])) s2.heap.objs.size (.lst (bs.map V.ref++[.ref s8.heap.objs.size])) b=none:=λ b hb=>by obtain⟨o,e,d⟩:=T.obj _ _ st7 b hb;exact (I11.pin (b,o) (Qp _ (Qp _ (q1c hb e)))).2.1
    have nb:s8.heap.objs.size∉bs:=λ z=>by rw[(bs5 _ z).2] at fr8;cases fr8
    have nd':=QG.mp nd5;refine⟨ds.length-(i+1),by lia,i+1,vs8.map some,_,bs++[s8.heap.objs.size],I11.q1A,by simpa using hl8,k1,k2,λ a o e=>?_,by rw[q0B,Js];rfl,?_,λ b hb=>?_,by simp[lb5],rfl,hlt⟩
    ·rw[q05 (q0A e fr),q05 (q0A (x5 _ _ e) fr8)];exact x5 _ _ e
    ·refine QG.mpr ⟨λ z=>?_,Qz.mpr ⟨nd'.2,by simp,λ a ha b hb e=>?_⟩⟩
     ·rcases Qq.mp z with z|z
      ·exact nd'.1 z
      ·exact neD (Qs.mp z)
     ·rw[Qs.mp hb] at e;exact nb (e▸ha)
    ·rcases Qq.mp hb with hb|hb
     ·obtain⟨g1,g2⟩:=bs5 b hb;refine⟨g1,?_⟩;have n1:b≠s2.heap.objs.size:=λ z=>nd'.1 (z▸hb);have n2:b≠s8.heap.objs.size:=λ z=>nb (z▸hb);rw[q05 n1,q05 n2];exact g2
     ·rw[Qs.mp hb];refine⟨?_,by rw[q05 (Ne.symm neD),q0B]⟩;cases e:H2 s8.heap.objs.size with
      |none=>rfl
      |some o=>rw[x5 _ _ e] at fr8;cases fr8
   ·have ei:i=ds.length:=(by lia);refine wpAny_mono (T.done (cxC X s2 H2 sc cl (s2.heap.objs.size+1) (inN ts X.N) fp) rfl rfl rfl hc i [] s5 _ H5 (λ _ _=>False) I5 (stat fr5) st5 (by rw[ei];exact hlen▸wk.stop H5 x5)) (λ r s6 ⟨hr,I6⟩=>?_) (λ _ _ z=>z);subst hr;obtain⟨m,hm,_⟩:=I6.loc;have fC:FpOk X pins H5 (s2.heap.objs.size+1):=I2.fpOk (Nat.le_succ _) I6.free;refine hRR _ _ s6 H5 bs ?_ x5 hDs (lb5.trans ei) nd5 (λ b hb=>?_) (λ b hb=>(bs5 b hb).2) ⟨m,hm⟩ fC
    ·exact I2.qFS (ch:=fp) I6.os I6.base I6.hok I6.bare λ b hb=>⟨(f2 b hb).2.2.2.1,(f2 b hb).2.1,(f2 b hb).2.2.2.2.1,(f2 b hb).2.2.2.2.2⟩
    ·rcases Qf.mp hb with rfl|hb
     ·exact fr
     ·exact (bs5 b hb).1
  ·obtain⟨o,e⟩:=ho b hb;rw[q05 (Qy (Heap.lt_size e))];exact (f2 b hb).1
 exact codeAny_compStart_list loop (T.self _ 0 _ _ _ st4 loop)
theorem q9d {H Hf:Hp}:∀{bs:List Addr},(∀b∈bs,H b=some (.lst []))->q2r p H Hf bs (Qh bs.length [])
 |[],_=>rfl
 |b::bs,h=>⟨[],Qh bs.length [],rfl,⟨[],h b (by simp),rfl⟩,q9d λ c hc=>h c (Qa _ hc)⟩
theorem qGa {i:Nat}{x t:Str}{a:PySem.Expr}{l:L}{sc:Scope}{q q2 q3 q4 pos pos' spos:Pos}(hc:X.calm=true) (S:ScOk X sc [t]) (hg:Gl X "range") (hm:X.mg "range" = none) (ha:SE X p G sub a l) (hst:starEach [a] X.env=[(false,eval a X.env)])
  (hNi:(inN [t] X.N).Nodup) (htl:sc.names.lookup t=some .local)
  (hN:X.N.Nodup) (hiN:X.N[i]? = some x) (hx:Loc X.env.scope x) (hf:X.fn x=true\/X.env.scope.names.lookup x=some .local)
  (hsw:swapsWith (.ListComp (.List [] q) [⟨.Name t q2,.Call (.Name "range" q3) [a] [] q4,[],0⟩] sc pos) (some (.Name x pos')) spos.line X.env=pure true) :
  SS X p G sub (.Assign [.Name x pos'] (.ListComp (.List [] q) [⟨.Name t q2,.Call (.Name "range" q3) [a] [] q4,[],0⟩] sc pos) spos) (.setE i l):=by
 intro H0 O0 E hp pins s σ H ρ os I B hs hE';have e0:ex G sub (.setE i l) ρ=(ev G sub l ρ).go ρ λ d=>match d with
   | .int n=>if 0<=n/\n<=1000 then .ok (ρ.set i (some (.own2 (Qh n.toNat [])))) .nx else .stuck
   |_=> .stuck:=rfl
 rw[e0] at hs hE' |-;obtain⟨cl,hcl,hcl1,hcl2⟩:=q41 (q43 I.ok S);have lt:i < ρ.length:=by rw[<-B.slen,I.len];exact (Qd.mp hiN).1
 have hG:∀s2 H2 cl C fp,SGc (cxC X s2 H2 sc cl C (inN [t] X.N) fp) p (.Name t q2) 0 [t].length:=λ s2 H2 cl C fp=>by
  have z:(relabel sc X.env).names.lookup t=some .local:=by rw[q0N,htl];rfl
  exact q9T hNi rfl (.inl z) (.inr z)
 rw[exec_Assign_Name_used _ _ _ _ hsw];refine wpAny_bind (wpAny_standAt (wpAny_bind ?_));show wpAny _ X.A (do let _ <-comprehension (.ListComp (.List [] q) [⟨.Name t q2,.Call (.Name "range" q3) [a] [] q4,[],0⟩] sc pos) sc X.env _ (newList []) false (eval (.Call (.Name "range" q3) [a] [] q4) X.env) (some (assign (.Name x pos') X.env))) _ _ s;have si:=q53 (X:=X) (p:=p) (G:=G) (sub:=sub) (tg:= .Name t q2) (q:=q3) (pos:=q4) hg hm (qBa ha qF2 (by rw[hst];rfl)) hst;cases hev:ev G sub l ρ with
 |stuck=>simp only[hev] at hs;exact absurd rfl hs
 |err c =>
  have hri:evi G sub (.rng [l]) ρ = .err c:=by rw[q1T,q0H,hev];rfl
  refine wpAny_bind (wpAny_mono (wpAny_comprehension_free (use:=some (assign (.Name x pos') X.env)) (Q:=λ _ s'=>False) rfl (λ _=>rfl) hcl S.kind S.names
   (wpAny_mono (si pins s σ H ρ _ I B.rel (by rw[hri];simp)) (λ v s1 h1=>wpAny_mono h1 (λ itv s2 h2=>?_) (λ e s' z=>hE' e s' ?_)) (λ e s' z=>hE' e s' ?_))) (λ _ s' hq=>hq.elim) λ _ _ e=>e)
  ·obtain⟨ds,e1,_⟩:=h2;rw[hri] at e1;cases e1
  ·rw[hri] at z;obtain⟨c',e1,m⟩:=z;cases e1;exact⟨c,ρ,σ,os,H,by rw[hev];rfl,B,m⟩
  ·rw[hri] at z;obtain⟨c',e1,m⟩:=z;cases e1;exact⟨c,ρ,σ,os,H,by rw[hev];rfl,B,m⟩
 |ok d =>
  simp only[hev,q07] at hs hE' |-;cases d<;>first
   |exact absurd rfl hs
   |skip
  rename_i n;have hs:(if 0<=n/\n<=1000 then RS.ok (ρ.set i (some (.own2 (Qh n.toNat [])))) .nx else .stuck) ≠ .stuck:=hs
  by_cases hn:0<=n/\n<=1000
  ·have hri:evi G sub (.rng [l]) ρ = .ok ((Qk n.toNat).map λ (k:Nat)=> .int k):=by rw[q1T,q0H,hev,q0c];show rngD [.int n]=_;unfold rngD;dsimp only;rw[if_pos (by lia)]
   refine wpAny_bind (wpAny_mono (wpAny_comprehension_free (use:=some (assign (.Name x pos') X.env)) (Q:=λ _ s'=>Gs X p H0 O0 pins (if 0<=n/\n<=1000 then RS.ok (ρ.set i (some (.own2 (Qh n.toNat [])))) .nx else .stuck) .next s') rfl (λ _=>rfl) hcl S.kind S.names
    (wpAny_mono (si pins s σ H ρ _ I B.rel (by rw[hri];simp)) (λ v s1 h1=>wpAny_mono h1 (λ itv s2 h2=>?_) (λ e s' ⟨c,z,_⟩=>by rw[hri] at z;cases z)) (λ e s' ⟨c,z,_⟩=>by rw[hri] at z;cases z))) (λ _ s' hq=>wpAny_pure (wpAny_pure hq)) λ _ _ e=>e)
   rw[hri] at h2;obtain⟨ds,e1,it,fp,tn,J,H2,rfl,I2,T,st2,f2,x2,vs,rep,wk⟩:=h2;cases e1;have hld:((Qk n.toNat).map λ (k:Nat)=>D.int k).length=n.toNat:=(by simp);refine qC0 (RR:=λ acc C=>compPost (model X.prog X.w) X.A _ (some (assign (.Name x pos') X.env)) _ acc C) hc S hcl1 hcl2 hG I2 T st2 f2 rep (qBe wk) (by rw[hld];lia) λ D C s' H' bs I' x' hDs lbs nd nw nl hns fC=>?_;obtain⟨m,hm'⟩:=hns;obtain⟨f0,f1,f2',f3,f4,f5⟩:=fC;obtain⟨oC,esC,epC,hoC,hdC,hrC⟩:=id hm';have IP:Inv X (pins++[(C,oC)]) σ H' s':=I'.q6A λ q hq=>(Qq.mp hq).elim (λ z=>I'.pin q (Qp _ z)) λ z=>by cases Qs.mp z;exact⟨hoC,f0,f1,f2',λ v z=>by rw[hdC] at z;cases z⟩
   refine wpAny_assign_Name (q0q IP hN hiN hx (v:= .ref D) rfl (λ s3 I3=>?_) hf);have hC3:=(I3.pin (C,oC) (Qp _ (Qp _ (Qs.mpr rfl)))).1;rw[if_pos hn];have lb:bs.length=n.toNat:=lbs.trans hld;refine⟨m,⟨oC,esC,epC,hC3,hdC,hrC⟩,λ h' hs'=>⟨_,.nx,_,_,H',rfl,(B.mono x2).setO lt x' (as:=D::bs) nd nw (λ b hb=>?_) ⟨D,bs,rfl,rfl,hDs,?_⟩,?_,trivial⟩⟩
   ·rcases Qf.mp hb with rfl|hb
    ·exact⟨_,hDs⟩
    ·exact⟨_,nl b hb⟩
   ·rw[<-lb];exact q9d nl
   ·exact I3.q1A.turned (t':=s3.toks) (λ b o hb e=>hs'.extBut b o hb e) f0 f1 f3 f4 f5
  ·rw[if_neg hn] at hs;exact absurd rfl hs
end
end Snd
namespace Snd
open PySem PySem.Spec PyProof.Rows L2 Ev
variable {i:Nat}{H0 H:Hp}{O0:List Addr}{ρ:Ev.Env}{σ:L2.St}{os:List (List Addr)}{a:Addr}
section
variable {X:Cx}{p:Pm}{G:Nat->List D->R D}{sub:Nat->Nat->Bool}
theorem q6a {H Hf:Hp}:∀{bs:List Addr}{xss:List (List D)}{n:Nat}{ys:List D},bs.Nodup->q2r p H Hf bs xss->xss[n]? = some ys->∃b vs,bs[n]? = some b/\H b=some (.lst vs)/\RepL p Hf ys vs/\∀d v,Rep p Hf d v->q2r p (upd H b (.lst (vs++[v]))) Hf bs (xss.set n (ys++[d]))
 |[],xss,n,ys,_,h,e=>by cases (show xss=[] from h);simp at e
 |b::bs,_,0,ys,nd,h,e=>by obtain⟨xs,r,rfl,⟨vs,h1,h2⟩,h3⟩:=h;simp at e;subst e;exact⟨b,vs,rfl,h1,h2,λ d v q=>⟨_,r,rfl,⟨_,q0B,h2.snoc q⟩,q5A (QG.mp nd).1 h3⟩⟩
 |b::bs,_,n+1,ys,nd,h,e=>by obtain⟨xs,r,rfl,⟨vs,h1,h2⟩,h3⟩:=h;obtain⟨b',vs',g1,g2,g3,g4⟩:=q6a (n:=n) (QG.mp nd).2 h3 (by simpa using e);refine⟨b',vs',by simpa using g1,g2,g3,λ d v q=>⟨xs,_,rfl,⟨vs,?_,h2⟩,g4 d v q⟩⟩;have ne:b≠b':=λ z=>(QG.mp nd).1 (z▸Qm g1);rw[q05 ne];exact h1
theorem qGb {x:Str}{k a:PySem.Expr}{lk l:L}{q q2 ap cp pos:Pos}(hi:X.N[i]? = some x) (hv:Vis X.env.scope x) (hd:(x==("__debug__":Str))=false) (hcd:(x==("__classdict__":Str))=false) (hk:SE X p G sub k lk) (hix:q8G k) (ha:SE X p G sub a l)
  (hst:starEach [a] X.env=[(false,eval a X.env)]) (hline:(ap.endLine==cp.line)=true):SS X p G sub (.Expr (.Call (.Attribute (.Subscript (.Name x q) k q2) "append" ap) [a] [] cp) pos) (.app2 i lk l):=by
 intro H0 O0 E hp pins s σ H ρ os I B hs hE;have e0:ex G sub (.app2 i lk l) ρ=match ρ[i]? with
   |some (some (.own2 xss))=>(ev G sub lk ρ).go ρ λ x=>match x with
     | .int n=>if 0<=n then (match xss[n.toNat]? with
       |some ys=>(ev G sub l ρ).go ρ λ d=>if ys.length<big then .ok (ρ.set i (some (.own2 (xss.set n.toNat (ys++[d]))))) .nx else .stuck
       |none=> .stuck) else .stuck
     |_=> .stuck
   |_=> .stuck:=rfl
 rw[e0] at hs hE |-;split at hs
 ·rename_i xss hρ;simp only[hρ] at hE |-;obtain⟨y,as,s1,s2,a0,bs,rfl,rfl,s5,s6⟩:=B.at hρ;have ndb:(a0::bs).Nodup:=by
   have h1:(a0::bs).Sublist os.flatten:=by obtain⟨l1,l2,e⟩:=List.append_of_mem (Qm s2);rw[e,List.flatten_append,Qx];exact (List.sublist_append_left _ _).trans (List.sublist_append_right _ _)
   have h2:os.flatten.Nodup:=(by have:=B.rel.nd;rw[q0m] at this;exact (Qz.mp this).1);exact h2.sublist h1
  refine wpAny_Expr_any (wpAny_Call_method_late rfl (by rw[hst];rfl) hline rfl (Subscript_ (q2s I hi hv s1 hd hcd λ u r=>?_))) I.quiet rfl;cases r;refine wpAny_mono (hk pins s σ H ρ _ I B.rel (q2U hs)) (λ u1 t1 ⟨d1,y1,H1,e1,I1,r1,x1,q1⟩=>?_) (λ e s' z=>hE e s' (q2z B z));rw[e1,q07] at hs hE |-;cases d1<;>first
   |exact absurd rfl hs
   |skip
  rename_i n;have hs:(if 0<=n then (match xss[n.toNat]? with
       |some ys=>(ev G sub l ρ).go ρ λ d=>if ys.length<big then RS.ok (ρ.set i (some (.own2 (xss.set n.toNat (ys++[d]))))) .nx else .stuck
       |none=> .stuck) else .stuck) ≠ .stuck:=hs
  have hE:∀e s',Es X p H0 O0 pins (if 0<=n then (match xss[n.toNat]? with
       |some ys=>(ev G sub l ρ).go ρ λ d=>if ys.length<big then RS.ok (ρ.set i (some (.own2 (xss.set n.toNat (ys++[d]))))) .nx else .stuck
       |none=> .stuck) else .stuck) e s'->E e s':=hE
  by_cases hn:0<=n
  ·rw[if_pos hn] at hs hE;cases hys:xss[n.toNat]? with
   |none=>simp only[hys] at hs;exact absurd rfl hs
   |some ys =>
   simp only[hys] at hs hE;cases (show y1=_ from q1);have B1:=B.mono x1;obtain⟨b,vs,g1,g2,g3,g4⟩:=q6a (QG.mp ndb).2 (q4g x1 (q1D x1) s6) hys;have hat:atI (bs.map V.ref) n=some (.ref b):=by have hlt:=(Qd.mp g1).1;unfold atI ixN;rw[if_pos hn,if_pos (by rw[Qe];lia)];show (bs.map V.ref)[n.toNat]? = _;rw[Qt,g1];rfl
   refine qB4 (X:=X.wish E) (.Name x q) k pins t1 σ H1 (.ref a0) (.int n) _ _ (λ z H'=>z = .ref b/\H'=H1) (I1.wish E) rfl r1 ⟨a0,bs.map V.ref,n,.ref b,rfl,rfl,SqL.of (x1 _ _ s5),hat,rfl,rfl⟩ (hix _ _) |> λ h=>wpAny_mono h (λ u2 t2 ⟨z,H2,I2,rz,ez,eH⟩=>?_) (λ _ _ z=>z)
   subst ez eH;cases rz;have I2:=I2.q2n;obtain⟨h1,h2⟩:=q7A (T := "list") (x:= .ref b) I2 rfl (.inl ⟨rfl,_,SqL.of g2⟩);refine⟨"list", "list.append",PySem.F.plainAttrs_list,PySem.F.slot_list_append,PySem.F.type_list_append,h1,h2,?_⟩;rw[hst];refine Calls.callWith_builtin rfl (Calls.evalArgs_plain ?_);show wpAny _ _ (spliced ((false,eval a X.env)::[])) _ _ t2;refine Calls.spliced_cons (wpAny_mono (ha pins t2 σ H2 ρ _ I2 B1.rel (q2U hs)) (λ v t3 ⟨d,x',H3,e3,I3,r3,x3,q3⟩=>Calls.spliced_nil ?_) (λ e s' z=>hE e s' (q9c B x1 z)));rw[e3,q07] at hs;have z:ys.length<big:=by
    by_cases z:ys.length<big
    ·exact z
    ·rw[if_neg z] at hs;exact absurd rfl hs
   obtain⟨b',vs',k1,k2,k3,k4⟩:=q6a (QG.mp ndb).2 (q4g (x1.trans x3) (q1D (x1.trans x3)) s6) hys;rw[g1] at k1;cases k1;have hl:=k3.length;refine wpAny_mono (q3G (X:=X.wish E) pins t3 σ H3 (.ref b) [x'] _ _ (λ z H'=>H'=upd H3 b (.lst (vs'++[x']))) (I3.wish E) rfl (.cons r3 .nil) ⟨b,vs',x',rfl,rfl,k2,Qn (by lia) q0d,rfl⟩) (λ w t4 ⟨zv,H4,I4,_,eH⟩=>?_) (λ _ _ z=>z);subst eH;have mb:b∈bs:=Qm g1;have nb:a0≠b:=λ z=>(QG.mp ndb).1 (z▸mb);refine⟨_,.nx,σ,os,_,?_,(B.mono (x1.trans x3)).write (c:=b) (sl:= .own2 (xss.set n.toNat (ys++[d]))) (o:= .lst (vs'++[x'])) s1 s2 (Qa _ mb) ⟨a0,bs,rfl,rfl,?_,k4 d x' q3⟩,I4.q2n,trivial⟩
   ·show (if 0<=n then (match xss[n.toNat]? with
       |some ys=>(ev G sub l ρ).go ρ λ d=>if ys.length<big then RS.ok (ρ.set i (some (.own2 (xss.set n.toNat (ys++[d]))))) .nx else .stuck
       |none=> .stuck) else .stuck)=_
    rw[if_pos hn,hys];dsimp only;rw[e3,q07,if_pos z]
   ·rw[q05 nb];exact x3 _ _ (x1 _ _ s5)
  ·rw[if_neg hn] at hs;exact absurd rfl hs
 ·exact absurd rfl hs
theorem Bd.out (b:Bd p H0 O0 ρ σ os H) (m:a∈os.flatten):a∉O0:=λ h=>by have:=b.rel.nd;rw[q0m] at this;exact (Qz.mp this).2.2 a m a h rfl
theorem qC1 {pins:List (Addr×Obj)}{s:Shared}{kvs:List (Key×V)}(I:Inv X pins σ H s) (e:H a=some (.dK kvs)):∃o,Inv X pins σ (upd H a (.frz o (.dK kvs))) s:=by
 obtain⟨o,ho⟩:=q2D (I.hok a _ e);have nea:∀{b:Addr}{u:HO},H b=some u->(∀k,u ≠ .dK k)->b≠a:=λ {b u} q n z=>by rw[z,e] at q;exact n _ (QR.inj q).symm
 refine⟨o,I.un (t':=s.toks) (h':=s.heap) ⟨λ b u q _ _ _=>q,λ b u q _ _ _=>⟨u.slots,q⟩,λ b u q n _=>by rw[q05 λ z=>by rw[z,e] at n;cases n];exact n,λ b u q _=>⟨u,q⟩,λ b xs q=>by rw[q05 (nea q λ _ z=>nomatch z)];exact q,λ b u xs q=>by rw[q05 (nea q λ _ z=>nomatch z)];exact q,λ b ps q=>⟨#[],by rw[q05 (nea q λ _ z=>nomatch z),q];simp⟩⟩ λ b u q=>?_⟩;have st:∀{c:Addr}{v:HO},q1P X.prog X.w H s.heap c v->q1P X.prog X.w (upd H a (.frz o (.dK kvs))) s.heap c v:=λ h=>h.stay (λ _ _ _ q=>q) (λ c q=>by rw[q05 (nea q λ _ z=>nomatch z)];exact q) λ c xs q=>by rw[q05 (nea q λ _ z=>nomatch z)];exact q
 by_cases hb:b=a
 ·subst hb;rw[q0B] at q;cases q;exact⟨ho,st (I.hok b _ e)⟩
 ·rw[q05 hb] at q;exact st (I.hok b u q)
theorem qE1 {O O':List Addr}{o:HO}(m:a∈O) (h:∀b∈O',b∈O):Ext (fz O H) (fz O' (upd H a o)):=λ c u e=>by
 unfold fz at e |-;split at e
 ·cases e
 ·rename_i n;have ne:c≠a:=λ z=>n (z▸m);rw[if_neg λ z=>n (h c z),q05 ne];exact e
theorem qC2 (lt:i<os.length):∀a∈(os.set i []++[O0]).flatten,a∈(os++[O0]).flatten:=λ a ha=>by rw[<-q0r lt] at ha;exact (q0J ha).elim id λ z=>absurd z (by simp)
theorem q7c {H H' Hf Hf':Hp}{x:Option Sl}{c:Addr}{o:HO}(hH:H'=upd H c o) (yf:Ext Hf Hf'):∀{ρ:Ev.Env}{σ:L2.St}{os:List (List Addr)}(i:Nat) {y:Option V}{as:List Addr},q1I p H Hf ρ σ os->σ[i]? = some y->os[i]? = some as->c∈as->os.flatten.Nodup->q3O p H' Hf' x y []->
  q1I p H' Hf' (ρ.set i x) σ (os.set i [])
 |[],_,_,_,_,_,_,_,_,_,_,_=>trivial
 |_::ρ,_,_,0,y,as,h,e1,e2,hc,nd,q=>by obtain⟨y1,σ',as',os',rfl,rfl,h1,h2⟩:=h;simp at e1 e2;subst e1 e2;simp only[Qx] at nd;subst hH;exact⟨_,σ',_,os',rfl,rfl,q,q1k (Ext.refl _) yf (q47 (λ z=>(Qz.mp nd).2.2 c hc c z rfl) h2)⟩
 |_::ρ,_,_,i+1,y,as,h,e1,e2,hc,nd,q=>by obtain⟨y1,σ',as',os',rfl,rfl,h1,h2⟩:=h;simp only[Qx] at nd;have m:c∈os'.flatten:=QW.mpr ⟨as,Qm (by simpa using e2),hc⟩;refine⟨y1,σ',as',os'.set i [],rfl,rfl,?_,q7c hH yf i h2 (by simpa using e1) (by simpa using e2) hc (Qz.mp nd).2.1 q⟩;subst hH;exact q6O (Ext.refl _) yf (q5B (λ z=>(Qz.mp nd).2.2 c z c m rfl) h1)
theorem Bd.alone (b:Bd p H0 O0 ρ σ os H) (e2:os[i]? = some [a]):a∉(os.set i []++[O0]).flatten:=by
 have lt:i<os.length:=(Qd.mp e2).1;have mo:a∈os.flatten:=QW.mpr ⟨[a],Qm e2,by simp⟩;have nd0:os.flatten.Nodup:=by have:=b.rel.nd;rw[q0m] at this;exact (Qz.mp this).1
 intro z;rw[q0m] at z;rcases Qq.mp z with z|z
 ·obtain⟨as,h1,h2⟩:=QW.mp z;obtain⟨j,hj,ej⟩:=QX h1;have hj':j<os.length:=by simpa using hj
  by_cases c:j=i
  ·subst c;rw[List.getElem_set_self] at ej;rw[<-ej] at h2;simp at h2
  ·rw[List.getElem_set_ne (Ne.symm c)] at ej;have k1:os[i]=[a]:=(Qd.mp e2).2;have:∀(l:List (List Addr)) (i j:Nat) (hi:i<l.length) (hj:j<l.length),i≠j->a∈l[i]->a∈l[j]->¬l.flatten.Nodup:=by
    intro l
    induction l with
    |nil=>intro i j hi;simp at hi
    |cons x l ih =>
     intro i j hi hj ne h1 h2 nd;simp only[Qx] at nd;have nd:=Qz.mp nd;cases i with
     |zero =>
      cases j with
      |zero=>exact ne rfl
      |succ j=>exact nd.2.2 a h1 a (QW.mpr ⟨_,QT (by simpa using hj),by simpa using h2⟩) rfl
     |succ i =>
      cases j with
      |zero=>exact nd.2.2 a h2 a (QW.mpr ⟨_,QT (by simpa using hi),by simpa using h1⟩) rfl
      |succ j=>exact ih i j (by simpa using hi) (by simpa using hj) (by lia) (by simpa using h1) (by simpa using h2) nd.2.1
   exact this os i j lt hj' (Ne.symm c) (by rw[k1];simp) (by rw[ej];exact h2) nd0
 ·exact b.out mo z
theorem Bd.frzD {kvs:List (Key×V)}{ks ds:List D}{o:Obj}(b:Bd p H0 O0 ρ σ os H) (e1:σ[i]? = some (some (.ref a))) (e2:os[i]? = some [a]) (hk:ks=kvs.map (λ q=>keyD q.1)) (hr:RepL p (fz (os++[O0]).flatten H) ds (kvs.map (·.2))) :
  Rep p (fz (os.set i []++[O0]).flatten (upd H a (.frz o (.dK kvs)))) (.dct ks ds) (.ref a)/\Bd p H0 O0 (ρ.set i (some (.val (.dct ks ds)))) σ (os.set i []) (upd H a (.frz o (.dK kvs))):=by
 have lt:i<os.length:=(Qd.mp e2).1;have mo:a∈os.flatten:=QW.mpr ⟨[a],Qm e2,by simp⟩;have m:a∈(os++[O0]).flatten:=by rw[q0m];exact QB _ mo
 have e3:(os++[O0])[i]? = some [a]:=by rw[QH lt];exact e2
 have nin:=b.alone e2;have yf:Ext (fz (os++[O0]).flatten H) (fz (os.set i []++[O0]).flatten (upd H a (.frz o (.dK kvs)))):=qE1 m (qC2 lt);have rep:Rep p (fz (os.set i []++[O0]).flatten (upd H a (.frz o (.dK kvs)))) (.dct ks ds) (.ref a):=⟨a,kvs,o,rfl,q25 q0B nin,hk,hr.mono yf⟩
 refine⟨rep,⟨⟨?_,λ c hc=>?_,?_⟩,by simp[b.len],by simp[b.slen],λ c u e=>?_,λ c hc=>?_⟩⟩
 ·rw[<-q0r lt];exact q0x Jp b.rel.nd λ a ha=>absurd ha (by simp)
 ·obtain⟨u,e⟩:=b.rel.there c (qC2 lt c hc);have ne:c≠a:=λ z=>nin (z▸hc);exact⟨u,by rw[q05 ne];exact e⟩
 ·have:=q7c (x:=some (.val (.dct ks ds))) (c:=a) (o:= .frz o (.dK kvs)) rfl yf i b.rel.slots e1 e3 (Qs.mpr rfl) b.rel.nd ⟨rfl,.ref a,rfl,rep⟩
  rwa [q0r lt] at this
 ·rw[q05 λ z=>by rw[z,b.new a mo] at e;cases e];exact b.ext c u e
 ·exact (q0J hc).elim (b.new c) λ z=>absurd z (by simp)
theorem q9e {H:Hp}{O O':List Addr}:∀{bs:List Addr}{xss:List (List D)},(∀b∈bs,b∉O')->(∀b∈O',b∈O)->q2r p H (fz O H) bs xss->RepL p (fz O' H) (xss.map .lst) (bs.map V.ref)
 |[],xss,_,_,h=>by cases (show xss=[] from h);rfl
 |b::bs,_,n,hs,h=>by obtain⟨xs,r,rfl,⟨vs,h1,h2⟩,h3⟩:=h;exact⟨.ref b,bs.map V.ref,rfl,⟨b,vs,rfl,SqL.of (q25 h1 (n b (by simp))),h2.mono (q52 hs)⟩,q9e (λ c hc=>n c (Qa _ hc)) hs h3⟩
theorem qGc {x:Str}{q pos:Pos}(hi:X.N[i]? = some x) (hv:Vis X.env.scope x) (hd:(x==("__debug__":Str))=false) (hcd:(x==("__classdict__":Str))=false):SS X p G sub (.Return (some (.Name x q)) pos) (.retO i):=by
 intro H0 O0 E hp pins s σ H ρ os I B hs hE;have e0:ex G sub (.retO i) ρ=match ρ[i]? with
   |some (some (.own d))=> .ok (ρ.set i none) (.ret d)
   |some (some (.own2 xss))=> .ok (ρ.set i none) (.ret (.lst (xss.map .lst)))
   |_=> .stuck:=rfl
 rw[e0] at hs hE |-;have lt:i < ρ.length:=by rw[<-B.slen,I.len];exact (Qd.mp hi).1
 have wk:Inv X pins (σ.set i none) H s:=I.weak (by simp) λ j v e=>by
  by_cases c:i=j
  ·subst c;rw[Jl (by rw[B.slen];exact lt)] at e;cases e
  ·rw[Jt c] at e;exact e
 split at hs
 ·rename_i d hρ;obtain⟨y,as,s1,s2,a,rfl,rfl,s5⟩:=B.at hρ;have mo:a∈os.flatten:=QW.mpr ⟨[a],Qm s2,by simp⟩;refine wpAny_Return_some (q2s I hi hv s1 hd hcd λ u r=>?_);cases r;cases d<;>first
   |exact s5.elim
   |skip
  ·obtain⟨vs,h1,h2⟩:=s5;exact⟨_,_,_,_,H,rfl,B.setN (y:=none) lt,wk,.ref a,rfl,a,vs,rfl,SqL.of (q25 h1 (B.out mo)),h2.mono qGD⟩
  ·obtain⟨kvs,h1,h2,h3⟩:=s5;obtain⟨o,I2⟩:=qC1 wk h1;obtain⟨rep,B2⟩:=B.frzD (o:=o) s1 s2 h2 h3;have B3:=B2.setN (i:=i) (y:=none) (by simpa using lt);rw[List.set_set] at B3;exact⟨_,_,_,_,_,rfl,B3,I2,.ref a,rfl,rep.mono qGD⟩
 ·rename_i xss hρ;obtain⟨y,as,s1,s2,a,bs,rfl,rfl,s5,s6⟩:=B.at hρ;have mo:∀b∈a::bs,b∈os.flatten:=λ b hb=>QW.mpr ⟨_,Qm s2,hb⟩;refine wpAny_Return_some (q2s I hi hv s1 hd hcd λ u r=>?_);cases r;exact⟨_,_,_,_,H,rfl,B.setN (y:=none) lt,wk,.ref a,rfl,a,bs.map V.ref,rfl,SqL.of (q25 s5 (B.out (mo a (by simp)))),q9e (λ b hb=>B.out (mo b (Qa _ hb))) (λ b hb=>by rw[q0m];exact Qp _ hb) s6⟩
 ·exact absurd rfl hs
end
end Snd
namespace Snd
open PySem PySem.Spec PyProof.Rows L2 Ev
variable {o:PySem.Expr}{l:L}{ap cp q:Pos}{c:Const}{dc:D}{j:Nat}
section
variable {X:Cx}{p:Pm}{G:Nat->List D->R D}{sub:Nat->Nat->Bool}
theorem qE2 {i:Int}(h:0<=i):((Builtin.Int.intBits i:Nat):Int)=if i=0 then 0 else ((i.toNat.log2+1:Nat):Int):=by
 unfold Builtin.Int.intBits
 by_cases c:i=0
 ·subst c;rfl
 ·have e:i.natAbs=i.toNat:=by lia
  rw[if_neg c,if_neg (by simpa using c),e]
theorem qGd (hbase:attributeBase o "bit_length" X.env (eval o X.env)=eval o X.env) (hline:(ap.endLine==cp.line)=true) (ho:SB X p G sub o l):SE X p G sub (.Call (.Attribute o "bit_length" ap) [] [] cp) (.bi .bits [l]):=by
 intro pins s σ H ρ os I R hs;refine wpAny_Call_method0_late hbase hline (wpAny_mono (ho pins s σ H ρ os I R (q7R hs)) (λ u s1 h=>?_) (λ _ _=>q7Q));obtain⟨d,v,H1,e1,I1,r1,x1,q1⟩:=h;have e0:ev G sub (.bi .bits [l]) ρ=biD sub .bits [d]:=by rw[q1S,q2B (f:=λ d=>biD sub .bits [d]) l ρ _ (λ _=>rfl),e1];rfl
 rw[e0] at hs |-;cases d<;>first
  |exact absurd rfl hs
  |skip
 rename_i i;have hs:(if 0<=i then Ev.R.ok (D.int (if i=0 then 0 else ((i.toNat.log2+1:Nat):Int))) else .stuck) ≠ .stuck:=hs
 by_cases hi:0<=i
 ·have e2:biD sub .bits [.int i] = .ok (.int (if i=0 then 0 else ((i.toNat.log2+1:Nat):Int))):=by show (if 0<=i then _ else _)=_;rw[if_pos hi]
  cases (show v=_ from q1);obtain⟨t,rfl⟩:=r1;refine⟨"int", "int.bit_length",PySem.F.plainAttrs_int,PySem.F.slot_int_bit_length,PySem.F.type_int_bit_length,typeIs_int _ _ _,(λ _ z=>by cases z),?_⟩;refine Calls.callWith_builtin rfl (PySem.evalArgs_none ?_);refine PyProof.Rows.call_int_bit_length ?_;exact⟨_,.int _,H1,e2,I1.tok _,⟨_,by rw[qE2 hi]⟩,x1,rfl⟩
 ·rw[if_neg hi] at hs;exact absurd rfl hs
theorem q5q {h:Heap}{ds:List D}{x:D}(pd:plL ds=true) (px:pl x=true):∀{es:List D}{us:List Value},(∀e∈es,e∈ds)->DvL h es us->us.countP (eqTo h ds x)=(es.filter λ y=>eqb y x).length
 |[],us,_,y=>by cases (show us=[] from y);rfl
 |e::es,us,hs,y=>by obtain⟨u,r,rfl,y1,y2⟩:=y;rw[List.countP_cons,q5q pd px (λ z hz=>hs z (Qa _ hz)) y2,q6M pd px (hs e Qb) y1,Q9];split<;>simp
theorem q9f {h:Heap}{ds:List D}{x:D}(pd:plL ds=true) (px:pl x=true):∀{es:List D}{us:List Value}{n:Nat}{r:D},(∀e∈es,e∈ds)->DvL h es us->idxOf x es n = .ok r->
  ∃(j:Nat) (hj:j<us.length),r = .int ((n+j:Nat):Int)/\eqTo h ds x us[j]=true/\∀m (hm:m<us.length),m<j->eqTo h ds x us[m]=false
 |[],us,n,r,_,y,e=>by cases e
 |d::es,us,n,r,hs,y,e=>by
  obtain⟨u,r',rfl,y1,y2⟩:=y;have eu:=q6M pd px (hs d Qb) y1;unfold idxOf at e;split at e
  ·rename_i c;cases e;exact⟨0,by simp,by simp,by simpa[eu] using c,λ m hm z=>absurd z (Nat.not_lt_zero _)⟩
  ·rename_i c;obtain⟨j,hj,e1,e2,e3⟩:=q9f pd px (λ z hz=>hs z (Qa _ hz)) y2 e;refine⟨j+1,by simpa using hj,by rw[e1];congr 1;lia,by simpa using e2,λ m hm z=>?_⟩;cases m with
   |zero=>simpa[eu] using c
   |succ m=>simpa using e3 m (by simpa using hm) (by lia)
theorem qJQ {id:String}{b:Bi}{name:Str}(hK:p.K=X.K) (hcon:q8I c=some dc) (slot:Slot "list" name id) (hty:typeOf (.builtin id)=pure (.type "method_descriptor"))
  (hbase:attributeBase o name X.env (eval o X.env)=eval o X.env) (hline:(ap.endLine==cp.line)=true) (ho:SB X p G sub o l)
  (hl:∀d r,biD sub b [d,dc] = .ok r->∃xs,d = .lst xs)
  (hm:∀(E:Value->Shared->Prop) (pins:List (Addr×Obj)) (s:Shared) (σ:L2.St) (H:Hp) (os:List (List Addr)) (xs:List D) (v w:V) (u u2:Value) (r:D),Inv X pins σ H s->RelV v u->RelV w u2->RepB p H (fz os.flatten H) (.lst xs) v->Rep p (fz os.flatten H) dc w->biD sub b [.lst xs,dc] = .ok r->
   wpAny (model X.prog X.w) X.A (call (.builtin id) [u,u2]) (EP (X.wish E) pins σ (Fin p os.flatten H r)) E s) :
  SE X p G sub (.Call (.Attribute o name ap) [.Constant c j q] [] cp) (.bi b [l,.con dc]):=by
 intro pins s σ H ρ os I R hs;have e0:ev G sub (.bi b [l,.con dc]) ρ=(ev G sub l ρ).bind λ x=>biD sub b [x,dc]:=by rw[q1S,q0H];cases ev G sub l ρ<;>rfl
 rw[e0] at hs |-;refine wpAny_Call_method_late hbase rfl hline rfl (wpAny_mono (ho pins s σ H ρ os I R (q0C hs)) (λ u s1 h=>?_) (λ _ _ z=>z.bind));obtain⟨d,v,H1,e1,I1,r1,x1,q1⟩:=h;rw[e1,q00] at hs |-;rcases q6U sub b [d,dc] with z|⟨r,z⟩
 ·exact absurd z hs
 obtain⟨xs,rfl⟩:=hl d r z;have q1':=q1;obtain⟨a,vs,rfl,s5,s6⟩:=q1';cases r1;obtain⟨h1,h2⟩:=q7A (T := "list") (x:= .ref a) I1 rfl (.inl ⟨rfl,_,hK▸s5⟩);refine⟨"list",id,PySem.F.plainAttrs_list,slot,hty,h1,h2,?_⟩;refine Calls.callWith_builtin rfl (Calls.evalArgs_plain ?_);show wpAny _ _ (spliced ((false,eval (.Constant c j q) X.env)::[])) _ _ s1;refine Calls.spliced_cons (wpAny_mono (qF0 (X:=X) (p:=p) (G:=G) (sub:=sub) hcon pins s1 σ H1 ρ os I1 (R.ext x1) (by rw[q0M];simp)) (λ u2 s2 ⟨d2,w,H2,e2,I2,r2,x2,q2⟩=>Calls.spliced_nil ?_) (λ e s' ⟨c,z,_⟩=>by rw[q0M] at z;cases z));rw[q0M] at e2;cases e2;rw[z];exact wpAny_mono (hm (Er X p pins σ H (.ok r)) pins s2 σ H2 os xs (.ref a) w (.ref a) u2 r I2 rfl r2 (q1.mono x2 (q1D x2)) q2 z) (λ w' s3 h3=>qAR (x1.trans x2) rfl h3) λ _ _ z=>z
theorem qE3 (hK:p.K=X.K) (hu:X.A.units+64<cLine) (hcon:q8I c=some dc) (hbase:attributeBase o "count" X.env (eval o X.env)=eval o X.env) (hline:(ap.endLine==cp.line)=true) (ho:SB X p G sub o l) :
  SE X p G sub (.Call (.Attribute o "count" ap) [.Constant c j q] [] cp) (.bi .count [l,.con dc]):=by
 refine qJQ hK hcon PySem.F.slot_list_count PySem.F.type_list_count hbase hline ho (λ d r h=>?_) λ E pins s σ H os xs v w u u2 r I rv rw' q1 q2 h=>?_
 ·cases d<;>first
   |(cases h;done)
   |exact⟨_,rfl⟩
 ·have h:(if pl dc&&plL xs then Ev.R.ok (D.int ((xs.filter λ y=>eqb y dc).length)) else .stuck) = .ok r:=h;split at h
  ·rename_i c;simp only[Qc] at c;cases h;have z1:=q3P hK I q0Y q1 rv;have z2:=(q2T hK I).1 dc w u2 (q2.mono q0Y) rw';obtain⟨a,us,rfl,⟨⟨cl,dd,da,sl⟩,e1,e2,n,e3⟩,y⟩:=z1;simp only at e2 e3;subst e2 e3;have hu':X.A.in1.units+8<cLine:=(by rw[Around.in1_units];lia);refine call_meets PySem.F.slot_list_count ⟨_,e1,rfl⟩ PySem.F.entry_list_count (PySem.F.args_list_count_2 _ _) (SeqAt.list_countAt a us.toArray n dd sl u2 (eqTo s.heap xs dc)) ⟨e1,q26 c.2 c.1 y z2 hu',?_⟩;refine⟨.int _,H,(I.wish E).tok _,⟨_,rfl⟩,?_⟩;rw[show us.toArray.toList=us from rfl,q5q c.2 c.1 (λ _ h=>h) y];exact q0I rfl
  ·cases h
theorem qE4 (hK:p.K=X.K) (hu:X.A.units+64<cLine) (hcon:q8I c=some dc) (hbase:attributeBase o "index" X.env (eval o X.env)=eval o X.env) (hline:(ap.endLine==cp.line)=true) (ho:SB X p G sub o l) :
  SE X p G sub (.Call (.Attribute o "index" ap) [.Constant c j q] [] cp) (.bi .index [l,.con dc]):=by
 refine qJQ hK hcon PySem.F.slot_list_index PySem.F.type_list_index hbase hline ho (λ d r h=>?_) λ E pins s σ H os xs v w u u2 r I rv rw' q1 q2 h=>?_
 ·cases d<;>first
   |(cases h;done)
   |exact⟨_,rfl⟩
 ·have h:(if pl dc&&plL xs then idxOf dc xs 0 else .stuck) = .ok r:=h;split at h
  ·rename_i c;simp only[Qc] at c;have z1:=q3P hK I q0Y q1 rv;have z2:=(q2T hK I).1 dc w u2 (q2.mono q0Y) rw';have zl:xs.length<=sizeLine:=by obtain⟨a,vs,rfl,s5,s6⟩:=q1;cases rv;obtain⟨its,r1,_,hz⟩:=I.list (hK▸s5);have:=s6.length;have:=r1.length;lia
   obtain⟨a,us,rfl,⟨⟨cl,dd,da,sl⟩,e1,e2,n,e3⟩,y⟩:=z1;simp only at e2 e3;subst e2 e3;have hu':X.A.in1.units+8<cLine:=(by rw[Around.in1_units];lia);obtain⟨k,hk,er,hit,hno⟩:=q9f c.2 c.1 (λ _ h=>h) y h;subst er;have hl:xs.length=us.length:=y.length;have hsz:sizeLine=2^24:=sizeLine_eq;refine call_meets PySem.F.slot_list_index ⟨_,e1,rfl⟩ PySem.F.entry_list_index (PySem.F.args_list_index_2 _ _) (SeqAt.list_indexAt a us.toArray n dd sl u2 (eqTo s.heap xs dc) k (by simpa using hk) (by lia) (by simpa using hit) (λ m hm z=>by simpa using hno m (by simpa using hm) z)) ⟨e1,q26 c.2 c.1 y z2 hu',?_⟩;refine⟨.int _,H,(I.wish E).tok _,⟨_,rfl⟩,?_⟩;rw[Nat.zero_add];exact q0I rfl
  ·cases h
end
end Snd
namespace Snd
open PySem PySem.Spec PyProof.Rows L2 Ev HT
section
variable {prog:Program}{w:World}{A:Around}{E:Value->Shared->Prop}{s:Shared}
theorem q8Z {t sl:Addr}{items:Array Value}{vl vu:Value}{lo hi:Option Int}{Q:Value->Shared->Prop}(ht:IsTup s.heap t items) (hs:s.heap.IsSliceOf sl vl vu .none) (pl:IsPart vl lo) (pu:IsPart vu hi)
  (hw:sIx items.size 0 lo=0/\sIx items.size items.size hi=items.size) (h:Q (.ref t) s):wpAny (model prog w) A (getItem (.ref t) (.ref sl)) Q E s:=by
 obtain⟨os,hos,hcs,hds⟩:=hs;have hTs:s.TypeIs (.ref sl) "slice":=⟨os,hos,hcs⟩
 unfold getItem
 try with_reducible refine wpAny_holding ?_
 first|refine wpAny_bind (wpAny_pure ?_)|skip
 refine wpAny_bind (wpAny_sequenceKey ht.typeIs (by decide) ?_);refine wpAny_bind (wpAny_callSpecial?_slot (name:=Str.ofString "__getitem__") ht.typeIs PyProof.Rows.slot_tuple_getitem (wpAny_call_entry PyProof.Rows.slot_tuple_getitem ht.typeIs entry_tuple_getitem ?_ (args_tuple_getitem _ _)));show wpAny _ _ (Builtin.Tuple.tupleItemsOf (.ref t) >>= _) _ _ s;refine wpAny_bind (tupleItemsOf_ ht (wpAny_bind (wpAny_typeOf hTs ?_)));rw[if_pos (by decide)];refine wpAny_bind (q2L ⟨os,hos,hcs,hds⟩ pl pu ?_);have hyes:(((sIx items.size 0 lo:Nat):Int)==0&&(1:Int)==1&&(sIx items.size items.size hi-sIx items.size 0 lo)==items.size)=true:=by rw[hw.1,hw.2];simp
 show wpAny _ _ (if (((sIx items.size 0 lo:Nat):Int)==0&&(1:Int)==1&&(sIx items.size items.size hi-sIx items.size 0 lo)==items.size)=true then _ else _) _ _ s;rw[if_pos hyes];unfold Builtin.Tuple.tupleIsExact;refine wpAny_bind (wpAny_bind (wpAny_typeOf ht.typeIs (wpAny_pure ?_)));rw[if_pos (by decide)];exact wpAny_bind (wpAny_rule (wpAny_pure ⟨_,rfl,wpAny_pure h⟩))
end
section
variable {X:Cx}{p:Pm}{G:Nat->List D->R D}{sub:Nat->Nat->Bool}
def SO (X:Cx) (p:Pm) (G:Nat->List D->R D) (sub:Nat->Nat->Bool) (e:Option PySem.Expr) (l:List L):Prop:=(e=none/\l=[])\/∃e' l',e=some e'/\l=[l']/\SE X p G sub e' l'
theorem qC3 {e:Option PySem.Expr}{l:List L}(h:SO X p G sub e l) {pins:List (Addr×Obj)}{s:Shared}{σ:L2.St}{H:Hp}{ρ:Ev.Env}{os:List (List Addr)}(I:Inv X pins σ H s) (R:Rel p ρ σ os H) (hs:evs G sub l ρ ≠ .stuck) :
  wpAny (model X.prog X.w) X.A (evalPart e X.env) (λ u s'=>∃ds H',evs G sub l ρ = .ok ds/\Inv X pins σ H' s'/\Ext H H'/\∀o,optI ds = .ok o->IsPart u o) (Er X p pins σ H (evs G sub l ρ)) s:=by
 rcases h with ⟨rfl,rfl⟩|⟨e',l',rfl,rfl,h⟩
 ·rw[evalPart_none];exact wpAny_pure ⟨[],H,rfl,I,Ext.refl _,λ o e=>by cases e;exact .none⟩
 ·rw[evalPart_some];have e0:evs G sub [l'] ρ=(ev G sub l' ρ).bind λ x=> .ok [x]:=by rw[q0H];cases ev G sub l' ρ<;>rfl
  rw[e0] at hs |-;refine wpAny_mono (h pins s σ H ρ os I R (q0C hs)) (λ u s1 ⟨d,v,H1,e1,I1,r1,x1,q1⟩=>?_) (λ _ _ z=>z.bind);refine⟨[d],H1,by rw[e1];rfl,I1,x1,λ o e=>?_⟩;cases d<;>first
   |(cases e;done)
   |skip
  rename_i i0;obtain rfl:some i0=o:=by have e:Ev.R.ok (some i0) = .ok o:=e;cases e;rfl
  cases (show v=_ from q1);obtain⟨t,rfl⟩:=r1;exact .int _ t
theorem q9g {Hf:Hp}{ds:List D}{vs:List V}(h:RepL p Hf ds vs) (lo hi:Option Int):RepL p Hf (cutL ds lo hi) (cutV vs lo hi):=by have e:=h.length;unfold cutL cutV;rw[e];exact (h.drop _).take _
theorem qC4 {α:Type}(xs:List α) (lo hi:Option Int) (h:HT.sIx xs.length 0 lo=0/\HT.sIx xs.length xs.length hi=xs.length):cutL xs lo hi=xs:=by unfold cutL;have h1:bnd xs.length 0 lo=0:=h.1;have h2:bnd xs.length xs.length hi=xs.length:=h.2;rw[h1,h2];simp
theorem qE5 {a:PySem.Expr}{lo hi:Option PySem.Expr}{la:L}{llo lhi:List L}{p2 pos:Pos}(hK:p.K=X.K) (ha:SB X p G sub a la) (hlo:SO X p G sub lo llo) (hhi:SO X p G sub hi lhi):SE X p G sub (.Subscript a (.Slice lo hi none p2) pos) (.sl 0 la llo lhi):=by
 intro pins s σ H ρ os I R hs;rw[qDU] at hs |-;refine Subscript_ (wpAny_mono (ha pins s σ H ρ os I R (q0C hs)) (λ v s1 ⟨d,x,H1,e1,I1,r1,x1,q1⟩=>?_) (λ _ _ z=>z.bind));rw[e1,q00] at hs |-;have R1:=R.ext x1;refine wpAny_Slice (wpAny_mono (qC3 hlo I1 R1 (q0C hs)) (λ vl s2 ⟨l1,H2,e2,I2,x2,p2'⟩=>?_) (λ _ _ z=>(z.ext x1).bind));rw[e2,q00] at hs |-;have R2:=R1.ext x2;refine wpAny_mono (qC3 hhi I2 R2 (q0C hs)) (λ vu s3 ⟨l2,H3,e3,I3,x3,p3⟩=>?_) (λ _ _ z=>(z.ext (x1.trans x2)).bind);rw[e3,q00] at hs |-;rw[evalPart_none];refine wpAny_pure ?_;have opt:∀l:List D,optI l = .stuck\/∃o,optI l = .ok o:=λ l=>by unfold optI;split<;>first|exact .inr ⟨_,rfl⟩|exact .inl rfl
 rcases opt l1 with z|⟨o1,z1⟩
 ·rw[z] at hs;exact absurd rfl hs
 rcases opt l2 with z|⟨o2,z2⟩
 ·rw[z1,q00,z] at hs;exact absurd rfl hs
 rw[z1,q00,z2,q00] at hs |-;have I4:Inv X pins σ H3 {s3 with heap:=s3.heap.push {cls:= .type "slice",data:= .fields #[vl,vu,.none]}}:=I3.kept (t':=s3.toks) λ b ob q=>Heap.get?_push_of_some _ q;have x13:=(x1.trans x2).trans x3;have q3:=q1.mono (x2.trans x3) (q1D (x2.trans x3));have t3:=(R2.ext x3).th;show wpAny (model X.prog X.w) X.A (subscriptTail a (.Slice lo hi none p2) v (.ref s3.heap.objs.size)) _ _ {s3 with heap:=s3.heap.push {cls:= .type "slice",data:= .fields #[vl,vu,.none]}};have fin:∀(E:Value->Shared->Prop) (rr:Ev.R D) (r:D),rr = .ok r->∀u s',EP (X.wish E) pins σ (Fin p os.flatten H3 r) u s'->Gd X p pins σ os H rr u s':=λ E rr r e u s' h=>qAR x13 e h;cases d<;>first
  |exact absurd rfl hs
  |skip
 ·rename_i xs;have e5:slD 0 o1 o2 (.tup xs) = .ok (.tup (cutL xs o1 o2)):=rfl;rw[e5];obtain⟨t,vs,rfl,s5,z5,s6⟩:=q3;cases r1;have s5':SqT X.K H3 t vs:=hK▸q0Y.sqT s5;have hl:=s6.length
  by_cases hw:HT.sIx vs.length 0 o1=0/\HT.sIx vs.length vs.length o2=vs.length
  ·obtain⟨its,rv,ht,hz⟩:=I4.tuple s5';have hlen:its.toArray.size=vs.length:=(by rw[Qo];exact rv.length.symm);refine tail_any (ops:=[.ref s3.heap.objs.size,.ref t]) ht.typeIs PyProof.Rows.slot_tuple_getitem.lookup (q8Z ht (Heap.IsSliceOf.new ..) (p2' o1 z1) (p3 o2 z2) (by rw[hlen];exact hw) ?_) (by with_unfolding_all rfl);rw[qC4 xs o1 o2 (by rw[hl];exact hw)];exact⟨_,.ref t,H3,rfl,I4,rfl,x13,t,vs,rfl,s5,z5,s6⟩
  ·obtain⟨T,id',hT,ht,hg⟩:=qIC (X:=X.wish (Er X p pins σ H (Ev.R.ok (D.tup (cutL xs o1 o2))))) pins _ σ H3 (.ref t) _ vl vu o1 o2 s3.heap.objs.size (Fin p os.flatten H3 (.tup (cutL xs o1 o2))) (I4.wish _) rfl (Heap.IsSliceOf.new ..) (p2' o1 z1) (p3 o2 z2)
    ⟨t,vs,rfl,s5',hw,λ q n=>q8V t3 (q9g s6 o1 o2) (Qr (q2u vs o1 o2) z5) n⟩
   exact tail_any (ops:=[.ref s3.heap.objs.size,.ref t]) ht hT (wpAny_mono hg (λ u s' h=>fin _ _ _ rfl u s' h) λ _ _ z=>z) (by with_unfolding_all rfl)
 ·rename_i xs;have e5:slD 0 o1 o2 (.lst xs) = .ok (.lst (cutL xs o1 o2)):=rfl;rw[e5];obtain⟨t,vs,rfl,s5,s6⟩:=q3;cases r1;obtain⟨T,id',hT,ht,hg⟩:=qFj (X:=X.wish (Er X p pins σ H (Ev.R.ok (D.lst (cutL xs o1 o2))))) pins _ σ H3 (.ref t) _ vl vu o1 o2 s3.heap.objs.size (Fin p os.flatten H3 (.lst (cutL xs o1 o2))) (I4.wish _) rfl (Heap.IsSliceOf.new ..) (p2' o1 z1) (p3 o2 z2)
   ⟨t,vs,rfl,hK▸s5,λ q n=>q40 t3 (q9g s6 o1 o2) n⟩
  exact tail_any (ops:=[.ref s3.heap.objs.size,.ref t]) ht hT (wpAny_mono hg (λ u s' h=>fin _ _ _ rfl u s' h) λ _ _ z=>z) (by with_unfolding_all rfl)
end
end Snd
namespace Snd
open PySem PySem.Spec PySem.W PyProof.Rows L2 Ev
variable {e:PySem.Expr}{env:PySem.Env}{x:Str}{i:Nat}
theorem q1x {x:Str}:∀{N:List Str}{i:Nat},ixOf x N=some i->N[i]? = some x
 |[],i,h=>by cases h
 |y::N,i,h=>by
  unfold ixOf at h;split at h
  ·rename_i c;cases h;subst c;rfl
  ·cases e:ixOf x N with
   |none=>rw[e] at h;cases h
   |some j=>rw[e] at h;cases h;simpa using q1x e
def okE:PySem.Expr->Bool
 | .Starred _ _=>false
 | .Set _ _ _=>false
 | .Slice _ _ _ _=>false
 | .Call (.Name _ _) [] [] _=>false
 |_=>true
theorem q14 {es:List PySem.Expr}(h:okE e=true):starEach (e::es) env=(false,eval e env)::starEach es env:=by cases e<;>first|rfl|(cases h;done)
theorem qJR (h:okE e=true):q8G e:=by intro o i;cases e<;>first|rfl|(cases h;done)
theorem qC5 {op:CmpOp}(h:okE e=true):behindInMarks op e=false:=by cases e<;>first|rfl|(cases h;done)
theorem q8a (h:okE e=true):∀x,foldedSetIterable e env x=pure x:=by intro x;cases e<;>first|rfl|(cases h;done)
theorem q8b {name:Str}(h:okE e=true):attributeBase e name env (eval e env)=eval e env:=by
 unfold attributeBase;split
 ·cases h
 ·rfl
theorem q5C:∀{n:Nat}{C:Ct}{e:PySem.Expr}{l:L},cE n C e=some l->okE e=true:=by
 intro n;cases n with
 |zero=>intro C e l h;cases h
 |succ n =>
  intro C e l h;cases e with
  |Call g args kws pos =>
   cases g with
   |Name f q =>
    cases args with
    |cons a r=>rfl
    |nil =>
     cases kws with
     |cons a r=>rfl
     |nil =>
      exfalso;unfold cE at h;dsimp only at h;split at h
      ·split at h
       ·split at h
        ·rename_i z;exact z.2 rfl
        ·cases h
       ·cases n with
        |zero=>cases h
        |succ n=>cases h
      ·cases h
   |_=>rfl
  |Starred _ _=>cases h
  |Set _ _ _=>cases h
  |Slice _ _ _ _=>cases h
  |_=>rfl
theorem q7d {n:Nat}{C:Ct}{l:L}(h:cB n C e=some l):okE e=true:=by
 cases n with
 |zero=>simp[cB] at h
 |succ n =>
  unfold cB at h;split at h
  ·rfl
  ·exact q5C h
def q09:List Str:=["len", "sorted", "tuple", "list", "sum", "all", "int", "abs", "range", "isinstance", "set", "bool", "ValueError", "min", "max", "any"]
def KOk (a b:Option NameKind):Prop:=a=b\/(a=some .free/\b=some .cell)
def qC6:List Value:=[.type "ValueError",.type "Exception",.type "BaseException",.type "object"]
structure CtOk (k:Nat) (X:Cx) (C:Ct) (p:Pm) (G:Nat->List D->R D) (sub:Nat->Nat->Bool):Prop where
 N:X.N=C.N
 nd:C.N.Nodup
 kinds:∀x,KOk (C.kinds.lookup x) (X.env.scope.names.lookup x)
 calm:X.calm=true
 K:p.K=X.K
 room:Room (k+2) X.A
 blt:∀x∈q09,X.mg x=none
 funs:∀(j:Nat) (f:Str),C.funs[j]? = some f->∃fa fd ps,FnOk X.prog X.w X.K X.mg X.base (CXs X.prog X.w) k fa fd ps (spG p G j ps.length)/\X.mg f=some (.ref fa)/\PySem.W.keepIn X.K (.ref fa)=true/\Binds X.K fd ps []/\∀ds,G j ds ≠ .stuck->ds.length=ps.length
 consts:∀(x:Str) (d:D),C.consts.lookup x=some d->∃a t,d = .int a/\X.mg x=some (.int a t)
 excs:∀(c:Nat) (x:Str),C.excs[c]? = some x->∃Cc,p.cls[c]? = some Cc/\OwnCls x Cc qC6 "ValueError.__new__" X.mg X.base
 exok:∀(c:Nat) (Cc:Addr),p.cls[c]? = some Cc->ExOk X.K Cc/\kitOne X.K (.ref Cc) (.type "ValueError")=some true
 exm:∀(e c:Nat) (Ce Cc:Addr),p.cls[e]? = some Ce->p.cls[c]? = some Cc->exmOne X.K (.ref Ce) (.ref Cc)=some (sub e c)/\kitOne X.K (.ref Ce) (.ref Cc)=some (sub e c)
def SSet:Prop:=∀(X:Cx) (p:Pm) (G:Nat->List D->R D) (sub:Nat->Nat->Bool) (a:PySem.Expr) (la:L) (q q2 q3 pos:Pos),p.K=X.K->X.calm=true->X.A.units+64<cLine->X.mg "sorted" = none->X.mg "set" = none->SB X p G sub a la->okE a=true->Gl X "sorted"->Gl X "set"->
 SE X p G sub (.Call (.Name "sorted" q) [.Call (.Name "set" q2) [a] [] q3] [] pos) (.bi .sortedSet [la])
section
variable {k:Nat}{X:Cx}{C:Ct}{p:Pm}{G:Nat->List D->R D}{sub:Nat->Nat->Bool}
theorem q1E (h:q2Q x=true):(x==("__debug__":Str))=false/\(x==("__classdict__":Str))=false:=by unfold q2Q at h;simp only[Qc,Jh] at h;exact h
theorem CtOk.hu (T:CtOk k X C p G sub):X.A.units+64<cLine:=T.room.units
theorem CtOk.vis (T:CtOk k X C p G sub) (h:C.vis x=true):Vis X.env.scope x/\(x==("__debug__":Str))=false/\(x==("__classdict__":Str))=false:=by
 unfold Ct.vis at h;rw[Qc] at h;refine⟨?_,q1E h.1⟩;have h2:=h.2;have kk:=T.kinds x;unfold Vis;split at h2
 ·rename_i e;rw[e] at kk;rcases kk with z|⟨z,_⟩
  ·exact .inl z.symm
  ·cases z
 ·rename_i e;rw[e] at kk;rcases kk with z|⟨z,_⟩
  ·exact .inr (.inl z.symm)
  ·cases z
 ·rename_i e;rw[e] at kk;rcases kk with z|⟨_,z⟩
  ·exact .inr (.inr z.symm)
  ·exact .inr (.inl z)
 ·cases h2
theorem CtOk.glob (T:CtOk k X C p G sub) (h:C.glob x=true):Gl X x/\(x==("__debug__":Str))=false:=by
 unfold Ct.glob at h;rw[Qc] at h;refine⟨?_,(q1E h.1).1⟩;have e:=of_decide_eq_true h.2;have kk:=T.kinds x;rw[e] at kk;rcases kk with z|⟨z,_⟩
 ·exact z.symm
 ·cases z
theorem CtOk.loc (T:CtOk k X C p G sub) (h:C.loc x=some i):Loc X.env.scope x/\X.N[i]? = some x:=by
 unfold Ct.loc at h;have kk:=T.kinds x;split at h
 case isFalse=>cases h
 split at h
 ·rename_i e;rw[e] at kk;rcases kk with z|⟨z,_⟩
  ·exact⟨.inl z.symm,by rw[T.N];exact q1x h⟩
  ·cases z
 ·rename_i e;rw[e] at kk;rcases kk with z|⟨z,_⟩
  ·exact⟨.inr z.symm,by rw[T.N];exact q1x h⟩
  ·cases z
 ·cases h
theorem qE6 (h:C.loc x=some i):(x==("__debug__":Str))=false/\(x==("__classdict__":Str))=false:=by
 unfold Ct.loc at h;split at h
 ·rename_i e;exact q1E e
 ·cases h
theorem CtOk.at (T:CtOk k X C p G sub) (h:ixOf x C.N=some i):X.N[i]? = some x:=by rw[T.N];exact q1x h
theorem q48 {α:Type}{f:α->Bool}{l:List α}(h:l.all f=true):∀x∈l,f x=true:=Qj.mp h
theorem CtOk.less (T:CtOk k X C p G sub) (x:Str):CtOk k X (C.less x) p G sub:=⟨T.N,T.nd,T.kinds,T.calm,T.K,T.room,T.blt,T.funs,T.consts,T.excs,T.exok,T.exm⟩
theorem CtOk.inner (T:CtOk k X C p G sub) {ts:List Str}{sc:Scope}(h:C.scOk ts sc=true):ScOk X sc ts/\(inN ts X.N).Nodup/\(∀x∈ts,sc.names.lookup x=some .local\/sc.names.lookup x=some .cell)/\
  ∀s2 H2 cl C' fp,CtOk k (cxC X s2 H2 sc cl C' (inN ts X.N) fp) (C.inner ts sc) p G sub:=by
 unfold Ct.scOk at h;simp only[Qc,decide_eq_true_eq] at h;obtain⟨⟨⟨⟨h1,h2⟩,h3⟩,h4⟩,h5⟩:=h;have eN:(C.inner ts sc).N=inN ts X.N:=by unfold Ct.inner inN;rw[T.N]
 have h4':=q48 h4;have h5':=q48 h5;have h3':∀x∈ts,sc.names.lookup x=some .local\/sc.names.lookup x=some .cell:=λ x hx=>by have:=q48 h3 x hx;simp only[Ji,decide_eq_true_eq] at this;exact this
 refine⟨⟨h1,λ y hy hc=>?_,λ y hy hf=>?_,λ y hy hl=>?_,λ y hy hm=>?_,λ y hy hm=>?_⟩,by rw[<-eN];exact h2,h3',λ s2 H2 cl C' fp=>⟨eN.symm,h2,λ x=>?_,T.calm,T.K,T.room,T.blt,T.funs,T.consts,T.excs,T.exok,T.exm⟩⟩
 ·have:=h4' y hy;simp only[Qc,Ji,decide_eq_true_eq] at this;exact this.1.1.resolve_left λ z=>z hc
 ·have:=h4' y hy;simp only[Qc,Ji,decide_eq_true_eq] at this;have kk:=T.kinds y.1;rcases this.1.2 with (z|z)|z
  ·exact absurd hf z
  ·rw[z] at kk;rcases kk with w|⟨w,_⟩
   ·exact .inl w.symm
   ·cases w
  ·rw[z] at kk;rcases kk with w|⟨_,w⟩
   ·exact .inr w.symm
   ·exact .inl w
 ·have:=h4' y hy;simp only[Qc,Ji,decide_eq_true_eq] at this;rcases this.2 with z|z
  ·exact absurd hl z
  ·exact z
 ·have:=h5' y (by rw[<-T.N];exact hy);rw[if_pos hm] at this;exact of_decide_eq_true this
 ·have:=h5' y (by rw[<-T.N];exact hy);rw[if_neg hm] at this;exact of_decide_eq_true this
 ·show KOk (sc.names.lookup x) ((relabel sc X.env).names.lookup x);rw[q0N];cases e:sc.names.lookup x with
  |none=>exact .inl rfl
  |some kd =>
   rw[Option.map_some];split
   ·rename_i c;simp only[Qc,beq_iff_eq] at c;exact .inr ⟨by rw[c.1.1],rfl⟩
   ·exact .inl rfl
end
end Snd
namespace Snd
open PySem PySem.Spec PySem.W PyProof.Rows L2 Ev
section
variable {X:Cx}{p:Pm}{G:Nat->List D->R D}{sub:Nat->Nat->Bool}
theorem q9h (f:Nat->V):∀(its:List Value) (k:Nat),(∀j v,its[j]? = some v->RelV (f (k+j)) v)->Vals ((Qk its.length).map λ j=>f (k+j)) its
 |[],k,_=> .nil
 |v::r,k,h=>by
  have ih:=q9h f r (k+1) λ j u e=>by
   have:=h (j+1) u (by simpa using e)
   rwa [show k+(j+1)=k+1+j by lia] at this
  have e:(Qk (v::r).length).map (λ j=>f (k+j))=f (k+0)::(Qk r.length).map (λ j=>f (k+1+j)):=by rw[Qu,List.range_succ_eq_map,Qv,Jg];congr 1;refine List.map_congr_left λ a _=>?_;simp only[Function.comp,Nat.succ_eq_add_one];congr 1;lia
  rw[e];exact .cons (h 0 v rfl) ih
theorem qGe {a:PySem.Expr}{l:L}{q q2 q3 pos:Pos}(hc:X.calm=true) (hgl:Gl X "list") (hml:X.mg "list" = none) (hgr:Gl X "range") (hmr:X.mg "range" = none) (hdl:(("list":Str)==("__debug__":Str))=false) (ha:SE X p G sub a l)
  (hst:starEach [a] X.env=[(false,eval a X.env)]):SE X p G sub (.Call (.Name "list" q) [.Call (.Name "range" q2) [a] [] q3] [] pos) (.lrng [l]):=by
 intro pins s σ H ρ os I R hs;have e0:ev G sub (.lrng [l]) ρ=(ev G sub l ρ).bind λ d=>(rngD [d]).bind λ is=>if is.length<=big then .ok (.lst is) else .stuck:=by rw[qBF];exact q2B (α:=D) (f:=λ d=>(rngD [d]).bind λ is=>if is.length<=big then Ev.R.ok (D.lst is) else .stuck) l ρ _ λ _=>rfl
 rw[e0] at hs |-;refine wpAny_Call_Name_kw (q1r I hgl hml PyProof.Rows.boot_list ?_ (by decide) hdl);refine PyProof.Rows.callWith_type1 ?_ rfl rfl;show wpAny _ _ (spliced ((false,eval (.Call (.Name "range" q2) [a] [] q3) X.env)::backTo pos [])) _ _ s;refine Calls.spliced_cons ?_;refine Call_ (q1r I hgr hmr boot_range (PyProof.Rows.callWith_type1 ?_ hst rfl));rw[hst];show wpAny _ _ (spliced ((false,eval a X.env)::backTo q3 [])) _ _ s;refine Calls.spliced_cons (wpAny_mono (ha pins s σ H ρ os I R (q0C hs)) (λ u s1 h=>Calls.spliced_nil ?_) (λ e s' z=>z.bind));obtain⟨d,v,H1,e1,I1,r1,x1,q1⟩:=h;rw[e1,q00] at hs |-;cases d<;>first
  |exact absurd rfl hs
  |skip
 rename_i j;have er:rngD [.int j]=if -(2^62)<=j/\j<2^62 then .ok ((Qk j.toNat).map λ (k:Nat)=>D.int k) else .stuck:=rfl
 by_cases hj:-(2^62)<=j/\j<2^62
 ·rw[er,if_pos hj,q00] at hs |-
  by_cases hb:((Qk j.toNat).map λ (k:Nat)=>D.int k).length<=big
  ·rw[if_pos hb];rw[Qe,QK] at hb;cases (show v=_ from q1);obtain⟨t,rfl⟩:=r1;refine call_range_1 (Calls.spliced_nil ?_);have I2:Inv X pins σ H1 {s1 with heap:=s1.heap.push {cls:= .type "range",data:= .fields #[.int 0 s1.toks,.int j t,.int 1 (s1.toks+1)]},toks:=s1.toks+1+1}:=I1.kept λ b o e=>Heap.get?_push_of_some _ e;have hsz:Builtin.Range.rangeSize 0 j 1=(j.toNat:Int):=(by rw[rangeSize_one];split<;>lia);refine call_list_range (I.ok.hd hc) (IsRange.new ..) (small_one (by lia) (by lia) hj.1 hj.2) hsz (by rw[q0P] at hb;lia) λ h' tk acc' c' hk e items=>?_;have hlen:acc'.toList.length=j.toNat:=(by rw[Array.length_toList];exact items.1);have rv:Vals ((Qk acc'.toList.length).map λ k=>V.int (0+((0+k:Nat):Int))) acc'.toList:=q9h (λ k=>V.int (0+(k:Int))) acc'.toList 0 λ i u eu=>by obtain⟨t',rfl⟩:=items.2 i u (by rw[<-Array.getElem?_toList];exact eu);refine⟨t',?_⟩;congr 1
   rw[hlen] at rv;have rv':Vals ((Qk j.toNat).map λ (k:Nat)=>V.int (0+(k:Int))) acc'.toList:=(by simpa using rv);have fr:=I2.hok.fresh (Qi _);refine⟨_,.ref _,upd H1 _ (.lst ((Qk j.toNat).map λ (k:Nat)=>V.int (0+(k:Int)))),rfl,I2.laid (t':=tk) hk (Qi _) (show q1P X.prog X.w _ h' _ (.lst _) from⟨by rw[Qe,QK];exact Qr hb q0d,acc'.toList,c',rv',e⟩),rfl,x1.trans (Ext.upd fr),?_⟩;rw[rng0];exact (q40 (R.ext x1).th (q6R 0 _) fr).2
  ·rw[if_neg hb] at hs;exact absurd rfl hs
 ·rw[er,if_neg hj] at hs;exact absurd rfl hs
end
end Snd
namespace Snd
open PySem PySem.Spec PySem.W PyProof.Rows L2 Ev
open PySem.AutoSeq1 (wpAny_loadPart')
variable {i:Nat}
theorem qJS (l:Addr) (items:Array Value) (n:Nat) (b:Addr) (items2:Array Value) (n2:Nat) (sl:Array (Option Value)) (hc0:¬(!items.isEmpty&&Builtin.List.listTooLong (items.size+items2.size))=true) (hc1:items.size<=sizeLine) (hs2:items.size+items2.size<=sizeLine+1) :
  Meets (Builtin.«list.extend» ⟨[.ref l,.ref b],[]⟩) (λ _ R s=>s.heap.get? l=some {cls:= .type "list",dict:=none,data:= .seq items n,slots:=#[]}/\s.heap.get? b=some {cls:= .type "list",dict:=none,data:= .seq items2 n2,slots:=sl}/\R (.ok (.ret Value.none)) {s with heap:=s.heap.update l (Obj.mapSeq λ x=>x++items2),toks:=s.toks}) :=
 .of_wp λ prog w A R s h=>by
  obtain⟨hp,g,d,tk,os⟩:=s;obtain⟨hl,hb,h⟩:=h;have f1:=AutoSeq1.idx_int;have f2:=AutoSeq1.sub_tuple_tuple;have f3:=AutoSeq1.sub_list_list;have f4:=AutoSeq1.sub_tuple_list;have f5:=AutoSeq1.sub_list_tuple;have hz':(items++items2).size<=sizeLine+1:=by rw[Array.size_append];exact hs2
  wp_walk using (wpAny_updateSeq hl rfl (hz:=hc1) (_hz':=hz')),wpAny_loadPart' hl,wpAny_loadPart' hb
  exact⟨_,rfl,h⟩
section
variable {X:Cx}{p:Pm}{G:Nat->List D->R D}{sub:Nat->Nat->Bool}
theorem qE7 {E:Value->Shared->Prop}{pins:List (Addr×Obj)}{s:Shared}{σ:L2.St}{H:Hp}{l b:Addr}{xs zs:List V}(I:Inv X pins σ H s) (hH:H l=some (.lst xs)) (hB:SqL X.K H b zs) (hz:xs.length+zs.length<=sizeLine) :
  wpAny (model X.prog X.w) X.A (call (.builtin "list.extend") [.ref l,.ref b]) (λ _ s'=>Inv X pins σ (upd H l (.lst (xs++zs))) s') E s:=by
 obtain⟨z,its,n,r,hl,e⟩:=I.lstM hH;obtain⟨its2,r2,⟨⟨c2,d2,da2,sl2⟩,n2,e2,hc2,hd2,hda2⟩,z2⟩:=I.list hB;simp only at hc2 hd2 hda2;subst hc2 hd2 hda2;have hl2:=r2.length;have hsz:its.toArray.size+its2.toArray.size<=sizeLine:=by rw[Qo,Qo];lia
 have hlong:¬(!its.toArray.isEmpty&&Builtin.List.listTooLong (its.toArray.size+its2.toArray.size))=true:=by rw[qDN hsz,Bool.and_false];exact Bool.false_ne_true
 refine call_meets PySem.F.slot_list_extend ⟨_,e,rfl⟩ PySem.F.entry_list_extend (PySem.F.args_list_extend_2 _ _) (qJS l its.toArray n b its2.toArray n2 sl2 hlong (by rw[Qo];lia) (by lia)) ⟨e,e2,?_⟩;refine I.lset (its':=its++its2) hH e (by simp) (r.append r2) ?_;rw[QA];lia
theorem q5r:∀(xs:List Int) (b x:Int),q4d (xs++[x]) b=if q4d xs b<x then x else q4d xs b
 |[],_,_=>rfl
 |y::xs,b,x=>q5r xs (if b<y then y else b) x
theorem q9i (n:Int) (ns:List Int):∀k,k<=ns.length->(n::ns).getD (argBest (λ i j=>decide ((n::ns).getD i 0 > (n::ns).getD j 0)) k) 0=q4d (ns.take k) n
 |0,_=>by simp[argBest,q4d]
 |k+1,h=>by
  have ih:=q9i n ns k (by lia);have hk:ns.take (k+1)=ns.take k++[ns[k]]:=by rw[List.take_succ,Ql (show k<ns.length by lia)];rfl
  have e:(n::ns).getD (k+1) 0=ns[k]:=by simp[QY,show k<ns.length by lia]
  rw[hk,q5r,<-ih,argBest]
  by_cases c:(n::ns).getD (argBest (λ i j=>decide ((n::ns).getD i 0 > (n::ns).getD j 0)) k) 0<ns[k]
  ·rw[if_pos c,if_pos (decide_eq_true (by rw[e];exact c)),e]
  ·rw[if_neg c,if_neg (by rw[decide_eq_true_eq,e];exact c)]
theorem qGf (hK:p.K=X.K) (hc:X.calm=true):BS X p sub .maxT (.builtin "max"):=by
 intro E pins s σ H os d r v u I t rv q h;cases d<;>first
  |(cases h;done)
  |skip
 rename_i xs;replace h:maxD xs = .ok r:=h;unfold maxD at h;split at h
 ·rename_i n ns hb;cases h;obtain⟨a,vs,rfl,s1,_,r1⟩:=q;have e0:=ints_rep hb r1;subst e0;cases rv;obtain⟨its,rv,pt,hz⟩:=I.tuple (hK▸q0Y.sqT s1:SqT X.K H a _);have hl:its.length=(n::ns).length:=by rw[<-rv.length,Qe]
  have hlt:a<s.heap.objs.size:=by obtain⟨_,e,_⟩:=pt;exact Heap.lt_size e
  have at':∀(i:Nat) (v:Value),its.toArray[i]? = some v->∃t,v=Value.int ((n::ns).getD i 0) t:=λ i v hP=>by
   have hP':its[i]? = some v:=(by simpa using hP);obtain⟨w,hw,rw'⟩:=q6V rv hP';rw[Qt] at hw;cases eb:(n::ns)[i]? with
   |none=>rw[eb] at hw;cases hw
   |some b =>
    rw[eb] at hw;cases hw;obtain⟨t,rfl⟩:=rw';have e2:(n::ns).getD i 0=b:=(by simp[QY,eb]);exact⟨t,by rw[e2]⟩
  refine call_max_walk (wpAny_pyIter_tuple pt ⟨_,_,_,_,_,_,_,rfl,Walks.tuple (A:=X.A.in1) (I.ok.hd hc) s.heap.objs.size a (Qy hlt) its.toArray,⟨⟨_,Heap.get?_push_size _ rfl,rfl,rfl⟩,pt.push _⟩,λ b hb=>?_,?_,CmpOf.ints_gt (λ i=>(n::ns).getD i 0) at',λ v h' tk hP hk=>?_⟩)
  ·show b<(s.heap.push _).objs.size;rw[Heap.size_push];rcases Qf.mp hb with rfl|hb
   ·exact Jf _
   ·rw[Qs.mp hb];exact Ju hlt
  ·rw[Qo,hl];exact Nat.succ_pos _
  ·obtain⟨t,rfl⟩:=at' _ _ hP;rw[Qo,hl,Qu,Nat.add_sub_cancel,q9i n ns ns.length (Qi _),List.take_length];exact⟨.int _,H,(I.wish E).kept (t':=tk) (h':=h') λ b o e=>hk b o (by simp;exact Qy (Heap.lt_size e)) (Heap.get?_push_of_some _ e),⟨_,rfl⟩,q0I rfl⟩
 ·cases h
theorem qJT {x:Str}{a:PySem.Expr}{l:L}{q ap cp pos:Pos}(hK:p.K=X.K) (hi:X.N[i]? = some x) (hv:Vis X.env.scope x) (hd:(x==("__debug__":Str))=false) (hcd:(x==("__classdict__":Str))=false) (ha:SE X p G sub a l)
  (hst:starEach [a] X.env=[(false,eval a X.env)]) (hline:(ap.endLine==cp.line)=true):SS X p G sub (.Expr (.Call (.Attribute (.Name x q) "extend" ap) [a] [] cp) pos) (.ext i l):=by
 intro H0 O0 E hp pins s σ H ρ os I B hs hE;rw[qEu] at hs hE |-;split at hs
 ·rename_i xs hρ;simp only[hρ] at hE |-;obtain⟨y,as,s1,s2,a',rfl,rfl,vs,s5,s6⟩:=B.at hρ;refine wpAny_Expr_any (wpAny_Call_method_late rfl (by rw[hst];rfl) hline rfl (q2s I hi hv s1 hd hcd λ u r=>?_)) I.quiet rfl;cases r;obtain⟨h1,h2⟩:=q7A (T := "list") (x:= .ref a') I rfl (.inl ⟨rfl,_,SqL.of s5⟩);refine⟨"list", "list.extend",PySem.F.plainAttrs_list,PySem.F.slot_list_extend,PySem.F.type_list_extend,h1,h2,?_⟩;rw[hst];refine Calls.callWith_builtin rfl (Calls.evalArgs_plain ?_);show wpAny _ _ (spliced ((false,eval a X.env)::[])) _ _ s;refine Calls.spliced_cons (wpAny_mono (ha pins s σ H ρ _ I B.rel (q2U hs)) (λ v s3 ⟨d,x',H1,e1,I1,r1,x1,q1⟩=>Calls.spliced_nil ?_) (λ e s' z=>hE e s' (q2z B z)));rw[e1,q07] at hs hE |-;cases d<;>first
   |exact absurd rfl hs
   |skip
  rename_i ys;dsimp only at hs hE |-;have z:xs.length+ys.length<=big:=by
   by_cases z:xs.length+ys.length<=big
   ·exact z
   ·rw[if_neg z] at hs;exact absurd rfl hs
  rw[if_pos z];obtain⟨b,us,rfl,sq,q3⟩:=q1;cases r1;have l1:=s6.length;have l2:=q3.length;refine wpAny_mono (qE7 I1 (x1 _ _ s5) (hK▸q0Y.sqL sq) (Qr (by lia) q0d)) (λ w s4 I2=>?_) (λ _ _ z=>z);exact⟨_,.nx,σ,os,_,rfl,(B.mono x1).write s1 s2 (by simp) ⟨a',rfl,rfl,_,q0B,(s6.mono (q1D x1)).append q3⟩,I2,trivial⟩
 ·exact absurd rfl hs
theorem qGg {x:Str}{pos pos' pos2:Pos}(hN:X.N.Nodup) (hi:X.N[i]? = some x) (hx:Loc X.env.scope x) (hf:X.fn x=true\/X.env.scope.names.lookup x=some .local) :
  SS X p G sub (.Assign [.Name x pos'] (.Dict [] [] pos2) pos) (.setO i (.con (.dct [] []))):=by
 intro H0 O0 E hp pins s σ H ρ os I B hs hE;have hn:H s.heap.objs.size=none:=I.hok.fresh (Qi _);have lt:i < ρ.length:=by rw[<-B.slen,I.len];exact (Qd.mp hi).1
 have I1:=I.laid (a:=s.heap.objs.size) (o:= .dK []) (h':=s.heap.push {cls:= .type "dict",data:= .dict #[]}) (t':=s.toks) (λ _ _ q=>Heap.get?_push_of_some _ q) (Qi _) (q99 s.heap I.big);have x0:Ext H (upd H s.heap.objs.size (.dK [])):=Ext.upd hn;refine wpAny_Assign_Name ?_ rfl;rw[eval_Dict_empty];refine wpAny_bind (wpAny_standAt (wpAny_newObj_type ?_));refine q0q (v:= .ref s.heap.objs.size) I1 hN hi hx rfl (λ s3 I4=>⟨_,.nx,_,_,_,rfl,B.setO lt x0 (as:=[s.heap.objs.size]) (by simp) (λ a ha=>?_) (λ a ha=>?_) ⟨_,rfl,rfl,[],q0B,rfl,rfl⟩,I4,trivial⟩) hf
 ·rw[Qs.mp ha];exact hn
 ·rw[Qs.mp ha];exact⟨_,q0B⟩
theorem qLC {st:PySem.Stmt}{l:Ev.S}(h:SS X p G sub st l):SS X p G sub st (.fz i l):=by
 intro H0 O0 E hp pins s σ H ρ os I B hs hE;rw[qIT] at hs hE |-;split at hs
 ·rename_i ks vs hρ;simp only[hρ] at hE |-;obtain⟨y,as,s1,s2,a,rfl,rfl,kvs,h1,h2,h3⟩:=B.at hρ;obtain⟨o,I2⟩:=qC1 I h1;obtain⟨rep,B2⟩:=B.frzD (o:=o) s1 s2 h2 h3;exact h H0 O0 E hp pins s σ _ _ _ I2 B2 hs hE
 ·exact absurd rfl hs
end
end Snd
set_option maxHeartbeats 400000
namespace Snd
open PySem PySem.Spec PySem.W PyProof.Rows L2 Ev
variable {C:Ct}{n:Nat}{e a:PySem.Expr}{es:List PySem.Expr}{ls:List L}{X:Cx}{q pos:Pos}{l:L}
section
variable {k:Nat}{p:Pm}{G:Nat->List D->R D}{sub:Nat->Nat->Bool}
structure SoE (k:Nat) (p:Pm) (G:Nat->List D->R D) (sub:Nat->Nat->Bool) (n:Nat):Prop where
 E:∀(X:Cx) (C:Ct),CtOk k X C p G sub->∀e l,cE n C e=some l->SE X p G sub e l
 B:∀(X:Cx) (C:Ct),CtOk k X C p G sub->∀e l,cB n C e=some l->SB X p G sub e l
 Es:∀(X:Cx) (C:Ct),CtOk k X C p G sub->∀es ls,cEs n C es=some ls->SA X p G sub es ls
 Bo:∀(X:Cx) (C:Ct),CtOk k X C p G sub->∀op xs l,cBo n C op xs=some l->∀pos,SE X p G sub (.BoolOp op xs pos) l
 T:∀(X:Cx) (C:Ct),CtOk k X C p G sub->∀e t,cT n C e=some t->ST X p G sub e t
 To:∀(X:Cx) (C:Ct),CtOk k X C p G sub->∀op xs t,cTo n C op xs=some t->∀pos,ST X p G sub (.BoolOp op xs pos) t
 I:∀(X:Cx) (C:Ct),CtOk k X C p G sub->∀e i,cI n C e=some i->∀tg,(∃fr,SI X p G sub fr tg e i)/\(C.q8K e=false->SI X p G sub true tg e i)
 Call:∀(X:Cx) (C:Ct),CtOk k X C p G sub->∀f args l,qDQ n C f args=some l->C.glob f=true->ixOf f C.funs=none->∀q pos,SE X p G sub (.Call (.Name f q) args [] pos) l
theorem qLD:("len":Str)∈q09:=by unfold q09;simp
theorem qJU:("sorted":Str)∈q09:=by unfold q09;simp
theorem qJV:("tuple":Str)∈q09:=by unfold q09;simp
theorem qGh:("list":Str)∈q09:=by unfold q09;simp
theorem qLE:("all":Str)∈q09:=by unfold q09;simp
theorem qLF:("int":Str)∈q09:=by unfold q09;simp
theorem qGi:("range":Str)∈q09:=by unfold q09;simp
theorem qLG:("isinstance":Str)∈q09:=by unfold q09;simp
theorem qJW:("set":Str)∈q09:=by unfold q09;simp
theorem qJX:("bool":Str)∈q09:=by unfold q09;simp
theorem qJY:("max":Str)∈q09:=by unfold q09;simp
theorem qJZ:("any":Str)∈q09:=by unfold q09;simp
theorem qJa:("ValueError":Str)∈q09:=by unfold q09;simp
theorem q3V (h:cEs (n+1) C (e::es)=some ls):∃a l,cE n C e=some a/\cEs n C es=some l/\ls=a::l:=by obtain⟨a,g1,h⟩:=oB h;obtain⟨l,g2,h⟩:=oM h;exact⟨a,l,g1,g2,h.symm⟩
theorem q9j {ls:List Ev.T}(h:cTs (n+1) C (e::es)=some ls):∃a l,cT n C e=some a/\cTs n C es=some l/\ls=a::l:=by obtain⟨a,g1,h⟩:=oB h;obtain⟨l,g2,h⟩:=oM h;exact⟨a,l,g1,g2,h.symm⟩
theorem q9k {args:List PySem.Expr}(h:qIM C e=some args):∃q pos,e = .Call (.Name (Str.ofString "range") q) args [] pos/\C.glob (Str.ofString "range")=true:=by
 obtain⟨⟨f,as⟩,g1,h⟩:=oB h;dsimp only at h;split at h
 ·rename_i hf;obtain⟨rfl,hg,_⟩:=hf;cases h;obtain⟨q,pos,rfl⟩:=q9A g1;exact⟨_,_,rfl,hg⟩
 ·cases h
theorem qC7 {C:Ct}:∀{n:Nat}{es:List PySem.Expr}{ls:List L},cEs n C es=some ls->∀x∈es,okE x=true
 |0,es,ls,h=>by simp[cEs] at h
 |n+1,[],ls,h=>λ x hx=>absurd hx (by simp)
 |n+1,e::es,ls,h=>by
  obtain⟨a,l,g1,g2,rfl⟩:=q3V h;intro x hx;rcases Qf.mp hx with rfl|hx
  ·exact q5C g1
  ·exact qC7 g2 x hx
theorem q7e {env:PySem.Env}{pos:Pos}:∀{es:List PySem.Expr},(∀x∈es,okE x=true)->(backTo pos (starEach es env)).any (·.1)=false
 |[],_=>rfl
 |e::es,h=>by rw[q14 (h e (by simp))];show (false || (backTo pos (starEach es env)).any (·.1))=false;rw[q7e λ x hx=>h x (Qa _ hx)];rfl
theorem qE8 {kk j:Nat}{f:Addr}{fd:FuncData}{ps:List Str}{x:Str}(F:FnOk X.prog X.w X.K X.mg X.base (CXs X.prog X.w) kk f fd ps (spG p G j ps.length)) (hr:Room kk X.A)
  (hg:Gl X x) (hm:X.mg x=some (.ref f)) (hk:PySem.W.keepIn X.K (.ref f)=true) (hb:Binds X.K fd ps []) (ha:SA X p G sub (e::es) ls) (hlen:∀ds,G j ds ≠ .stuck->ds.length=ps.length)
  (hdb:(x==("__debug__":Str))=false) (he:starEach (e::es) X.env=(false,eval e X.env)::starEach es X.env) (hpl:(backTo pos (starEach es X.env)).any (·.1)=false):SE X p G sub (.Call (.Name x q) (e::es) [] pos) (.call j ls):=by
 intro pins s σ H ρ os I R hs;rw[q12] at hs |-;refine wpAny_Call_Name_kw (q3t I hg hm ?_ hdb);refine PySem.W.callWith_K (h₀:=X.base) I.ok.mod.kin hk (wpAny_mono (ha pos pins s σ H ρ os I R (q0C hs)) (λ us s1 ⟨ds,vs,H1,e1,I1,r1,x1,q1⟩=>⟨I1.kIn,?_⟩) (λ e s' z=>z.bind)) he hpl;rw[e1,q00] at hs |-;exact wpAny_mono (qDs F hr hb I1 r1 (R.ext x1).nd (R.ext x1).th q1 (hlen ds hs) hs) (λ u s2 ⟨d,v,H2,e2,I2,rv,x2,q2⟩=>⟨d,v,H2,e2,I2,rv,x1.trans x2,q2⟩) (λ e s' z=>z.ext x1)
theorem qGj {i:I}(h:cI n C e=some i):okE e=true:=by
 cases n with
 |zero=>cases h
 |succ n =>
  unfold cI at h;split at h
  ·rename_i args hr;obtain⟨q,pos,rfl,_⟩:=q9k hr;cases args with
   |cons a r=>rfl
   |nil=>rw[if_neg (by decide)] at h;cases h
  ·split at h
   ·rename_i x hx;obtain⟨q,rfl⟩:=q0E hx;rfl
   ·obtain⟨l,e1,_⟩:=oM h;exact q5C e1
theorem q7f (ih:∀m,m<n->∀(X:Cx) (C:Ct),CtOk k X C p G sub->∀e t,cT m C e=some t->ST X p G sub e t) (T:CtOk k X C p G sub) {ifs:List PySem.Expr}{ts:List Ev.T}(h:cTs n C ifs=some ts) (hl:ts.length<=1):STs X p G sub ifs ts:=by
 cases n with
 |zero=>simp[cTs] at h
 |succ n =>
  cases ifs with
  |nil=>simp[cTs] at h;exact .inl ⟨rfl,h⟩
  |cons c r =>
   obtain⟨a,l,g1,g2,rfl⟩:=q9j h;cases l with
   |cons _ _=>exact absurd hl (λ z=>Nat.not_succ_le_zero _ (Nat.le_of_succ_le_succ z))
   |nil =>
    cases r with
    |nil=>exact .inr ⟨c,a,rfl,rfl,ih n (Jf n) X C T _ _ g1⟩
    |cons c2 r2 =>
     cases n with
     |zero=>cases g2
     |succ n=>obtain⟨_,_,_,_,z⟩:=q9j g2;cases z
theorem q7g {tg:PySem.Expr}{kk:Nat}{ts:List Str}{s2:Shared}{H2:Hp}{sc:Scope}{cl:List (Str×Addr)}{C':Addr}{fp:List Addr}(hK:p.K=X.K) (hc:X.calm=true) (nd:(inN ts X.N).Nodup) (rl:∀x∈ts,sc.names.lookup x=some .local\/sc.names.lookup x=some .cell)
  (h:tgs tg=some (kk,ts)):SGc (cxC X s2 H2 sc cl C' (inN ts X.N) fp) p tg kk ts.length:=by
 have lo:∀x∈ts,Loc (cxC X s2 H2 sc cl C' (inN ts X.N) fp).env.scope x/\((cxC X s2 H2 sc cl C' (inN ts X.N) fp).fn x=true\/(cxC X s2 H2 sc cl C' (inN ts X.N) fp).env.scope.names.lookup x=some .local):=λ x hx=>by
  rcases rl x hx with z|z
  ·have:(relabel sc X.env).names.lookup x=some .local:=(by rw[q0N,z];rfl);exact⟨.inl this,.inr this⟩
  ·have:(relabel sc X.env).names.lookup x=some .cell:=(by rw[q0N,z];rfl);exact⟨.inr this,.inl (beq_iff_eq.mpr z)⟩
 unfold tgs at h;split at h
 ·cases h;have:=lo _ (Qb ..);exact q9T nd rfl this.1 this.2
 ·obtain⟨ab,h1,h⟩:=oB h;obtain⟨x,h2,h⟩:=oB h;obtain⟨y,h3,h⟩:=oM h;obtain⟨q1,e1⟩:=q0E h2;obtain⟨q2,e2⟩:=q0E h3;rw[qFo h1,e1,e2];cases h;have a1:=lo _ (Qb ..);have a2:=lo _ (Qa _ (Qb ..));exact qGN hK hc nd rfl a1.1 a1.2 rfl a2.1 a2.2
 ·cases h
theorem qFA {ops:List CmpOp}{cs:List PySem.Expr}(h:cE (n+1) C (.Compare a ops cs q)=some l):∃op b la lb,ops=[op]/\cs=[b]/\cB n C a=some la/\cB n C b=some lb/\l = .cm (cmOf op) la lb:=by obtain⟨op,h1,h⟩:=oB h;obtain⟨b,h2,h⟩:=oB h;obtain⟨la,g1,h⟩:=oB h;obtain⟨lb,g2,h⟩:=oM h;exact⟨op,b,la,lb,q11 h1,q11 h2,g1,g2,h.symm⟩
theorem qJb {ops:List CmpOp}{cs:List PySem.Expr}(h:cB n C (.Compare a ops cs q)=some l):∃m op b la lb,m<n/\ops=[op]/\cs=[b]/\cB m C a=some la/\cB m C b=some lb/\l = .cm (cmOf op) la lb:=by
 cases n with
 |zero=>cases h
 |succ n =>
  cases n with
  |zero=>cases h
  |succ n =>
   obtain⟨op,b,la,lb,z⟩:=qFA (q:=q) h;exact⟨n,op,b,la,lb,Qn (Jf n) (Nat.le_succ _),z⟩
def plainT:PySem.Expr->Bool
 | .BoolOp _ _ _=>false
 | .UnaryOp .Not _ _=>false
 | .IfExp _ _ _ _=>false
 | .Compare _ _ _ _=>false
 |_=>true
theorem qE9 {env:PySem.Env}(h:plainT e=true):∀whole,isTrue e env whole=(do let v <-whole;standAt e.pos;holding [v] (truthy v)):=by
 intro whole;cases e<;>first|(cases h;done)|skip
 all_goals first|(with_unfolding_all rfl;done)|(rename_i op _ _;cases op<;>first|(cases h;done)|(with_unfolding_all rfl))
theorem qGk (h:plainT e=true):q8J e=false:=by
 cases e<;>first|rfl|(cases h;done)|skip
 rename_i op _ _;cases op<;>first|rfl|(cases h;done)
theorem q8c (h:cEs n C []=some ls):ls=[]:=by
 cases n with
 |zero=>cases h
 |succ n=>cases h;rfl
theorem qC8 (h:cEs n C [a]=some ls):∃l,ls=[l]:=by
 cases n with
 |zero=>cases h
 |succ n =>
  obtain⟨l,_,_,g2,rfl⟩:=q3V h;rw[q8c g2];exact⟨_,rfl⟩
theorem qGl {b:PySem.Expr}(h:cEs n C [a,b]=some ls):∃l m,ls=[l,m]:=by
 cases n with
 |zero=>cases h
 |succ n =>
  obtain⟨l,_,_,g2,rfl⟩:=q3V h;obtain⟨m,rfl⟩:=qC8 g2;exact⟨_,_,rfl⟩
theorem qC9 {f:Str}{b:Bi}{la:L}(T:CtOk k X C p G sub) (h:bi1 f=some b) (hg:Gl X f) (hd:(f==("__debug__":Str))=false) (ha:SB X p G sub a la) (hst:starEach [a] X.env=[(false,eval a X.env)]):SE X p G sub (.Call (.Name f q) [a] [] pos) (.bi b [la]):=by
 unfold bi1 at h;split at h
 ·rename_i e;cases h;subst e;exact q7S (qJ5 T.K) hg (T.blt _ qLD) PySem.boot_len ha (by decide) hd hst
 split at h
 ·rename_i e;cases h;subst e;exact q7S (qBr T.K T.calm T.hu) hg (T.blt _ qJU) PyProof.Rows.boot_sorted ha (by decide) hd hst
 split at h
 ·rename_i e;cases h;subst e;exact qBj (qDo T.K) hg (T.blt _ qJV) PyProof.Rows.boot_tuple ha (by decide) hd hst
 split at h
 ·rename_i e;cases h;subst e;exact qBj (qGQ T.K) hg (T.blt _ qGh) PyProof.Rows.boot_list ha (by decide) hd hst
 split at h
 ·rename_i e;cases h;subst e;exact q7S (qJ6 T.K T.calm) hg (T.blt _ qLE) PyProof.Rows.boot_all ha (by decide) hd hst
 split at h
 ·rename_i e;cases h;subst e;exact q7S (qJ7 T.K T.calm) hg (T.blt _ qJZ) PyProof.Rows.boot_any ha (by decide) hd hst
 split at h
 ·rename_i e;cases h;subst e;exact q7S (qGf T.K T.calm) hg (T.blt _ qJY) boot_max ha (by decide) hd hst
 ·cases h
theorem qAV {c:Str}{b:Bi}{la:L}{q2:Pos}(T:CtOk k X C p G sub) (h:isOf C c=some b) (hg:Gl X "isinstance") (ha:SB X p G sub a la) (hst:starEach [a,.Name c q2] X.env=[(false,eval a X.env),(false,eval (.Name c q2) X.env)]):SE X p G sub (.Call (.Name "isinstance" q) [a,.Name c q2] [] pos) (.bi b [la]):=by
 have hm:=T.blt _ qLG;unfold isOf at h;split at h
 ·rename_i hgc;obtain⟨g1,g2⟩:=T.glob hgc;split at h
  ·rename_i e;cases h;subst e;exact q46 (qJG T.K) hg hm ha (λ E Q pins s σ H I hq=>q1r I g1 (T.blt _ qJV) PyProof.Rows.boot_tuple hq (by decide) g2) hst
  split at h
  ·rename_i e;cases h;subst e;exact q46 (qJH T.K) hg hm ha (λ E Q pins s σ H I hq=>q1r I g1 (T.blt _ qGh) PyProof.Rows.boot_list hq (by decide) g2) hst
  split at h
  ·rename_i e;cases h;subst e;exact q46 qJI hg hm ha (λ E Q pins s σ H I hq=>q1r I g1 (T.blt _ qLF) PyProof.Rows.boot_int hq (by decide) g2) hst
  split at h
  ·rename_i e;cases h;subst e;exact q46 qGW hg hm ha (λ E Q pins s σ H I hq=>q1r I g1 (T.blt _ qJX) PyProof.Rows.boot_bool hq (by decide) g2) hst
  split at h
  ·rename_i e;cases h;subst e;exact q46 (qJJ T.exok) hg hm ha (λ E Q pins s σ H I hq=>q1r I g1 (T.blt _ qJa) (by decide +kernel) hq (by decide) g2) hst
  ·obtain⟨kk,e1,rfl⟩:=oM h;obtain⟨Cc,hc1,hc2⟩:=T.excs kk c (q1x e1);exact q46 (qJK (Cc:=Cc) λ e Ce he=>⟨(T.exok e Ce he).1,(T.exm e kk Ce Cc he hc1).2⟩) hg hm ha (λ E Q pins s σ H I hq=>q3t I g1 hc2.bound hq g2) hst
 ·cases h
theorem q5s {elt:PySem.Expr}{gs:List Comprehension}{sc:Scope}(h:cE (n+1) C (.ListComp elt gs sc pos)=some l):∃tg it ifs kk ts li le lc,gs=[⟨tg,it,ifs,0⟩]/\tgs tg=some (kk,ts)/\cI n C it=some li/\cE n (C.inner ts sc) elt=some le/\cTs n (C.inner ts sc) ifs=some lc/\C.scOk ts sc=true/\lc.length<=1/\l = .comp kk le li lc:=by
 obtain⟨g,hg,h⟩:=oB h;split at h
 ·rename_i ha;obtain⟨⟨kk,ts⟩,htg,h⟩:=oB h;obtain⟨li,c1,h⟩:=oB h;obtain⟨le,c2,h⟩:=oB h;obtain⟨lc,c3,h⟩:=oB h;split at h
  ·rename_i hsc;cases h;rw[Qc,decide_eq_true_eq] at hsc;obtain⟨tg,it,ifs,a⟩:=g;cases ha;exact⟨tg,it,ifs,kk,ts,li,le,lc,q11 hg,htg,c1,c2,c3,hsc.1,hsc.2,rfl⟩
  ·cases h
 ·cases h
theorem sound (hset:SSet):∀n,SoE k p G sub n:=by
 intro n
 induction n using Nat.strongRecOn with
 |ind n ih =>
  cases n with
  |zero =>
   refine⟨λ X C T e l h=>?_,λ X C T e l h=>?_,λ X C T e l h=>?_,λ X C T op e l h=>?_,λ X C T e l h=>?_,λ X C T op e l h=>?_,λ X C T e l h=>?_,λ X C T f a l h=>?_⟩
   all_goals cases h
  |succ n =>
   have ihn:=ih n (Jf n);have hE:∀(X:Cx) (C:Ct),CtOk k X C p G sub->∀e l,cE (n+1) C e=some l->SE X p G sub e l:=by
    intro X C T e l h;cases e with
    |Constant c j pos =>
     obtain⟨d,e1,rfl⟩:=oM h;exact qF0 e1
    |Name x pos =>
     unfold cE at h;dsimp only at h;split at h
     ·rename_i hv;split at h
      ·cases h
      ·obtain⟨i,e1,rfl⟩:=oM h;obtain⟨v1,v2,v3⟩:=T.vis hv;exact qIm (T.at e1) v1 v2 v3
     ·split at h
      ·rename_i hg;obtain⟨d,e1,rfl⟩:=oM h;obtain⟨a,t,rfl,hm⟩:=T.consts x d e1;obtain⟨g1,g2⟩:=T.glob hg;exact qGB (v:= .int a) g1 hm ⟨t,rfl⟩ (λ _=>rfl) g2
      ·cases h
    |BinOp a op b pos =>
     obtain⟨o,e1,h⟩:=oB h;obtain⟨la,e2,h⟩:=oB h;obtain⟨lb,e3,rfl⟩:=oM h;exact qL7 T.K e1 (ihn.B X C T _ _ e2) (ihn.B X C T _ _ e3)
    |Compare a ops bs pos =>
     obtain⟨op,b,la,lb,rfl,rfl,e2,e3,rfl⟩:=qFA h;exact qL8 T.K T.hu (qC5 (q7d e3)) (ihn.B X C T _ _ e2) (ihn.B X C T _ _ e3)
    |UnaryOp op a pos =>
     cases op with
     |Not =>
      obtain⟨d,e1,rfl⟩:=oM h;exact qIt T.K (ihn.B X C T _ _ e1)
     |USub =>
      obtain⟨d,e1,rfl⟩:=oM h;exact qIn (ihn.E X C T _ _ e1)
     |_=>cases h
    |BoolOp op xs pos=>exact ihn.Bo X C T _ _ _ h _
    |IfExp c a b pos =>
     obtain⟨lc,e1,h⟩:=oB h;obtain⟨la,e2,h⟩:=oB h;obtain⟨lb,e3,rfl⟩:=oM h;exact qIu (ihn.T X C T _ _ e1) (ihn.E X C T _ _ e2) (ihn.E X C T _ _ e3)
    |Tuple xs j pos =>
     obtain⟨d,e1,rfl⟩:=oM h;exact qIv (ihn.Es X C T _ _ e1)
    |List xs pos =>
     obtain⟨d,e1,rfl⟩:=oM h;exact qIw (ihn.Es X C T _ _ e1)
    |Subscript a i pos =>
     have hix:∀i,(cB n C a).bind (λ a=>(cE n C i).map (.idx a))=some l->SE X p G sub (.Subscript a i pos) l:=λ i h=>by obtain⟨la,e1,h⟩:=oB h;obtain⟨li,e2,rfl⟩:=oM h;exact qIl T.K T.hu (qJR (q5C e2)) (ihn.B X C T _ _ e1) (ihn.E X C T _ _ e2).b
     cases i with
     |Slice lo hi st p2 =>
      obtain⟨kk,e1,h⟩:=oB h;obtain⟨la,e2,h⟩:=oB h;obtain⟨llo,e3,h⟩:=oB h;obtain⟨lhi,e4,h⟩:=oB h;split at h
      ·rename_i hc;cases h;have so:∀(o:Option PySem.Expr) (ls:List L),cEs n C o.toList=some ls->SO X p G sub o ls:=by
        intro o ls ho;cases o with
        |none=>exact .inl ⟨rfl,q8c ho⟩
        |some e =>
         cases n with
         |zero=>cases ho
         |succ n =>
          obtain⟨l1,l2,g1,g2,rfl⟩:=q3V ho;rw[q8c g2];exact .inr ⟨e,l1,rfl,rfl,(ih n (Qn (Jf n) (Nat.le_succ _))).E X C T _ _ g1⟩
       unfold qEp at e1;split at e1
       ·cases e1;exact qE5 T.K (ihn.B X C T _ _ e2) (so _ _ e3) (so _ _ e4)
       ·cases e1
      ·cases h
     |_=>exact hix _ h
    |Call gg args kws pos =>
     cases gg with
     |Name f q =>
      unfold cE at h;dsimp only at h;split at h
      ·rename_i hg;obtain⟨g1,g2⟩:=T.glob hg;split at h
       ·rename_i i hi;split at h
        ·rename_i hne;obtain⟨hk0,hne⟩:=hne;obtain⟨ls,e1,rfl⟩:=oM h;obtain⟨fa,fd,ps,F,hm,hk,hb,hlen⟩:=T.funs i f (q1x hi);have SAs:=ihn.Es X C T _ _ e1;cases QO.mp hk0;cases args with
         |nil=>exact absurd rfl hne
         |cons a r =>
          have oks:∀x∈a::r,okE x=true:=qC7 e1;exact qE8 F (T.room.mono (Nat.le_add_right _ _)) g1 hm hk hb SAs hlen g2 (q14 (oks a (Qb ..))) (q7e λ x hx=>oks x (Qa _ hx))
        ·cases h
       ·rename_i hi;split at h
        ·rename_i hk0;cases QO.mp hk0;exact ihn.Call X C T f args l h hg hi q pos
        ·cases h
      ·cases h
     |Attribute o m ap =>
      unfold cE at h;dsimp only at h;split at h
      ·rename_i hline;obtain⟨hk0,hline⟩:=hline;cases QO.mp hk0;obtain⟨lo,e1,h1⟩:=oB h;clear h;split at h1
       ·rename_i ha0;cases QO.mp ha0;split at h1
        ·rename_i hm;cases h1;subst hm;exact qGd (q8b (q7d e1)) hline (ihn.B X C T _ _ e1)
        ·cases h1
       ·obtain⟨y,hy,h⟩:=oB h1;clear h1;cases q11 hy;cases y with
        |Constant c j q =>
         obtain⟨d,e2,h1⟩:=oB h;clear h;have h:=h1;clear h1;split at h
         ·rename_i hm;cases h;subst hm;exact qE3 T.K T.hu e2 (q8b (q7d e1)) hline (ihn.B X C T _ _ e1)
         ·split at h
          ·rename_i hm;cases h;subst hm;exact qE4 T.K T.hu e2 (q8b (q7d e1)) hline (ihn.B X C T _ _ e1)
          ·cases h
        |_=>cases h
      ·cases h
     |_=>cases h
    |ListComp elt gs sc pos =>
     obtain⟨tg,it,ifs,kk,ts,li,le,lc,rfl,htg,e1,e2,e3,hsc1,hsc2,rfl⟩:=q5s h;obtain⟨S,ndN,hloc,inner⟩:=T.inner hsc1;obtain⟨fr,hi⟩:=(ihn.I X C T _ _ e1 tg).1;refine qGO T.calm S hi (λ s2 H2 cl C' fp=>ihn.E _ _ (inner s2 H2 cl C' fp) _ _ e2) (λ s2 H2 cl C' fp=>q7f (λ m hm X C T e t h=>(ih m (Ju hm)).T X C T e t h) (inner s2 H2 cl C' fp) e3 hsc2) (λ s2 H2 cl C' fp=>?_) (q8a (qGj e1));exact q7g T.K T.calm ndN hloc htg
    |_=>cases h
   have hB:∀(X:Cx) (C:Ct),CtOk k X C p G sub->∀e l,cB (n+1) C e=some l->SB X p G sub e l:=by
    intro X C T e l h;unfold cB at h;split at h
    ·rename_i x q;split at h
     ·rename_i hv;obtain⟨i,e1,rfl⟩:=oM h;obtain⟨v1,v2,v3⟩:=T.vis hv.1;exact qF1 (T.at e1) v1 v2 v3
     ·exact (ihn.E X C T _ _ h).b
    ·exact (ihn.E X C T _ _ h).b
   refine⟨hE,hB,λ X C T es ls h=>?_,λ X C T op xs l h pos=>?_,λ X C T e t h=>?_,λ X C T op xs t h pos=>?_,λ X C T e i h tg=>?_,λ X C T f args l h hg hi q pos=>?_⟩
   ·cases es with
    |nil=>cases h;exact qF2
    |cons e es =>
     obtain⟨a,l,g1,g2,rfl⟩:=q3V h;exact qBa (ihn.E X C T _ _ g1) (ihn.Es X C T _ _ g2) (q14 (q5C g1))
   ·cases xs with
    |nil=>cases h
    |cons a r =>
     cases r with
     |nil =>
      exact qIr (ihn.E X C T _ _ h)
     |cons b r =>
      obtain⟨la,g1,h⟩:=oB h;obtain⟨lb,g2,rfl⟩:=oM h;cases op with
      |And=>exact qIs (ihn.E X C T _ _ g1) (ihn.Bo X C T _ _ _ g2 _)
      |Or=>exact qLB (ihn.E X C T _ _ g1) (ihn.Bo X C T _ _ _ g2 _)
   ·unfold cT at h;split at h
    ·exact ihn.To X C T _ _ _ h _
    ·obtain⟨a,e1,rfl⟩:=oM h;exact qIo (ihn.T X C T _ _ e1)
    ·cases h
    ·rename_i x1 x2 x3;obtain⟨a,e1,rfl⟩:=oM h
     by_cases hcmp:∃l0 ops cs q0,e = .Compare l0 ops cs q0
     ·obtain⟨l0,ops,cs,q0,rfl⟩:=hcmp;obtain⟨m,op,b,la,lb,hm,rfl,rfl,g1,g2,rfl⟩:=qJb e1;exact qL9 T.K T.hu (qC5 (q7d g2)) ((ih m (by lia)).B X C T _ _ g1) ((ih m (by lia)).B X C T _ _ g2)
     ·have pt:plainT e=true:=by
       cases e<;>first|rfl|skip
       ·exact absurd rfl (x1 _ _ _)
       ·rename_i op a q;cases op<;>first|rfl|exact absurd rfl (x2 _ _)
       ·exact absurd rfl (x3 _ _ _ _)
       ·exact absurd ⟨_,_,_,_,rfl⟩ hcmp
      exact st_e T.K (qE9 pt) (qGk pt) (ihn.B X C T _ _ e1)
   ·cases xs with
    |nil=>cases h
    |cons a r =>
     cases r with
     |nil =>
      cases op with
      |And=>exact qGC (ihn.T X C T _ _ h)
      |Or=>exact qIp (ihn.T X C T _ _ h)
     |cons b r =>
      obtain⟨la,g1,h⟩:=oB h;obtain⟨lb,g2,rfl⟩:=oM h;cases op with
      |And=>exact qIq (ihn.T X C T _ _ g1) (ihn.To X C T _ _ _ g2 _)
      |Or=>exact qLA (ihn.T X C T _ _ g1) (ihn.To X C T _ _ _ g2 _)
   ·have plain:(cE n C e).map I.e=some i->(∃fr,SI X p G sub fr tg e i)/\(C.q8K e=false->SI X p G sub true tg e i):=λ h=>by obtain⟨l,e1,rfl⟩:=oM h;exact⟨⟨true,si_e T.K (ihn.E X C T _ _ e1)⟩,λ _=>si_e T.K (ihn.E X C T _ _ e1)⟩
    unfold cI at h;split at h
    ·rename_i args hr;obtain⟨q,pos,rfl,hg⟩:=q9k hr;obtain⟨g1,g2⟩:=T.glob hg;have hm:=T.blt _ qGi;split at h
     ·obtain⟨ls,e1,rfl⟩:=oM h;have SAs:=ihn.Es X C T _ _ e1;have oks:=qC7 e1;cases args with
      |nil=>rename_i z;exact absurd z (by decide)
      |cons a r =>
       have s1:=q14 (es:=r) (env:=X.env) (oks a (Qb ..));cases r with
       |nil =>
        obtain⟨la,rfl⟩:=qC8 e1;exact⟨⟨true,q53 g1 hm SAs s1⟩,λ _=>q53 g1 hm SAs s1⟩
       |cons b r =>
        cases r with
        |nil =>
         obtain⟨la,lb,rfl⟩:=qGl e1;have s2:starEach [b] X.env=[(false,eval b X.env)]:=q14 (oks b (Qa _ (Qb ..)));rw[s2] at s1;exact⟨⟨true,q7P g1 hm SAs s1 s2⟩,λ _=>q7P g1 hm SAs s1 s2⟩
        |cons _ _=>rename_i z;exact z.elim (λ z=>nomatch z) λ z=>nomatch z
     ·cases h
    ·split at h
     ·rename_i x hx;obtain⟨q,rfl⟩:=q0E hx;split at h
      ·rename_i hv;obtain⟨i,e1,rfl⟩:=oM h;obtain⟨v1,v2,v3⟩:=T.vis hv.1;refine⟨⟨false,si_b T.K (T.at e1) v1 v2 v3⟩,λ hmu=>?_⟩;exact absurd hv.2 (of_decide_eq_false hmu)
      ·exact plain h
     ·exact plain h
   ·obtain⟨gf,gd⟩:=T.glob hg;have one:∀a l,((bi1 f).bind λ b=>(cB n C a).map λ a=>L.bi b [a])=some l->SE X p G sub (.Call (.Name f q) [a] [] pos) l:=by intro a l h;obtain⟨b,g1,h⟩:=oB h;obtain⟨la,g2,rfl⟩:=oM h;exact qC9 T g1 gf gd (ihn.B X C T _ _ g2) (q14 (q7d g2))
    cases args with
    |nil=>cases h
    |cons y r =>
     cases r with
     |nil =>
      unfold qDQ at h;dsimp only at h;split at h
      ·rename_i g a hy;obtain⟨q2,q3,rfl⟩:=q3w hy;split at h
       ·rename_i hf;obtain⟨rfl,rfl,hgs,hfs⟩:=hf;obtain⟨la,e1,rfl⟩:=oM h;exact qGe T.calm gf (T.blt _ qGh) (T.glob hgs).1 (T.blt _ qGi) (by decide) (ihn.E X C T _ _ e1) (q14 (q5C e1))
       split at h
       ·rename_i hf;obtain⟨rfl,rfl,hgs,hfs⟩:=hf;obtain⟨la,e1,rfl⟩:=oM h;exact hset X p G sub a la q q2 q3 pos T.K T.calm T.hu (T.blt _ qJU) (T.blt _ qJW) (ihn.B X C T _ _ e1) (q7d e1) gf (T.glob hgs).1
       ·exact one _ _ h
      ·exact one _ _ h
     |cons y2 r =>
      cases r with
      |nil =>
       unfold qDQ at h;dsimp only at h;split at h
       ·rename_i hf;subst hf;obtain⟨c,hc,h⟩:=oB h;obtain⟨la,g1,h⟩:=oB h;obtain⟨b,g2,rfl⟩:=oM h;obtain⟨q2,rfl⟩:=q0E hc;exact qAV T g2 gf (ihn.B X C T _ _ g1) (by rw[q14 (q7d g1)];rfl)
       ·cases h
      |cons _ _=>cases h
end
end Snd
namespace Snd
open PySem PySem.Spec PySem.W PyProof.Rows L2 Ev
variable {v e:PySem.Expr}{ln:Nat}{env:PySem.Env}{l:Ev.S}{x:Str}{xp pos:Pos}
section
variable {k n:Nat}{X:Cx}{C:Ct}{p:Pm}{G:Nat->List D->R D}{sub:Nat->Nat->Bool}
structure BdOk (X:Cx):Prop where
 top:Top X
 fn:∀x,X.fn x=true
 kf:X.env.scope.kind = .function
theorem BdOk.bk (b:BdOk X):X.env.blockKind = .function:=by unfold Env.blockKind;rw[b.kf];rfl
theorem q6b {tg:Option PySem.Expr}(h:∀e g s q,v ≠ .ListComp e g s q) (h1:∀e g s q,v ≠ .SetComp e g s q) (h2:∀e w g s q,v ≠ .DictComp e w g s q):swapsWith v tg ln env=pure false:=by
 cases v<;>first
  |rfl
  |exact absurd rfl (h _ _ _ _)
  |exact absurd rfl (h1 _ _ _ _)
  |exact absurd rfl (h2 _ _ _ _ _)
theorem q2i {n:Nat}{C:Ct}{l:L}(h:cE n C v=some l):(∀e g s q,v ≠ .SetComp e g s q)/\∀e w g s q,v ≠ .DictComp e w g s q:=by
 cases n with
 |zero=>cases h
 |succ n=>exact⟨λ e g s q z=>(by subst z;cases h),λ e w g s q z=>(by subst z;cases h)⟩
theorem qGm {q:Pos}{n:Nat}{C:Ct}{l:L}(h:cE n C v=some l):swapsWith v (some (.Name x q)) ln env=pure false\/∃e g s q',v = .ListComp e g s q'/\swapsWith v (some (.Name x q)) ln env=pure true:=by
 by_cases hc:∃e g s q,v = .ListComp e g s q
 ·obtain⟨e,g,s,q',rfl⟩:=hc;have hp:∃b,swapsWith (.ListComp e g s q') (some (.Name x q)) ln env=pure b:=⟨_,rfl⟩
  obtain⟨b,hb⟩:=hp;cases b with
  |false=>exact .inl hb
  |true=>exact .inr ⟨e,g,s,q',rfl,hb⟩
 ·exact .inl (q6b (λ e g s q z=>hc ⟨e,g,s,q,z⟩) (q2i h).1 (q2i h).2)
theorem qJc {ts:PySem.Expr}{n:Nat}{C:Ct}{l:L}(h:cE n C v=some l) (ht:∀t q,ts ≠ .Name t q):swapsWith v (some ts) ln env=pure false:=by
 by_cases hc:∃e g s q,v = .ListComp e g s q
 ·obtain⟨e,g,s,q',rfl⟩:=hc;cases ts<;>first|rfl|exact absurd rfl (ht _ _)
 ·exact q6b (λ e g s q z=>hc ⟨e,g,s,q,z⟩) (q2i h).1 (q2i h).2
theorem q6c (h:qDR e=true):∃y:Str,JP X e y/\y.length<=1000:=by
 cases e<;>first
  |(cases h;done)
  |skip
 rename_i c j q;cases c<;>first
  |(cases h;done)
  |exact⟨_,qJC,of_decide_eq_true h⟩
theorem qEA (T:CtOk k X C p G sub) (h:C.qFp e=true):∃y:Str,JP X e y/\y.length<=1000:=by
 unfold Ct.qFp at h;split at h
 ·rw[Qc,Qc,decide_eq_true_eq,Option.isNone_iff_eq_none] at h;obtain⟨⟨rfl,rfl⟩,h⟩:=h;split at h
  ·rename_i y hy;obtain⟨q,rfl⟩:=q0E hy;rw[Qc] at h;obtain⟨h1,h3⟩:=h;obtain⟨g1,g2⟩:=T.glob h1;split at h3
   ·rename_i a e1;rw[Qc,decide_eq_true_eq,decide_eq_true_eq] at h3;obtain⟨a',t,ea,hm⟩:=T.consts _ _ e1;cases ea;exact⟨_,qJD g1 hm g2 h3.1,h3.2⟩
   ·cases h3
  ·cases h
 ·cases h
theorem q3W (x:Str):(Str.empty++x).length=x.length:=by rw[q0j];show 0+x.length=_;omega
theorem qEB (T:CtOk k X C p G sub) (h:C.qDS e=true):SM X e:=by
 have big:(3000:Nat)<=sizeLine:=by rw[sizeLine_eq];decide
 unfold Ct.qDS at h;split at h
 ·split at h
  ·rename_i a b r;rw[Qc,Qc] at h;obtain⟨x,j1,l1⟩:=q6c (X:=X) h.1.1;obtain⟨y,j2,l2⟩:=qEA T h.1.2;have h3:=h.2;split at h3
   ·exact qJE j1 j2 (by rw[q3W];lia) (by rw[q0j,q3W];lia)
   ·obtain⟨z,j3,l3⟩:=q6c (X:=X) h3;exact qDv j1 j2 j3 (by rw[q3W];lia) (by rw[q0j,q3W];lia) (by rw[q0j,q0j,q3W];lia)
   ·cases h3
  ·cases h
 ·obtain⟨x,j1,l1⟩:=q6c (X:=X) h;exact λ E pins σ H s I=>wpAny_mono (j1 E pins σ H s I) (λ _ _ h=>h.2) λ _ _ z=>z
theorem qEC (h:C.qDS e=true):okE e=true:=by cases e<;>first|rfl|(cases h;done)
structure SoS (k:Nat) (p:Pm) (G:Nat->List D->R D) (sub:Nat->Nat->Bool) (n:Nat):Prop where
 S:∀(X:Cx) (C:Ct),CtOk k X C p G sub->BdOk X->∀s l,cS n C s=some l->SS X p G sub s l
 Ss:∀(X:Cx) (C:Ct),CtOk k X C p G sub->BdOk X->∀s l,cSs n C s=some l->SSs X p G sub s l
theorem q3X (so:SoE k p G sub n) (so':∀m,SoE k p G sub m) (T:CtOk k X C p G sub) (B:BdOk X) {i:Nat}(hl:C.loc x=some i) (h:(cE n C v).map (S.set i)=some l):SS X p G sub (.Assign [.Name x xp] v pos) l:=by
 have hN:X.N.Nodup:=by rw[T.N];exact T.nd
 obtain⟨l1,l2⟩:=T.loc hl;have hf:X.fn x=true\/X.env.scope.names.lookup x=some .local:= .inl (B.fn _);obtain⟨lv,e1,rfl⟩:=oM h;rcases qGm (x:=x) (q:=xp) (ln:=pos.line) (env:=X.env) e1 with z|⟨el,gs,sc,q',rfl,z⟩
 ·exact qJ0 hN l2 l1 hf (so.E X C T _ _ e1) z
 ·cases n with
  |zero=>cases e1
  |succ m =>
   obtain⟨tg,it,ifs,kk,ts,li,le,lc,rfl,htg,c1,c2,c3,hsc,hlen,rfl⟩:=q5s e1;obtain⟨S,ndN,hloc,inner⟩:=T.inner hsc;obtain⟨fr,hi⟩:=((so' m).I X C T _ _ c1 tg).1;refine qGP T.calm S hi (λ s2 H2 cl C' fp=>(so' m).E _ _ (inner s2 H2 cl C' fp) _ _ c2) (λ s2 H2 cl C' fp=>q7f (λ m' _ X C T e t h=>(so' m').T X C T e t h) (inner s2 H2 cl C' fp) c3 hlen) (λ s2 H2 cl C' fp=>?_) (q8a (qGj c1)) hN l2 l1 hf z;exact q7g T.K T.calm ndN hloc htg
theorem qED (so:SoE k p G sub n) (T:CtOk k X C p G sub) (B:BdOk X) {i:Nat}(hl:C.loc x=some i) (h:qFq C (cE n C) x xp i v=some l):SS X p G sub (.Assign [.Name x xp] v pos) l:=by
 have hN:X.N.Nodup:=by rw[T.N];exact T.nd
 obtain⟨l1,l2⟩:=T.loc hl;obtain⟨⟨t,g,a,sc,vp⟩,hd,h1⟩:=oB h;obtain⟨q1,q2,q3,q4,rfl⟩:=qBB hd;dsimp only at h1;split at h1
 ·rename_i hc;obtain⟨rfl,hgl,hfn,hmu,hsc,hkl,hline,htl,hany⟩:=hc;obtain⟨la,e1,rfl⟩:=oM h1;obtain⟨S,ndN,hloc,inner⟩:=T.inner hsc;obtain⟨g1,g2⟩:=T.glob hgl;have kx:X.env.kindOf x=some .local:=by
   have kk:=T.kinds x;rw[hkl] at kk;rcases kk with z|⟨z,_⟩
   ·exact z.symm
   ·cases z
  refine qGa T.calm S g1 (T.blt _ qGi) (so.E X C T _ _ e1) (q14 (q5C e1)) ndN htl hN l2 l1 (.inl (B.fn _)) ?_;show (pure _:Sem Bool)=pure true;congr 1;rw[B.bk];have k2:(X.env.kindOf x==some .local)=true:=by rw[kx];rfl
  rw[k2];have hl':(xp.line==(PySem.Expr.ListComp (.List [] q1) [⟨.Name t q2,.Call (.Name (Str.ofString "range") q3) [a] [] q4,[],0⟩] sc vp).pos.line)=true:=hline;rw[hl',hany];rfl
 ·cases h1
theorem qEE (so:SoE k p G sub n) (so':∀m,SoE k p G sub m) (T:CtOk k X C p G sub) (B:BdOk X) (h0:cAsg C (cE n C) (cEs n C) [.Name x xp] v=some l):SS X p G sub (.Assign [.Name x xp] v pos) l:=by
 have hN:X.N.Nodup:=by rw[T.N];exact T.nd
 obtain⟨i,hl,h⟩:=oB (show ((C.loc x).bind λ i=>if x∈C.deep then qFq C (cE n C) x xp i v else if x∈C.muts then qFr C (cE n C) (cEs n C) i v else qFs C (cE n C) i v)=some l from h0);obtain⟨l1,l2⟩:=T.loc hl;have hf:X.fn x=true\/X.env.scope.names.lookup x=some .local:= .inl (B.fn _);split at h
 ·exact qED so T B hl h
 split at h
 ·cases v with
  |List xs q =>
   obtain⟨ls,e1,rfl⟩:=oM h;exact qGY hN l2 l1 hf (so.Es X C T _ _ e1)
  |Dict ks ws q =>
   unfold qFr at h;dsimp only at h;split at h
   ·rename_i hc;cases h;cases QO.mp hc.1;cases QO.mp hc.2;exact qGg hN l2 l1 hf
   obtain⟨k1,a1,h⟩:=oB h;obtain⟨k2,a2,h⟩:=oB h;obtain⟨w,a3,h⟩:=oB h;obtain⟨lk,e1,h⟩:=oB h;obtain⟨lw,e2,rfl⟩:=oM h;rw[q11 a1,q11 a3,a2];exact qGZ hN l2 l1 hf (so.E X C T _ _ e1) (so.E X C T _ _ e2)
  |_=>cases h
 ·unfold qFs at h;split at h
  ·rename_i o m as ap cp hv;cases q7E hv;split at h
   ·rename_i y hy;obtain⟨q,rfl⟩:=q0E hy;split at h
    ·rename_i hm;split at h
     ·rename_i hc;rw[Qc,Qc] at hc;cases QO.mp hc.1.1;obtain⟨j,e1,rfl⟩:=oM h;obtain⟨m1,m2⟩:=T.loc e1;obtain⟨d1,d2⟩:=q1E hc.2;obtain⟨_,rfl⟩:=hm;exact qJN hN l2 l1 hf m2 (m1.elim .inl λ z=> .inr (.inl z)) d1 d2 hc.1.2
     ·cases h
    ·exact q3X so so' T B hl h
   ·exact q3X so so' T B hl h
  ·split at h
   ·rename_i y hy;obtain⟨q,rfl⟩:=q0E hy;split at h
    ·cases h
    ·exact q3X so so' T B hl h
   ·exact q3X so so' T B hl h
theorem qJd (so:SoE k p G sub n) (so':∀m,SoE k p G sub m) (T:CtOk k X C p G sub) (B:BdOk X) {ts:List PySem.Expr}(h:cAsg C (cE n C) (cEs n C) ts v=some l):SS X p G sub (.Assign ts v pos) l:=by
 have hN:X.N.Nodup:=by rw[T.N];exact T.nd
 obtain⟨t,ht,h1⟩:=oB h;cases q11 ht;cases t with
 |Name x xp=>exact qEE so so' T B h
 |Subscript o k q =>
  obtain⟨x,a2,h1⟩:=oB h1;obtain⟨px,n1⟩:=q0E a2;rw[n1];split at h1
  ·rename_i hc;obtain⟨i,e1,h1⟩:=oB h1;obtain⟨lk,e2,h1⟩:=oB h1;obtain⟨lv,e3,rfl⟩:=oM h1;obtain⟨l1,l2⟩:=T.loc e1;obtain⟨d1,d2⟩:=q1E hc.2;exact qJP T.hu l2 (l1.elim .inl λ z=> .inr (.inl z)) d1 d2 (so.E X C T _ _ e2) (so.E X C T _ _ e3) (qJc e3 (λ _ _ z=>by cases z))
  ·cases h1
 |_=>cases h1
theorem qJe (so:SoE k p G sub n) (T:CtOk k X C p G sub) (h:cExp C (cE n C) (cEs n C) e=some l):SS X p G sub (.Expr e pos) l:=by
 unfold cExp at h;split at h
 ·rename_i hs;cases h;unfold qEq at hs;split at hs
  ·split at hs
   ·exact qIy
   ·cases hs
  ·cases hs
 split at h
 ·rename_i o m as ap cp hv;cases q7E hv;unfold qIN at h;split at h
  ·split at h
   ·rename_i hc;obtain⟨_,hline,hnm,rfl⟩:=hc;obtain⟨a,a1,h1⟩:=oB h;obtain⟨i,e1,h1⟩:=oB h1;obtain⟨la,e2,rfl⟩:=oM h1;obtain⟨l1,l2⟩:=T.loc e1;obtain⟨d1,d2⟩:=q1E hnm;rw[q11 a1];exact qJT T.K l2 (l1.elim .inl λ z=> .inr (.inl z)) d1 d2 (so.E X C T _ _ e2) (q14 (q5C e2)) hline
   split at h
   ·rename_i hc;obtain⟨a,a1,h1⟩:=oB h;clear h;cases q11 a1;obtain⟨i,e1,h1⟩:=oB h1;obtain⟨la,e2,rfl⟩:=oM h1;obtain⟨_,hline,hnm,rfl⟩:=hc;obtain⟨l1,l2⟩:=T.loc e1;obtain⟨d1,d2⟩:=q1E hnm;exact qJM l2 (l1.elim .inl λ z=> .inr (.inl z)) d1 d2 (so.E X C T _ _ e2) (q14 (q5C e2)) hline
   ·cases h
  ·obtain⟨x,a2,h2⟩:=oB h;clear h;obtain⟨px,rfl⟩:=q0E a2;split at h2
   ·rename_i hc;obtain⟨a,a1,h1⟩:=oB h2;clear h2;cases q11 a1;obtain⟨i,e1,h1⟩:=oB h1;obtain⟨lk,e2,h1⟩:=oB h1;obtain⟨la,e3,rfl⟩:=oM h1;obtain⟨hline,hnm,_,_,rfl⟩:=hc;obtain⟨l1,l2⟩:=T.loc e1;obtain⟨d1,d2⟩:=q1E hnm;exact qGb l2 (l1.elim .inl λ z=> .inr (.inl z)) d1 d2 (so.E X C T _ _ e2) (qJR (q5C e2)) (so.E X C T _ _ e3) (q14 (q5C e3)) hline
   ·cases h2
  ·cases h
 split at h
 ·cases h
 ·rename_i hx;obtain⟨le,e1,rfl⟩:=oM h;exact qGH (so.E X C T _ _ e1) (q6b (λ e g s q z=>hx (by rw[z];rfl)) (q2i e1).1 (q2i e1).2)
theorem qJf (T:CtOk k X C p G sub) (B:BdOk X) (ihn:∀s l,cSs n C s=some l->SSs X p G sub s l) {body oe fb:List PySem.Stmt}{hs:List ExceptHandler}(h:cTry C (cSs n C) body hs oe fb=some l):SS X p G sub (.Try body hs oe fb pos) l:=by
 have hN:X.N.Nodup:=by rw[T.N];exact T.nd
 unfold cTry at h;split at h
 ·rename_i hc;cases QO.mp hc.1;cases QO.mp hc.2;obtain⟨hd,a1,h1⟩:=oB h;clear h;cases q11 a1;obtain⟨⟨c,i,j⟩,a2,h1⟩:=oB h1;obtain⟨lb,e4,rfl⟩:=oM h1;obtain⟨ty,nm,b,q⟩:=hd;obtain⟨ty',b1,h⟩:=oB a2;obtain⟨cn,b2,h⟩:=oB h;obtain⟨x,b3,h⟩:=oB h;obtain⟨st,b4,h⟩:=oB h;obtain⟨⟨y,x'⟩,b5,h⟩:=oB h;obtain⟨q1,n1⟩:=q0E b2;obtain⟨q2,q3,q4,n2⟩:=qFu b5;dsimp only at h n2;split at h
  ·rename_i hc;obtain⟨hg,hnm,_,_,rfl,hxy,hkl⟩:=hc;obtain⟨c',e1,h⟩:=oB h;obtain⟨i',e2,h⟩:=oB h;obtain⟨j',e3,h⟩:=oM h;cases h;rw[b1,b3,q11 b4,n1,n2];obtain⟨g1,g2⟩:=T.glob hg;obtain⟨Cc,hc1,hc2⟩:=T.excs c _ (q1x e1);obtain⟨l1,l2⟩:=T.loc e2;obtain⟨l3,l4⟩:=T.loc e3;obtain⟨d1,d2⟩:=q1E hnm;refine qJF B.top hN l2 ?_ l4 l3 (.inl (B.fn _)) hxy g1 hc2.bound (λ e Ce he=>(T.exm e c Ce Cc he hc1).1) g2 d1 d2 (ihn _ _ e4);rcases T.kinds _ with z|⟨z,_⟩
   ·exact z.symm.trans hkl
   ·rw[hkl] at z;cases z
  ·cases h
 ·cases h
theorem qJg (hset:SSet):∀n,SoS k p G sub n:=by
 intro n;have so:=λ n=>sound (k:=k) (p:=p) (G:=G) (sub:=sub) hset n
 induction n with
 |zero=>exact⟨λ X C T B s l h=>(by cases h),λ X C T B s l h=>(by cases h)⟩
 |succ n ihn =>
  refine⟨λ X C T B st l h=>?_,λ X C T B sts l h=>?_⟩
  ·have hN:X.N.Nodup:=(by rw[T.N];exact T.nd);cases st with
   |Assign ts v pos=>exact qJd (so n) so T B h
   |AugAssign tg0 op v pos =>
    obtain⟨x,a1,h⟩:=oB h;obtain⟨q,n1⟩:=q0E a1;rw[n1];split at h
    ·cases h
    ·obtain⟨i,e1,h⟩:=oB h;obtain⟨o,e2,h⟩:=oB h;obtain⟨lv,e3,rfl⟩:=oM h;obtain⟨l1,l2⟩:=T.loc e1;exact qJO hN l2 l1 (.inl (B.fn _)) e2 ((so n).E X C T _ _ e3)
   |Expr e pos=>exact qJe (so n) T h
   |If c0 a0 b0 pos =>
    obtain⟨c,e1,h⟩:=oB h;obtain⟨a,e2,h⟩:=oB h;obtain⟨b,e3,rfl⟩:=oM h;exact qIz ((so n).T X C T _ _ e1) (ihn.Ss X C T B _ _ e2) (ihn.Ss X C T B _ _ e3)
   |For tg0 it0 body0 oe pos =>
    unfold cS at h;dsimp only at h;split at h
    ·rename_i hc;cases QO.mp hc.1;obtain⟨x,hx,h⟩:=oB h;obtain⟨li,c1,h⟩:=oB h;obtain⟨lb,c2,h⟩:=oB h;obtain⟨i,hl,h⟩:=oB h;obtain⟨q,n1⟩:=q0E hx;split at h
     ·cases h
     ·cases h;obtain⟨l1,l2⟩:=T.loc hl;rw[n1];exact qJ4 T.calm (((so n).I X C T _ _ c1 _).2 (Bool.eq_false_iff.mpr hc.2)) (qGL hN l2 l1 (.inl (B.fn _))) (ihn.Ss X C T B _ _ c2) (q8a (qGj c1))
    ·cases h
   |While c0 body0 oe pos =>
    unfold cS at h;dsimp only at h;split at h
    ·rename_i hc;cases QO.mp hc;obtain⟨c,e1,h⟩:=oB h;obtain⟨b,e2,rfl⟩:=oM h;exact qJ1 ((so n).T X C T _ _ e1) (ihn.Ss X C T B _ _ e2)
    ·cases h
   |Return r0 pos =>
    have plain:∀e,(cE n C e).map S.ret=some l->SS X p G sub (.Return (some e) pos) l:=λ e h=>by obtain⟨le,e1,rfl⟩:=oM h;exact qF3 ((so n).E X C T _ _ e1)
    cases r0 with
    |none=>cases h;exact qGI
    |some e =>
     unfold cS cRet at h;dsimp only at h;split at h
     ·rename_i x hx;obtain⟨q,rfl⟩:=q0E hx;split at h
      ·obtain⟨i,e1,rfl⟩:=oM h;obtain⟨l1,l2⟩:=T.loc e1;obtain⟨d1,d2⟩:=qE6 e1;exact qGc l2 (l1.elim .inl λ z=> .inr (.inl z)) d1 d2
      ·exact plain _ h
     ·split at h
      ·rename_i x hx;obtain⟨i,e1,h⟩:=oB h;obtain⟨le,e2,rfl⟩:=oM h;exact qLC (qF3 ((so n).E X (C.less x) (T.less x) _ _ e2))
      ·exact plain _ h
   |Break=>cases h;exact qIx
   |Continue=>cases h;exact qGG
   |Pass=>cases h;exact qGF
   |Raise a0 b0 pos =>
    obtain⟨e,a1,h⟩:=oB h;split at h
    ·rename_i hb;obtain⟨⟨cn,m⟩,a2,h⟩:=oB h;obtain⟨q,q2,n1⟩:=q3w a2;rw[a1,Option.isNone_iff_eq_none.mp hb,n1];dsimp only at h;split at h
     ·rename_i hc;obtain⟨c,e1,rfl⟩:=oM h;obtain⟨g1,g2⟩:=T.glob hc.1;obtain⟨Cc,hc1,hc2⟩:=T.excs c _ (q1x e1);exact qDw T.calm g1 hc2 PySem.F.excBase_ValueError hc1 (qEB T hc.2) g2 (q14 (qEC hc.2))
     ·cases h
    ·cases h
   |Try a0 b0 c0 d0 pos=>exact qJf T B (λ s l h=>ihn.Ss X C T B s l h) h
   |_=>cases h
  ·cases sts with
   |nil=>cases h;exact qGE
   |cons s r =>
    obtain⟨a,g1,h⟩:=oB h;obtain⟨l',g2,rfl⟩:=oM h;exact qDl (ihn.S X C T B _ _ g1) (ihn.Ss X C T B _ _ g2)
end
end Snd
namespace Snd
open PySem PySem.Spec PySem.W PyProof.Rows L2 Ev
variable {α:Type}{x:Str}
theorem qLH:∀{us:List α},us.length=1->∃a,us=[a]
 |[a],_=>⟨a,rfl⟩
theorem qLI:∀{us:List α},us.length=2->∃a b,us=[a,b]
 |[a,b],_=>⟨a,b,rfl⟩
theorem qLJ:∀{us:List α},us.length=3->∃a b c,us=[a,b,c]
 |[a,b,c],_=>⟨a,b,c,rfl⟩
structure DefI where
 name:Str
 st:Stmt
 N:List Str
 ps:List Str
 muts:List Str
 deep:List Str
 l:List Ev.S
structure TxtI where
 ds:List DefI
 consts:List (Str×D)
 excs:List Str
 sub:Nat->Nat->Bool
def TxtI.ct (t:TxtI) (d:DefI):Ct:={N:=d.N,kinds:=(q1s d.st).names,funs:=t.ds.map (·.name),consts:=t.consts,excs:=t.excs,muts:=d.muts,fresh:=[],deep:=d.deep}
def Gk (t:TxtI):Nat->Nat->List D->R D
 |0,_,_=> .stuck
 |n+1,f,xs=>match t.ds[f]? with
  |some d=>if xs.length=d.ps.length then Ev.run (Gk t n) t.sub d.N.length d.l xs else .stuck
  |none=> .stuck
structure DefOk (t:TxtI) (d:DefI):Prop where
 sc:FnScope d.N d.ps (q1s d.st)
 cs:cSs 60 (t.ct d) (q2v d.st)=some d.l
 bd:∀(kV doc pm:Value) (an:Option Addr) (cdv ct:Value) (us:List Value),us.length=d.ps.length->bindArgs (PySem.W.fnOf d.name d.name (q3v d.st) (q2v d.st) (q1s d.st) .none kV doc pm an cdv ct) ⟨us,[]⟩=pure (d.ps.zip us)
def FnIn (K:PySem.W.Frag) (x:Str) (st:Stmt):Prop:=∃f fd,nsIn K mainGlobals x=some (some (.ref f))/\Fun K x x st f fd
theorem qGn {K:PySem.W.Frag}{st:Stmt}{f:Addr}{oc:Value}{od an:Option Addr}{osl:Array (Option Value)}{kV doc pm cdv ct:Value}(a:nsIn K mainGlobals x=some (some (.ref f)))
  (l:K.lookup f=some ⟨oc,od,.func (PySem.W.fnOf x x (q3v st) (q2v st) (q1s st) .none kV doc pm an cdv ct),osl⟩) (c:PySem.W.codeIn K cdv x=true) (k:PySem.W.keepIn K (.ref f)=true):FnIn K x st:=⟨f,_,a,qIF l c k⟩
structure ExcI (K:PySem.W.Frag) (x:Str) (C:Addr):Prop where
 at_:nsIn K mainGlobals x=some (some (.ref C))
 exc:excIn K C qC6 "ValueError.__new__" = true
 ok:ExOk K C
 val:kitOne K (.ref C) (.type "ValueError")=some true
structure TxtOk (K:PySem.W.Frag) (t:TxtI) (p:Pm):Prop where
 pk:p.K=K
 def_:∀(j:Nat) (d:DefI),t.ds[j]? = some d->DefOk t d/\FnIn K d.name d.st
 blt:∀x∈q09,nsIn K mainGlobals x=some none
 con:∀(x:Str) (d:D),t.consts.lookup x=some d->∃a tk,d = .int a/\nsIn K mainGlobals x=some (some (.int a tk))
 exc:∀(c:Nat) (x:Str),t.excs[c]? = some x->∃C,p.cls[c]? = some C/\ExcI K x C
 cls:∀(c:Nat) (C:Addr),p.cls[c]? = some C->∃x,t.excs[c]? = some x/\ExcI K x C
 sub:∀(e c:Nat) (Ce Cc:Addr),p.cls[e]? = some Ce->p.cls[c]? = some Cc->exmOne K (.ref Ce) (.ref Cc)=some (t.sub e c)/\kitOne K (.ref Ce) (.ref Cc)=some (t.sub e c)
theorem qJh {K:PySem.W.Frag}{h:Heap}{mg:Str->Option Value}{C:Addr}{tl:List Value}{nw:String}(Z:K.In h) (g:h.Ns mainGlobals mg) (e:nsIn K mainGlobals x=some (some (.ref C))) (q:excIn K C tl nw=true):OwnCls x C tl nw mg h:=by
 have hb:=mg_of Z g e;unfold excIn at q;split at q
 case h_2=>cases q
 rename_i dd cd sl ho;split at q
 case h_2=>cases q
 rename_i C' bm k0 k1 k2 k3 n k5 hm hs;simp only[Qc,beq_iff_eq,Jh] at q;obtain⟨⟨⟨⟨⟨c1,c2⟩,c3⟩,c4⟩,c5⟩,c6⟩:=q;cases c1;cases c2;obtain⟨nm,bs,mro,ns,qn,hd,sn,sub,ab,col,del⟩:=cd;dsimp only at hm c3 c5 c6;cases hm;cases c3;obtain⟨ll⟩:=sl;have hl:=hs;cases hl;exact⟨hb,bm,ns,nm,qn,bs,hd,sn,sub,ab,col,dd,k0,k1,k2,k3,k5,_,Z _ _ ho,.of_isNs (isNs_of_in Z c5),nsMap_none_of_in Z c5 c6,tail_of_in Z c4⟩
section
variable {P:Program}{w:World}{K:PySem.W.Frag}{mg:Str->Option Value}{base:Heap}{t:TxtI}{p:Pm}
theorem qGo (hset:SSet) (T:TxtOk K t p) (kin:K.In base) (glob:base.Ns mainGlobals mg):∀(n j:Nat) (d:DefI) (f:Addr) (fd:FuncData),t.ds[j]? = some d->Fun K d.name d.name d.st f fd->FnOk P w K mg base (CXs P w) (3*n) f fd d.ps (spG p (Gk t n) j d.ps.length):=by
 intro n
 induction n with
 |zero =>
  intro j d f fd hd F;refine⟨λ vs H Q E h=>h.choose_spec.choose_spec.1,λ A outer s H args us vs Q E hr e0 hb r hsp=>?_⟩;obtain⟨ds,O,_,_,_,_,ns,_⟩:=hsp;exact absurd rfl ns
 |succ n ih =>
  intro j d f fd hd F;obtain⟨D1,_⟩:=T.def_ j d hd;obtain⟨oc,od,kV,doc,pm,an,cdv,ct,osl,efd,lk,hcd⟩:=F.ex;subst efd;refine qJB (k:=3*n+2) (G':=Gk t n) (sub:=t.sub) (l:=d.l) (N:=d.N) lk hcd D1.sc (λ ds ns hl=>?_) λ A outer s H E hr e0=>?_
  ·show (match t.ds[j]? with
    |some d=>if ds.length=d.ps.length then Ev.run (Gk t n) t.sub d.N.length d.l ds else .stuck
    |none=> .stuck)=_
   rw[hd];dsimp only;rw[if_pos hl]
  ·refine (qJg (k:=3*n) (p:=p) (G:=Gk t n) (sub:=t.sub) hset 60).Ss _ (t.ct d) ⟨rfl,D1.sc.nd,λ x=> .inl rfl,rfl,T.pk,hr,λ x hx=>mg_none_of kin glob (T.blt x hx),λ j' f' hf=>?_,λ x dd hx=>?_,λ c x hx=>?_,λ c C hc=>?_,T.sub⟩ ⟨⟨rfl,rfl⟩,λ _=>rfl,D1.sc.kind⟩ _ _ D1.cs
   ·have hf:(t.ds.map (·.name))[j']? = some f':=hf;rw[Qt] at hf;cases e:t.ds[j']? with
    |none=>rw[e] at hf;cases hf
    |some d' =>
     rw[e] at hf;cases hf;obtain⟨D2,fa,fd',a',F'⟩:=T.def_ j' d' e;refine⟨fa,fd',d'.ps,ih j' d' fa fd' e F',mg_of kin glob a',F'.kp,F'.binds D2.bd,λ ds ns=>?_⟩;cases n with
     |zero=>exact absurd rfl ns
     |succ n =>
      have ns:(match t.ds[j']? with
       |some d=>if ds.length=d.ps.length then Ev.run (Gk t n) t.sub d.N.length d.l ds else .stuck
       |none=> .stuck)≠R.stuck:=ns
      rw[e] at ns;dsimp only at ns
      by_cases hl:ds.length=d'.ps.length
      ·exact hl
      ·rw[if_neg hl] at ns;exact absurd rfl ns
   ·obtain⟨a',tk,e1,e2⟩:=T.con x dd hx;exact⟨a',tk,e1,mg_of kin glob e2⟩
   ·obtain⟨C,e1,e2⟩:=T.exc c x hx;exact⟨C,e1,qJh kin glob e2.at_ e2.exc⟩
   ·obtain⟨x,e1,e2⟩:=T.cls c C hc;exact⟨e2.ok,e2.val⟩
theorem qJi {l:PySem.W.OpenLaw}{h:Heap}{fa:Addr}{j:Nat}{d:DefI}(hset:SSet) (T:TxtOk K t p) (Z:K.In h) (g:h.Ns mainGlobals mg) (hj:t.ds[j]? = some d) (hps:d.ps=[x]) (hfa:mg d.name=some (.ref fa)) (n:Nat) :
  ∃fd:FuncData,(∀(s:Shared) (u:Value),BindsTo s fd ⟨[u],[]⟩ [(x,u)])/\∀base:Heap,K.In base->base.Ns mainGlobals mg->FnOk l.prog w K mg base (CXs l.prog w) (3*n) fa fd [x] (spG p (Gk t n) j 1):=by
 obtain⟨D1,f,fd,a,F⟩:=T.def_ j d hj;have e:=hfa.symm.trans (mg_of Z g a);cases e;refine⟨fd,λ s u=>?_,λ base kb nb=>?_⟩
 ·obtain⟨oc,od,kV,doc,pm,an,cdv,ct,osl,efd,lk,hcd⟩:=F.ex;subst efd;have:=D1.bd kV doc pm an cdv ct [u] (by rw[hps];rfl);rw[hps] at this;exact .of_eq this
 ·have:=qGo (P:=l.prog) (w:=w) hset T kb nb n j d fa fd hj F;rw[hps] at this;exact this
def qGp (K:PySem.W.Frag):Sp:=λ vs H Q _=>∃(a:Addr) (ns:List Int),vs=[.ref a]/\SqL K H a (ns.map V.int)/\ns.length<=63/\∀H',Q (.bl true) H'
theorem q9l {H:Hp}:∀ns:List Int,RepL p H (ns.map D.int) (ns.map V.int)
 |[]=>rfl
 |n::ns=>⟨.int n,ns.map V.int,rfl,rfl,q9l ns⟩
theorem qCA {G:Nat->List D->R D}{j:Nat}(hK:p.K=K) (hm:∀ns:List Int,ns.length<=63->G j [.lst (ns.map D.int)] = .ok (.bl true)) (vs:List V) (H:Hp) (Q:VK) (E:XK) (h:qGp K vs H Q E):spG p G j 1 vs H Q E:=by
 obtain⟨a,ns,rfl,hS,hl,hQ⟩:=h;have e:=hm ns hl;refine⟨[.lst (ns.map D.int)],[],rfl,Jp,λ b hb=>absurd hb (by simp),⟨.ref a,[],rfl,⟨a,ns.map V.int,rfl,by rw[qIf,hK];exact hS,q9l ns⟩,rfl⟩,by rw[e];simp,λ r v H' er _ q=>?_,λ c C H' ex er _ _=>?_⟩
 ·rw[e] at er;cases er;cases (show v=_ from q);exact hQ H'
 ·rw[e] at er;cases er
theorem qCB {H:Hp}{s s':Shared}{e:Value}(h:CXs P w [] H s (λ _ _ _=>False) e s'):False:=by obtain⟨_,_,_,_,_,_,z,_⟩:=h;exact z
end
theorem walk {l:PySem.W.OpenLaw}{q:Program}{loose:List Str}{XP:(Str->Option Value)->Heap->Prop}{YP:World->Heap->Prop}{d:DefRec}{K:Params->PySem.W.Frag}(n:Nat) (hn:l.most=some 63) (hdf:d.params.defaults=[]) (hr:Room (3*n) callerA)
  (hY:∀(w:World) (h:Heap),YP w h->(K w.params).In h)
  (F:∀(w:World) (mg:Str->Option Value) (fa:Addr) (h:Heap),(K w.params).In h->h.Ns mainGlobals mg->mg d.name=some (.ref fa)->
   ∃fd:FuncData,(∀(s:Shared) (u:Value),BindsTo s fd ⟨[u],[]⟩ [(x,u)])/\∀base:Heap,(K w.params).In base->base.Ns mainGlobals mg->FnOk l.prog w (K w.params) mg base (CXs l.prog w) (3*n) fa fd [x] (qGp (K w.params))) :
  PySem.W.WalkO q loose XP YP l.row.toRowW d [] (λ f vs=>PySem.call f vs) :=
 L2.qFl (n:=63) (k:=3*n) (x:=x) (CX:=λ w=>CXs l.prog w) (sp:=λ w=>qGp (K w.params)) hn (by decide) hdf hr hY F (λ _ _ a ns hl _ hS=>⟨a,ns,rfl,hS,hl,λ _=>rfl⟩) λ _ _ _ _ _ z=>qCB z
end Snd
namespace SetT
open PySem PySem.SetTable
variable {l As:List Nat}{t:SetTable}{j m:Nat}{hs:List Int}{owner:Array (Option Nat)}
def onM (m:Nat):SetTable:={(default:SetTable) with mask:=m}
def startM (m:Nat) (h:Int):Probe:=(onM m).probeStart h
def advM (m:Nat) (p:Probe):Probe:=(onM m).advance p
theorem qKY (t:SetTable) (h:Int):t.probeStart h=startM t.mask h:=rfl
theorem adv_eq (t:SetTable) (p:Probe):t.advance p=advM t.mask p:=rfl
def path (m:Nat) (h:Int):Nat->Probe
 |0=>startM m h
 |n+1=>advM m (path m h n)
def lp (m:Nat) (h:Int):Nat->Nat×Nat
 |0=>(bits h % (m+1),bits h)
 |k+1=>leap m (lp m h k).1 (lp m h k).2
def cc (m:Nat) (h:Int):Nat->Nat
 |0=>0
 |k+1=>cc m h k+(runEnd m (lp m h k).1-(lp m h k).1)+1
theorem qCC (m i:Nat):runEnd m i-i<=9:=by unfold runEnd;split<;>lia
theorem q3Y (m i:Nat):i<=runEnd m i:=by unfold runEnd;split<;>lia
theorem q7h (m i:Nat) (h:i<=m):runEnd m i<=m:=by unfold runEnd;split<;>lia
theorem qJj (m:Nat) (h:Int):∀k,cc m h k<=10*k
 |0=>Qi _
 |k+1=>by have:=qJj m h k;have:=qCC m (lp m h k).1;simp only[cc];lia
def at_ (m:Nat) (h:Int) (k r:Nat):Probe:={j:=(lp m h k).1+r,more:=runEnd m (lp m h k).1-(lp m h k).1-r,i:=(lp m h k).1,perturb:=(lp m h k).2,dummy:=none}
theorem q3Z (m:Nat) (h:Int) (k:Nat) (hk:path m h (cc m h k)=at_ m h k 0):∀r,r<=runEnd m (lp m h k).1-(lp m h k).1->path m h (cc m h k+r)=at_ m h k r
 |0,_=>hk
 |r+1,hr=>by have ih:=q3Z m h k hk r (by lia);show advM m (path m h (cc m h k+r))=_;rw[ih];unfold advM SetTable.advance at_;simp only[onM];rw[if_pos (by lia)];rfl
theorem q5D (m:Nat) (h:Int):∀k,path m h (cc m h k)=at_ m h k 0
 |0=>rfl
 |k+1=>by have ih:=q3Z m h k (q5D m h k) (runEnd m (lp m h k).1-(lp m h k).1) (Qi _);show advM m (path m h (cc m h k+(runEnd m (lp m h k).1-(lp m h k).1)))=_;rw[ih];unfold advM SetTable.advance at_;simp only[onM];rw[if_neg (by lia)];rfl
theorem qGq (h:Int):bits h<2^64:=by
 unfold bits;have h1:0<=h % (2^64:Int):=Int.emod_nonneg _ (by decide);have h2:h % (2^64:Int)<2^64:=Int.emod_lt_of_pos _ (by decide);have:((2:Int)^64).toNat=2^64:=by decide
 lia
theorem qCD (m:Nat) (h:Int):∀k,(lp m h k).2=bits h / 32^k
 |0=>by simp[lp]
 |k+1=>by show (lp m h k).2 / 32=_;rw[qCD m h k,Nat.div_div_eq_div_mul,Nat.pow_succ]
theorem qCE (m:Nat) (h:Int) (k:Nat) (hk:13<=k):(lp m h k).2=0:=by
 rw[qCD];refine Nat.div_eq_of_lt (Qn (qGq h) ?_)
 calc 2^64<=32^13:=by decide
  _<=32^k:=QN (by decide) hk
theorem qJk (m:Nat) (h:Int):∀k,(lp m h k).1<=m
 |0=>by have:=Nat.mod_lt (bits h) (show m+1 > 0 by lia);show bits h % (m+1)<=m;lia
 |k+1=>by have:=Nat.mod_lt ((lp m h k).1*5+1+(lp m h k).2 / 32) (show m+1 > 0 by lia);show ((lp m h k).1*5+1+(lp m h k).2 / 32) % (m+1)<=m;lia
def stp (m i:Nat):Nat:=(i*5+1) % (m+1)
def its (m:Nat):Nat->Nat->Nat
 |0,i=>i
 |d+1,i=>its m d (stp m i)
theorem q5E (m:Nat):∀a b i,its m (a+b) i=its m b (its m a i)
 |0,b,i=>by rw[Nat.zero_add];rfl
 |a+1,b,i=>by rw[Nat.succ_add];exact q5E m a b (stp m i)
theorem qFB (m:Nat) (h:Int) (k:Nat) (hk:13<=k):∀d,(lp m h (k+d)).1=its m d (lp m h k).1
 |0=>rfl
 |d+1=>by rw[q5E m d 1,<-qFB m h k hk d];show (leap m (lp m h (k+d)).1 (lp m h (k+d)).2).1=stp m _;rw[qCE m h (k+d) (by lia)];rfl
def q2X (m:Nat):Prop:=m=7\/m=31\/m=127
def orb (m:Nat):Nat->Nat->List Nat
 |0,_=>[]
 |n+1,i=>i::orb m n (stp m i)
theorem q8d (m:Nat):∀n i e,e∈orb m n i->∃d,d<n/\its m d i=e
 |0,_,_,h=>nomatch h
 |n+1,i,e,h=>by
  rcases Qf.mp h with rfl|h
  ·exact⟨0,by lia,rfl⟩
  ·obtain⟨d,hd,q⟩:=q8d m n _ e h;exact⟨d+1,by lia,q⟩
theorem cyc0 (m:Nat) (g:q2X m):its m (m+1) 0=0/\∀e,e<=m->e∈orb m (m+1) 0:=by
 have key:∀m,its m (m+1) 0=0->(Qk (m+1)).all (λ e=>(orb m (m+1) 0).contains e)=true->its m (m+1) 0=0/\∀e,e<=m->e∈orb m (m+1) 0:=λ m h1 h2 =>
  ⟨h1,λ e he=>by have:=Qj.mp h2 e (Qw.mpr (by lia));exact List.contains_iff_mem.mp this⟩
 rcases g with rfl|rfl|rfl
 ·exact key 7 (by decide +kernel) (by decide +kernel)
 ·exact key 31 (by decide +kernel) (by decide +kernel)
 ·exact key 127 (by decide +kernel) (by decide +kernel)
theorem cyc (m:Nat) (g:q2X m) (i e:Nat) (hi:i<=m) (he:e<=m):∃d,d<=m/\its m d i=e:=by
 obtain⟨h0,hc⟩:=cyc0 m g;obtain⟨a,ha,qa⟩:=q8d m _ _ _ (hc i hi);obtain⟨b,hb,qb⟩:=q8d m _ _ _ (hc e he)
 by_cases hab:a<=b
 ·refine⟨b-a,by lia,?_⟩;rw[<-qa,<-q5E,show a+(b-a)=b by lia,qb]
 ·refine⟨b+(m+1)-a,by lia,?_⟩;rw[<-qa,<-q5E,show a+(b+(m+1)-a)=(m+1)+b by lia,q5E,h0,qb]
theorem qFC (m:Nat) (g:q2X m) (h:Int) (e:Nat) (he:e<=m):∃k,k<=m+13/\(lp m h k).1=e:=by obtain⟨d,hd,q⟩:=cyc m g (lp m h 13).1 e (qJk m h 13) he;exact⟨13+d,by lia,by rw[qFB m h 13 (by lia)];exact q⟩
theorem met (m:Nat) (g:q2X m) (h:Int) (e:Nat) (he:e<=m):∃n,n<=10*(m+13)/\(path m h n).j=e:=by obtain⟨k,hk,q⟩:=qFC m g h e he;refine⟨cc m h k,Qr (qJj m h k) (by lia),?_⟩;rw[q5D];show (lp m h k).1+0=e;lia
theorem q49 (m:Nat) (h:Int):∀n,(path m h n).dummy=none
 |0=>rfl
 |n+1=>by show (advM m (path m h n)).dummy=none;unfold advM SetTable.advance;split<;>exact q49 m h n
theorem q6d (m:Nat) (h:Int):∀n,(path m h n).j+(path m h n).more<=m/\(path m h n).i<=m
 |0=>by have h1:=qJk m h 0;have h2:=q7h m _ h1;have h3:=q3Y m (lp m h 0).1;show (lp m h 0).1+(runEnd m (lp m h 0).1-(lp m h 0).1)<=m/\(lp m h 0).1<=m;lia
 |n+1=>by
  have ih:=q6d m h n;show (advM m (path m h n)).j+(advM m (path m h n)).more<=m/\(advM m (path m h n)).i<=m;unfold advM SetTable.advance;split
  ·simp only;lia
  ·have h1:(leap m (path m h n).i (path m h n).perturb).1<=m:=by have:=Nat.mod_lt ((path m h n).i*5+1+(path m h n).perturb / 32) (show m+1 > 0 by lia);show ((path m h n).i*5+1+(path m h n).perturb / 32) % (m+1)<=m;lia
   have h2:=q7h m _ h1;have h3:=q3Y m (leap m (path m h n).i (path m h n).perturb).1;simp only[onM];lia
def Ris (l:List Nat):Prop:=l.Pairwise (· < ·)
theorem qEF (l:List Nat) (i d:Nat) (h:i<l.length):l.toArray.getD i d=l[i]:=by simp[Array.getD,h]
theorem Ris.lt (r:Ris l) {i k:Nat}(h:i<k) (hk:k<l.length):l[i]'(by lia)<l[k]:=Jc.mp r i k (by lia) hk h
theorem q6e (l:List Nat) (r:Ris l) (j:Nat):∀(fuel lo hi:Nat),hi-lo<2^fuel->lo<=hi->hi<=l.length->(∀i,i<lo->(h:i<l.length)->l[i]<j)->(∀i,hi<=i->(h:i<l.length)->j<=l[i])->
  below.go l.toArray j fuel lo hi<=l.length/\(∀i,i<below.go l.toArray j fuel lo hi->(h:i<l.length)->l[i]<j)/\(∀i,below.go l.toArray j fuel lo hi<=i->(h:i<l.length)->j<=l[i])
 |0,lo,hi,hf,hlh,hh,h1,h2=>by
  have e:lo=hi:=by simp at hf;lia
  subst e;exact⟨hh,h1,h2⟩
 |fuel+1,lo,hi,hf,hlh,hh,h1,h2=>by
  unfold below.go
  by_cases c:lo<hi
  ·rw[if_pos c];simp only;have hm:(lo+hi) / 2<l.length:=(by lia);rw[qEF l _ _ hm];have hp:2^(fuel+1)=2*2^fuel:=by rw[Nat.pow_succ];lia
   by_cases d:l[(lo+hi) / 2]<j
   ·rw[if_pos d];refine q6e l r j fuel _ hi (by lia) (by lia) hh (λ i hi' hl=>?_) h2
    by_cases e:i=(lo+hi) / 2
    ·subst e;exact d
    ·exact Nat.lt_trans (r.lt (show i<(lo+hi) / 2 by lia) hm) d
   ·rw[if_neg d];refine q6e l r j fuel lo _ (by lia) (by lia) (by lia) h1 (λ i hi' hl=>?_)
    by_cases e:i=(lo+hi) / 2
    ·subst e;lia
    ·have:=r.lt (show (lo+hi) / 2<i by lia) hl;lia
  ·rw[if_neg c];have e:lo=hi:=(by lia);subst e;exact⟨hh,h1,h2⟩
theorem q5t:∀n:Nat,n<2^n
 |0=>by decide
 |n+1=>by have:=q5t n;rw[Nat.pow_succ];lia
theorem q1K (l:List Nat) (r:Ris l) (j:Nat):below l.toArray j<=l.length/\(∀i,i<below l.toArray j->(h:i<l.length)->l[i]<j)/\(∀i,below l.toArray j<=i->(h:i<l.length)->j<=l[i]):=by
 unfold below;have e:l.toArray.size=l.length:=by simp
 rw[e];exact q6e l r j l.length 0 l.length (by have:=q5t l.length;lia) (by lia) (Qi _) (λ i h _=>by lia) (λ i h1 h2=>by lia)
theorem q27 (hp:t.place=l.toArray) (r:Ris l) {i:Nat}(h:l[i]? = some j):t.slot j = .live i:=by
 obtain⟨b1,b2,b3⟩:=q1K l r j;obtain⟨hi,e⟩:=Qd.mp h;have eb:below l.toArray j=i:=by
  by_cases c:below l.toArray j<i
  ·have:=b3 _ (Qi _) (by lia);have:=r.lt c hi;lia
  ·by_cases d:i<below l.toArray j
   ·have:=b2 i d hi;lia
   ·lia
 unfold slot;simp only[hp,eb];rw[if_pos (by simp[h])]
theorem q5u (hp:t.place=l.toArray) (hd:t.dummies=#[]) (h:j∉l):t.slot j = .empty:=by
 unfold slot;simp only[hp];rw[if_neg (λ q=>h ?_)]
 ·rw[hd,if_neg];unfold has;intro q;simp at q
 ·have q':l.toArray[below l.toArray j]? = some j:=by simpa using q
  have:l[below l.toArray j]? = some j:=by simpa using q'
  exact Qm this
theorem q31 {α:Type}(l:List α) (p:Nat) (x:α) (_hp:p<=l.length):insertAt l.toArray p x=(l.take p++x::l.drop p).toArray:=by unfold insertAt;apply Array.toList_inj.mp;simp;exact Jo (by simp)
abbrev Ent:=Nat×Int×Value
def slots (Z:List Ent):List Nat:=Z.map (·.1)
structure WF (t:SetTable) (Z:List Ent):Prop where
 place:t.place=(slots Z).toArray
 ris:Ris (slots Z)
 dum:t.dummies=#[]
 good:q2X t.mask
 le:∀z∈Z,z.1<=t.mask
 few:Z.length<=t.mask
 way:∀z∈Z,∃n,(path t.mask z.2.1 n).j=z.1/\∀k,k<n->(path t.mask z.2.1 k).j∈slots Z
theorem q3a:∀{a b:List Nat},a.Nodup->(∀x∈a,x∈b)->a.length<=b.length
 |[],_,_,_=>QM _
 |x::a,b,nd,h=>by
  have hx:=h x Qb;have nd':=QG.mp nd;have:=q3a (a:=a) (b:=b.erase x) nd'.2 λ y hy=>by have hne:y≠x:=λ q=>nd'.1 (q▸hy);exact (List.mem_erase_of_ne hne).mpr (h y (Qa _ hy))
  have e:=Jw hx;have hp:0<b.length:=List.length_pos_of_mem hx;simp only[Qu];lia
theorem q7i (l:List Nat) (m:Nat) (h:l.length<=m):∃e,e<=m/\e∉l:=by
 apply QS;intro q;have:=q3a (a:=Qk (m+1)) (b:=l) List.nodup_range λ x hx=>by apply QS;intro hn;exact q ⟨x,by have:=Qw.mp hx;lia,hn⟩
 rw[QK] at this;lia
theorem least {P:Nat->Prop}[DecidablePred P]:∀n,P n->∃m,m<=n/\P m/\∀k,k<m->¬P k:=by
 intro n
 induction n using Nat.strongRecOn with
 |ind n ih =>
  intro h
  by_cases c:∃k,k<n/\P k
  ·obtain⟨k,hk,p⟩:=c;obtain⟨m,h1,h2,h3⟩:=ih k hk p;exact⟨m,by lia,h2,h3⟩
  ·exact⟨n,Qi _,h,λ k hk p=>c ⟨k,hk,p⟩⟩
def q1m (m:Nat) (h:Int) (l:List Nat) (N:Nat):Prop:=(path m h N).j∉l/\∀k,k<N->(path m h k).j∈l
theorem q5v (g:q2X m) (h:Int) (l:List Nat) (hl:l.length<=m):∃N,N<=10*(m+13)/\q1m m h l N:=by obtain⟨e,he,hn⟩:=q7i l m hl;obtain⟨n,h1,h2⟩:=met m g h e he;obtain⟨N,h3,h4,h5⟩:=least (P:=λ n=>(path m h n).j∉l) n (by rw[h2];exact hn);exact⟨N,by lia,h4,λ k hk=>QS λ q=>h5 k hk q⟩
def Cand (m:Nat) (h:Int) (Z:List Ent) (k:Nat):Prop:=∃z∈Z,z.1=(path m h k).j/\z.2.1=h
theorem q9m {t:SetTable}{Z:List Ent}(wf:WF t Z) {h:Int}{hash:Nat->Int}(hh:∀i z,Z[i]? = some z->hash i=z.2.1) {N:Nat}(ff:q1m t.mask h (slots Z) N) :
  ∀fuel n,n<=N->N-n<fuel->
   (∃k i z,n<=k/\k<N/\Z[i]? = some z/\z.1=(path t.mask h k).j/\z.2.1=h/\(∀k',n<=k'->k'<k->¬Cand t.mask h Z k')/\probe.go t hash h fuel (path t.mask h n)=some (.candidate (path t.mask h k).j i (path t.mask h (k+1))))\/
   ((∀k',n<=k'->k'<N->¬Cand t.mask h Z k')/\probe.go t hash h fuel (path t.mask h n)=some (.empty (path t.mask h N).j none))
 |0,n,_,hf=>by lia
 |fuel+1,n,hn,hf=>by
  by_cases e:n=N
  ·subst e;refine .inr ⟨λ k' h1 h2=>by lia,?_⟩;unfold probe.go;rw[q5u wf.place wf.dum ff.1];simp only[q49]
  ·have hl:=ff.2 n (by lia);obtain⟨i,hi,ei⟩:=QX hl;have hs:(slots Z)[i]? = some (path t.mask h n).j:=(by rw[Ql hi,ei]);have hz:∃z,Z[i]? = some z/\z.1=(path t.mask h n).j:=by
    unfold slots at hs;rw[Qt] at hs;cases q:Z[i]? with
    |none=>rw[q] at hs;cases hs
    |some z=>rw[q] at hs;exact⟨z,rfl,QR.inj hs⟩
   obtain⟨z,hz,ez⟩:=hz;unfold probe.go;rw[q27 wf.place wf.ris hs];simp only[hh i z hz]
   by_cases c:z.2.1=h
   ·refine .inl ⟨n,i,z,Qi _,by lia,hz,ez,c,λ k' h1 h2=>by lia,?_⟩;rw[if_pos (by simpa using c)];rfl
   ·rw[if_neg (by simpa using c)];have nc:¬Cand t.mask h Z n:=by
     rintro⟨y,hy,e1,e2⟩;obtain⟨i',hi',ei'⟩:=QX hy;have hs':(slots Z)[i']? = some (path t.mask h n).j:=by unfold slots;rw[Qt,Ql hi',ei'];exact congrArg some e1
     have:i'=i:=by have q1:=q27 wf.place wf.ris hs';rw[q27 wf.place wf.ris hs] at q1;cases q1;rfl
     subst this;rw[Ql hi',ei'] at hz;cases hz;exact c e2
    rcases q9m wf hh ff fuel (n+1) (by lia) (by lia) with ⟨k,i2,z2,a1,a2,a3,a4,a5,a6,a7⟩|⟨a1,a2⟩
    ·refine .inl ⟨k,i2,z2,by lia,a2,a3,a4,a5,λ k' h1 h2=>?_,a7⟩
     by_cases q:k'=n
     ·subst q;exact nc
     ·exact a6 k' (by lia) h2
    ·refine .inr ⟨λ k' h1 h2=>?_,a2⟩
     by_cases q:k'=n
     ·subst q;exact nc
     ·exact a1 k' (by lia) h2
theorem qGr {Z:List Ent}(wf:WF t Z) {h:Int}{N:Nat}(ff:q1m t.mask h (slots Z) N) {z:Ent}(hz:z∈Z) (e:z.2.1=h):∃k,k<N/\z.1=(path t.mask h k).j:=by
 obtain⟨n,h1,h2⟩:=wf.way z hz;rw[e] at h1 h2;refine⟨n,?_,h1.symm⟩;apply QS;intro q
 by_cases c:n=N
 ·subst c;exact ff.1 (by rw[h1];exact List.mem_map_of_mem hz)
 ·exact ff.1 (h2 N (by lia))
def insZ (Z:List Ent) (p:Nat) (z:Ent):List Ent:=Z.take p++z::Z.drop p
theorem q6f {Z:List Ent}{p:Nat}{z y:Ent}:y∈insZ Z p z↔y=z\/y∈Z:=by
 unfold insZ;rw[Qq,Qf];have:(y∈Z)↔(y∈Z.take p\/y∈Z.drop p):=by rw[<-Qq,Jr]
 rw[this];constructor
 ·rintro (h|h|h)
  ·exact .inr (.inl h)
  ·exact .inl h
  ·exact .inr (.inr h)
 ·rintro (h|h|h)
  ·exact .inr (.inl h)
  ·exact .inl h
  ·exact .inr (.inr h)
theorem q5F (Z:List Ent) (p:Nat) (z:Ent):(insZ Z p z).Perm (z::Z):=by unfold insZ;refine List.perm_middle.trans ?_;rw[Jr]
theorem q2j {β:Type}(f:Ent->β) (Z:List Ent) (p:Nat) (z:Ent):(insZ Z p z).map f=(Z.map f).take p++f z::(Z.map f).drop p:=by unfold insZ;rw[Js,Qv,List.map_take,List.map_drop]
theorem qGs (r:Ris l) (hj:j∉l):Ris (l.take (below l.toArray j)++j::l.drop (below l.toArray j)):=by
 obtain⟨b1,b2,b3⟩:=q1K l r j;unfold Ris;rw[List.pairwise_append,QC];have ht:∀a∈l.take (below l.toArray j),a<j:=λ a ha=>by obtain⟨i,hi,e⟩:=QX ha;rw[List.getElem_take] at e;rw[List.length_take] at hi;rw[<-e];exact b2 i (by lia) (by lia)
 have hd:∀a∈l.drop (below l.toArray j),j<a:=λ a ha=>by obtain⟨i,hi,e⟩:=QX ha;rw[List.getElem_drop] at e;rw[List.length_drop] at hi;have:=b3 (below l.toArray j+i) (by lia) (by lia);rw[e] at this;have hne:j≠a:=λ q=>hj (q▸List.mem_of_mem_drop ha);lia
 refine⟨List.Pairwise.sublist (List.take_sublist _ _) r,⟨hd,List.Pairwise.sublist (List.drop_sublist _ _) r⟩,λ a ha b hb=>?_⟩;rcases Qf.mp hb with rfl|hb
 ·exact ht a ha
 ·exact Nat.lt_trans (ht a ha) (hd b hb)
theorem WF.insert {Z:List Ent}(wf:WF t Z) {h:Int}{x:Value}{N:Nat}(ff:q1m t.mask h (slots Z) N) (few:Z.length<t.mask) (pl:Bool) :
  WF {(t.put (path t.mask h N).j).1 with plain:=pl} (insZ Z (t.put (path t.mask h N).j).2 ((path t.mask h N).j,h,x)):=by
 have hb:=(q1K (slots Z) wf.ris (path t.mask h N).j).1;have ep:(t.put (path t.mask h N).j).2=below (slots Z).toArray (path t.mask h N).j:=by show below t.place _=_;rw[wf.place]
 refine⟨?_,?_,?_,wf.good,λ z hz=>?_,?_,λ z hz=>?_⟩
 ·show insertAt t.place (below t.place (path t.mask h N).j) (path t.mask h N).j=_;rw[ep,wf.place,q31 _ _ _ hb];unfold slots;rw[q2j]
 ·rw[ep];unfold slots;rw[q2j];exact qGs wf.ris ff.1
 ·show (if has t.dummies _ then _ else t.dummies)=#[];rw[wf.dum];split
  ·rename_i q;unfold has at q;simp at q
  ·rfl
 ·rcases q6f.mp hz with rfl|hz
  ·have:=q6d t.mask h N;show (path t.mask h N).j<=t.mask;lia
  ·exact wf.le z hz
 ·rw[(q5F _ _ _).length_eq,Qu];exact few
 ·have sub:∀a,a∈slots Z->a∈slots (insZ Z (t.put (path t.mask h N).j).2 ((path t.mask h N).j,h,x)):=λ a ha=>by obtain⟨y,hy,e⟩:=Qg.mp ha;exact Qg.mpr ⟨y,q6f.mpr (.inr hy),e⟩
  rcases q6f.mp hz with rfl|hz
  ·exact⟨N,rfl,λ k hk=>sub _ (ff.2 k hk)⟩
  ·obtain⟨n,h1,h2⟩:=wf.way z hz;exact⟨n,h1,λ k hk=>sub _ (h2 k hk)⟩
def Occ (owner:Array (Option Nat)) (j:Nat):Prop:=(owner.getD j (some 0)).isNone=false
theorem q7j (m:Nat) (h:Int) (owner:Array (Option Nat)):∀fuel k0,(∃K,k0<=K/\K<k0+fuel/\¬Occ owner (lp m h K).1)->(∀n,n<cc m h k0->Occ owner (path m h n).j)->
  ∃n,layClean.free m owner fuel (lp m h k0).1 (lp m h k0).2=some (path m h n).j/\¬Occ owner (path m h n).j/\∀k,k<n->Occ owner (path m h k).j
 |0,k0,⟨K,h1,h2,_⟩,_=>by lia
 |fuel+1,k0,⟨K,h1,h2,h3⟩,ho=>by
  unfold layClean.free;cases q:(Qk (runEnd m (lp m h k0).1+1-(lp m h k0).1)).find? (λ k=>(owner.getD ((lp m h k0).1+k) (some 0)).isNone) with
  |some r =>
   have hr:=List.find?_some q;have hm:=Qw.mp (List.mem_of_find?_eq_some q);have hge:=q3Y m (lp m h k0).1;have hp:=q3Z m h k0 (q5D m h k0) r (by lia);refine⟨cc m h k0+r,by rw[hp];rfl,?_,λ k hk=>?_⟩
   ·rw[hp];show ¬(owner.getD ((lp m h k0).1+r) (some 0)).isNone=false;rw[hr];simp
   ·by_cases c:k<cc m h k0
    ·exact ho k c
    ·obtain⟨r',rfl⟩:∃r',k=cc m h k0+r':=⟨k-cc m h k0,by lia⟩
     rw[q3Z m h k0 (q5D m h k0) r' (by lia)];show (owner.getD ((lp m h k0).1+r') (some 0)).isNone=false;have hlt:r'<r:=(by lia);rw[List.find?_eq_some_iff_append] at q;obtain⟨_,as,bs,e,hn⟩:=q;have hmem:r'∈as:=by
      have e1:(Qk (runEnd m (lp m h k0).1+1-(lp m h k0).1))[r']? = some r':=(by rw[Jx (by lia)]);have e2:(Qk (runEnd m (lp m h k0).1+1-(lp m h k0).1))[r]? = some r:=(by rw[Jx (by lia)]);rw[e] at e1 e2;have hl:as.length=r:=by have e3:(as++r::bs)[as.length]? = some r:=(by simp);have hlt2:as.length<(Qk (runEnd m (lp m h k0).1+1-(lp m h k0).1)).length:=(by rw[e];simp);rw[<-e,Jx (by simpa using hlt2)] at e3;exact QR.inj e3
      rw[QH (by lia)] at e1;exact Qm e1
     have:=hn r' hmem;simpa using this
  |none =>
   have hn:=List.find?_eq_none.mp q;have hge:=q3Y m (lp m h k0).1;have run:∀r,r<=runEnd m (lp m h k0).1-(lp m h k0).1->Occ owner ((lp m h k0).1+r):=λ r hr=>by have:=hn r (Qw.mpr (by lia));exact Bool.eq_false_iff.mpr this
   have hK:k0+1<=K:=by apply QS;intro z;have:K=k0:=(by lia);subst this;exact h3 (by have:=run 0 (by lia);simpa using this)
   refine q7j m h owner fuel (k0+1) ⟨K,hK,by lia,h3⟩ λ n hn'=>?_
   by_cases c:n<cc m h k0
   ·exact ho n c
   ·have e:cc m h (k0+1)=cc m h k0+(runEnd m (lp m h k0).1-(lp m h k0).1)+1:=rfl;obtain⟨r',rfl⟩:∃r',n=cc m h k0+r':=⟨n-cc m h k0,by lia⟩
    rw[q3Z m h k0 (q5D m h k0) r' (by lia)];exact run r' (by lia)
structure Laid (m:Nat) (hs:List Int) (owner:Array (Option Nat)) (As:List Nat):Prop where
 size:owner.size=m+1
 len:As.length=hs.length
 nd:As.Nodup
 own:∀(j q:Nat),owner[j]? = some (some q)↔As[q]? = some j
 way:∀(q:Nat) (h:Int) (j:Nat),hs[q]? = some h->As[q]? = some j->∃n,(path m h n).j=j/\∀k,k<n->(path m h k).j∈As
theorem Laid.le (L:Laid m hs owner As) (hj:j∈As):j<=m:=by obtain⟨q,hq⟩:=List.getElem?_of_mem hj;have:=(L.own j q).mpr hq;have:=(Array.getElem?_eq_some_iff.mp this).1;rw[L.size] at this;lia
theorem Laid.occ (L:Laid m hs owner As) (hj:j<=m):Occ owner j↔j∈As:=by
 have hlt:j<owner.size:=by rw[L.size];lia
 have e:owner.getD j (some 0)=owner[j]:=by simp[Array.getD,hlt]
 unfold Occ;rw[e];constructor
 ·intro h;cases q:owner[j] with
  |none=>rw[q] at h;cases h
  |some k=>exact Qm ((L.own j k).mp (by rw[Array.getElem?_eq_getElem hlt,q]))
 ·intro h;obtain⟨q,hq⟩:=List.getElem?_of_mem h;have:=(L.own j q).mpr hq;rw[Array.getElem?_eq_getElem hlt] at this;rw[QR.inj this];rfl
theorem qEG (m:Nat):Laid m [] (Array.replicate (m+1) none) []:=by
 refine⟨by simp,rfl,Jp,λ j q=>?_,λ q h j e=>by simp at e⟩;constructor
 ·intro e;rw[Array.getElem?_replicate] at e;split at e<;>simp at e
 ·intro e;simp at e
theorem qCF (g:q2X m) (L:Laid m hs owner As) (h:Int) (few:hs.length<=m) :
  ∃j,layClean.free m owner (turns m) (bits h % (m+1)) (bits h)=some j/\Laid m (hs++[h]) (owner.setIfInBounds j (some hs.length)) (As++[j]):=by
 obtain⟨e,he,hn⟩:=q7i As m (by rw[L.len];exact few);obtain⟨K,hK,eK⟩:=qFC m g h e he;obtain⟨n,f1,f2,f3⟩:=q7j m h owner (turns m) 0 ⟨K,QM _,by unfold turns;lia,by rw[eK,L.occ he];exact hn⟩ (λ n hn=>by simp[cc] at hn);have hj:(path m h n).j<=m:=by have:=q6d m h n;lia
 have hjn:(path m h n).j∉As:=λ z=>f2 ((L.occ hj).mpr z);refine⟨(path m h n).j,f1,by simp[L.size],by simp[L.len],?_,λ j q=>?_,λ q h' j e1 e2=>?_⟩
 ·rw[Qz];refine⟨L.nd,by simp,λ a ha b hb=>?_⟩;have:b=(path m h n).j:=by simpa using hb
  subst this;exact λ z=>hjn (z▸ha)
 ·by_cases c:j=(path m h n).j
  ·subst c;rw[Array.getElem?_setIfInBounds_self_of_lt (by rw[L.size];lia)];constructor
   ·intro z;have:hs.length=q:=(by simpa using z);subst this;rw[QU (by rw[L.len];exact Qi _),L.len];simp
   ·intro z
    by_cases d:q<As.length
    ·rw[QH d] at z;exact absurd (Qm z) hjn
    ·rw[QU (by lia)] at z;have:q-As.length=0:=by apply QS;intro y;rw[Je (by simp;lia)] at z;cases z
     have:=L.len;have:q=hs.length:=(by lia);subst this;rfl
  ·rw[Array.getElem?_setIfInBounds_ne (Ne.symm c),L.own];constructor
   ·intro z;rw[QH (Qd.mp z).1];exact z
   ·intro z
    by_cases d:q<As.length
    ·rw[QH d] at z;exact z
    ·rw[QU (by lia)] at z;have:j∈[(path m h n).j]:=Qm z;exact absurd (by simpa using this) c
 ·have hl:=L.len;have up:∀a,a∈As->a∈As++[(path m h n).j]:=λ a ha=>QB _ ha
  by_cases d:q<As.length
  ·rw[QH (by lia)] at e1;rw[QH d] at e2;obtain⟨n',w1,w2⟩:=L.way q h' j e1 e2;exact⟨n',w1,λ k hk=>up _ (w2 k hk)⟩
  ·have hq:q=As.length:=by have:=(Qd.mp e2).1;simp at this;lia
   subst hq;rw[QU (by lia)] at e1 e2;simp[hl] at e1 e2;subst e1 e2;exact⟨n,rfl,λ k hk=>up _ ((L.occ (by have:=q6d m h k;lia)).mp (f3 k hk))⟩
theorem q7k {m:Nat}(g:q2X m):∀(rest hs:List Int) (owner:Array (Option Nat)) (As:List Nat),Laid m hs owner As->hs.length+rest.length<=m->
  ∃owner' As',rest.foldl (λ (acc:Option (Array (Option Nat)×Nat)) h=>do
    let (owner,k) <-acc
    let j <-layClean.free m owner (turns m) (bits h % (m+1)) (bits h)
    pure (owner.setIfInBounds j (some k),k+1)) (some (owner,hs.length))=some (owner',hs.length+rest.length)/\Laid m (hs++rest) owner' As'
 |[],hs,owner,As,L,_=>⟨owner,As,rfl,by rw[Q2];exact L⟩
 |h::rest,hs,owner,As,L,hl=>by simp only[Qu] at hl;obtain⟨j,e,L'⟩:=qCF g L h (by lia);have:=q7k g rest (hs++[h]) _ _ L' (by simp;lia);obtain⟨owner',As',e2,L2⟩:=this;refine⟨owner',As',?_,by simpa using L2⟩;rw[List.foldl_cons];simp only[QA,Jd] at e2;simp only[bind,Option.bind,e,pure,Qu];rw[show hs.length+(rest.length+1)=hs.length+1+rest.length by lia];exact e2
theorem q3b (g:q2X m) (hs:List Int) (hl:hs.length<=m):∃owner As,layClean m hs.toArray=some owner/\Laid m hs owner As:=by obtain⟨owner,As,e,L⟩:=q7k g hs [] _ _ (qEG m) (by simpa using hl);refine⟨owner,As,?_,by simpa using L⟩;unfold layClean;rw[List.foldl_toArray];simp only[Q4,Nat.zero_add] at e;rw[e];rfl
def q1Y (m:Nat) (owner:Array (Option Nat)):List (Nat×Nat):=(Qk (m+1)).filterMap λ j=>(owner.getD j none).map (j,·)
theorem q18 (L:Laid m hs owner As) {q:Nat}:(j,q)∈q1Y m owner↔As[q]? = some j:=by
 unfold q1Y;rw[List.mem_filterMap];constructor
 ·rintro⟨j',h1,h2⟩;have hlt:j'<owner.size:=by rw[L.size];exact Qw.mp h1
  have e:owner.getD j' none=owner[j']:=by simp[Array.getD,hlt]
  rw[e] at h2;cases c:owner[j'] with
  |none=>rw[c] at h2;cases h2
  |some q' =>
   rw[c] at h2;have:(j',q')=(j,q):=(by simpa using h2);cases this;exact (L.own j q).mp (by rw[Array.getElem?_eq_getElem hlt,c])
 ·intro h;have hj:=L.le (Qm h);have hlt:j<owner.size:=by rw[L.size];lia
  refine⟨j,Qw.mpr (by lia),?_⟩;have e:owner.getD j none=owner[j]:=by simp[Array.getD,hlt]
  have:=(L.own j q).mpr h;rw[Array.getElem?_eq_getElem hlt] at this;rw[e,QR.inj this];rfl
theorem q5w (m:Nat) (owner:Array (Option Nat)):Ris ((q1Y m owner).map (·.1)):=by unfold Ris q1Y;rw[QI];refine List.Pairwise.filterMap _ (λ a a' hlt b hb b' hb'=>?_) Q5;obtain⟨q,_,rfl⟩:=Jm.mp hb;obtain⟨q',_,rfl⟩:=Jm.mp hb';exact hlt
theorem q7l (L:Laid m hs owner As):((q1Y m owner).map (·.2)).Perm (Qk hs.length):=by
 have nd:((q1Y m owner).map (·.2)).Nodup:=by have r:=q5w m owner;unfold Ris at r;rw[QI] at r;unfold List.Nodup;rw[QI];refine List.Pairwise.imp_of_mem (λ {a b} ha hb hlt=>?_) r;intro e;obtain⟨j,q⟩:=a;obtain⟨j',q'⟩:=b;simp only at e hlt;subst e;have h1:=(q18 L).mp ha;have h2:=(q18 L).mp hb;rw[h1] at h2;have:=QR.inj h2;lia
 rw[Jq nd List.nodup_range];intro q;rw[Qg,Qw];constructor
 ·rintro⟨⟨j,q'⟩,h,rfl⟩;have:=(Qd.mp ((q18 L).mp h)).1;rw[L.len] at this;exact this
 ·intro h;have hlt:q<As.length:=by rw[L.len];exact h
  exact⟨(As[q],q),(q18 L).mpr (Ql hlt),rfl⟩
theorem q2t {α β:Type}{f g:α->Option β}:∀{l:List α},(∀a∈l,f a=g a)->l.filterMap f=l.filterMap g
 |[],_=>rfl
 |a::l,h=>by rw[Q6,Q6,h a Qb,q2t λ b hb=>h b (Qa _ hb)]
theorem q6g {α:Type}(es:List α) (d:α):(Qk es.length).map (λ q=>es.getD q d)=es:=by
 apply List.ext_getElem
 ·simp
 ·intro i h1 h2;simp at h1 |-;rw[Ql h1];rfl
theorem q5G (t:SetTable) (es:List (Int×Value)) (wanted:Nat) (g:q2X (sizeAbove wanted-1)) (few:es.length<=sizeAbove wanted-1) :
  ∃t' order Z',t.relaid (es.toArray.map (·.1)) wanted=some (t',order)/\WF t' Z'/\order.filterMap (es.toArray[·]?)=(Z'.map (·.2)).toArray/\(Z'.map (·.2)).Perm es/\
   t'.mask=sizeAbove wanted-1/\t'.led=t.led/\t'.plain=t.plain:=by
 obtain⟨owner,As,e,L⟩:=q3b g (es.map (·.1)) (by rw[Qe];exact few);have hl:(es.map (·.1)).length=es.length:=Qe _
 let d:Int×Value:=(0,Value.none)
 let Z':List Ent:=(q1Y (sizeAbove wanted-1) owner).map λ p=>(p.1,es.getD p.2 d)
 have hlt:∀p∈q1Y (sizeAbove wanted-1) owner,p.2<es.length:=λ p hp=>by have:=(Qd.mp ((q18 L).mp hp)).1;rw[L.len,hl] at this;exact this
 have z1:slots Z'=(q1Y (sizeAbove wanted-1) owner).map (·.1):=by show ((q1Y (sizeAbove wanted-1) owner).map λ p=>(p.1,es.getD p.2 d)).map (·.1)=_;rw[Jg];rfl
 have z2:Z'.map (·.2)=((q1Y (sizeAbove wanted-1) owner).map (·.2)).map (λ q=>es.getD q d):=by show ((q1Y (sizeAbove wanted-1) owner).map λ p=>(p.1,es.getD p.2 d)).map (·.2)=_;rw[Jg,Jg];rfl
 have zp:(Z'.map (·.2)).Perm es:=by rw[z2];refine ((q7l L).map _).trans ?_;rw[hl,q6g]
 have zl:Z'.length=es.length:=by have:=zp.length_eq;rwa [Qe] at this
 refine⟨{mask:=sizeAbove wanted-1,place:=((q1Y (sizeAbove wanted-1) owner).map (·.1)).toArray,dummies:=#[],finger:=t.finger,led:=t.led,moves:=t.movedTo (sizeAbove wanted-1),plain:=t.plain},
  ((q1Y (sizeAbove wanted-1) owner).map (·.2)).toArray,Z',?_,?_,?_,zp,?_,?_,?_⟩
 ·show laid (sizeAbove wanted-1) t.finger (t.movedTo (sizeAbove wanted-1)) t.led t.plain (es.toArray.map (·.1))=_;unfold laid;rw[show es.toArray.map (·.1)=(es.map (·.1)).toArray by simp,e];rfl
 ·refine⟨?_,?_,rfl,g,λ z hz=>?_,by rw[zl];exact few,λ z hz=>?_⟩
  ·rw[z1]
  ·rw[z1];exact q5w _ _
  ·obtain⟨p,hp,rfl⟩:=Qg.mp hz;exact L.le (Qm ((q18 L).mp (show (p.1,p.2)∈_ from hp)))
  ·obtain⟨p,hp,rfl⟩:=Qg.mp hz;have ha:=(q18 L).mp (show (p.1,p.2)∈_ from hp);have hq:=hlt p hp;have he:(es.map (·.1))[p.2]? = some (es.getD p.2 d).1:=by rw[Qt,Ql hq];simp[QY,hq]
   obtain⟨n,w1,w2⟩:=L.way p.2 _ p.1 he ha;refine⟨n,w1,λ k hk=>?_⟩;rw[z1];obtain⟨q,hq'⟩:=List.getElem?_of_mem (w2 k hk);exact Qg.mpr ⟨(_,q),(q18 L).mpr hq',rfl⟩
 ·rw[z2];apply Array.toList_inj.mp;simp only[Array.toList_filterMap];show List.filterMap (λ x=>es.toArray[x]?) ((q1Y (sizeAbove wanted-1) owner).map (·.2))=_;refine (q2t (g:=some ∘ λ q=>es.getD q d) λ q hq=>?_).trans (by rw[List.filterMap_eq_map]);obtain⟨p,hp,rfl⟩:=Qg.mp hq;have:=hlt p hp;simp[QY,this]
 ·rfl
 ·rfl
 ·rfl
theorem WF.size {Z:List Ent}(wf:WF t Z):t.place.size=Z.length:=by rw[wf.place];simp[slots]
theorem WF.fill {Z:List Ent}(wf:WF t Z):t.fill=Z.length:=by unfold SetTable.fill;rw[wf.size,wf.dum];rfl
end SetT
namespace Snd
open PySem PySem.Spec PySem.W PyProof.Rows L2 Ev SetT
def Ents (h:Heap) (Z:List Ent) (ds:List D):Prop:=Z.length=ds.length/\∀(i:Nat) (z:Ent) (d:D),Z[i]? = some z->ds[i]? = some d->Dv h d z.2.2/\hv d=z.2.1/\plN 8 d=true/\q02 d=true
structure SetIn (h:Heap) (a:Addr) (Z:List Ent) (t:SetTable) (ep:Nat):Prop where
 obj:∃o,h.get? a=some o/\o.ExactSet/\o.data = .set (Z.map (·.2)).toArray ep t
 wf:WF t Z
 plain:t.plain=true
theorem SetIn.fits {h:Heap}{a:Addr}{Z:List Ent}{t:SetTable}{ep:Nat}(S:SetIn h a Z t ep):t.fits (Z.map (·.2)).toArray.size=true:=by unfold SetTable.fits;rw[S.wf.size,S.wf.fill];have:=S.wf.few;simp[this]
section
variable {prog:Program}{w:World}{A:Around}{E:Value->Shared->Prop}{s:Shared}{a:Addr}{Z:List Ent}{t:SetTable}{ep:Nat}{ds:List D}{x:Value}{d:D}
theorem Ents.at {h:Heap}(e:Ents h Z ds) {i:Nat}{z:Ent}(hz:Z[i]? = some z):∃d,ds[i]? = some d/\Dv h d z.2.2/\hv d=z.2.1/\plN 8 d=true/\q02 d=true:=by
 have hi:=(Qd.mp hz).1;have hi2:i<ds.length:=by rw[<-e.1];exact hi
 exact⟨ds[i],by simp[hi2],e.2 i z ds[i] hz (by simp[hi2])⟩
theorem q1F {Q:(Array (Int×Value)×Nat×SetTable)->Shared->Prop}(S:SetIn s.heap a Z t ep) (h:Q ((Z.map (·.2)).toArray,ep,t) s):wpAny (model prog w) A (setState a) Q E s:=by obtain⟨o,ho,_,hd⟩:=S.obj;exact wpAny_setState_of ho hd S.fits h
theorem qEH (wf:WF t Z):t.gaveWay=false:=by unfold SetTable.gaveWay;rcases wf.good with h|h|h<;>rw[h]<;>rfl
theorem if2 {α:Type}{M:Model}{c:Prop}[Decidable c] {a b:Sem α}{Q:α->Shared->Prop}(h1:c->wpAny M A a Q E s) (h2:¬c->wpAny M A b Q E s):wpAny M A (if c then a else b) Q E s:=by
 by_cases k:c
 ·rw[if_pos k];exact h1 k
 ·rw[if_neg k];exact h2 k
theorem qEI {stored:List Value}{Q:Bool->Shared->Prop}(px:plN 8 d=true) (hx:q02 d=true) (Dx:Dv s.heap d x) (hs:∀y∈stored,∃e,Dv s.heap e y/\plN 8 e=true/\q02 e=true) (h:Q false s):wpAny (model prog w) A (searchCouldBeSeen x stored) Q E s:=by
 unfold searchCouldBeSeen;refine wpAny_bind ?_;refine wpAny_forIn_list _ (λ rest r s'=>r.1=none/\s'=s/\∀y∈rest,∃e,Dv s.heap e y/\plN 8 e=true/\q02 e=true) _ ?_ ?_ _ _ ⟨rfl,rfl,hs⟩
 ·rintro v rest r s' ⟨hr,rfl,hall⟩;obtain⟨e,z,pe,he⟩:=hall v Qb;have tl:=λ u hu'=>hall u (Qa _ hu');refine if2 (λ _=>wpAny_pure ⟨rfl,rfl,tl⟩) λ _=>?_
  ·refine wpAny_bind (qBU 8 8 (Qi _) px hx Dx ?_);simp only[Bool.not_true,QL,if_false];refine wpAny_bind (qBU 8 8 (Qi _) pe he z ?_);simp only[Bool.not_true,QL,if_false];refine wpAny_bind (q7N 8 8 (Qi _) px hx Dx ?_);simp only[QL,if_false];refine wpAny_bind (q7N 8 8 (Qi _) pe he z ?_);simp only[QL,if_false];exact wpAny_pure ⟨rfl,rfl,tl⟩
 ·rintro⟨r1,r2⟩ s' ⟨hr,rfl,_⟩;simp only at hr;subst hr;exact wpAny_pure h
theorem if3 {α:Type}{M:Model}{c:Prop}[Decidable c] {m:Sem Bool}{a b:Sem α}{Q:α->Shared->Prop}(hm:∀Q':Bool->Shared->Prop,Q' false s->wpAny M A m Q' E s) (h:wpAny M A b Q E s):wpAny M A (if c then m >>= λ z=>if z=true then a else b else b) Q E s :=
 if2 (λ _=>wpAny_bind (hm _ (by simp only[QL,if_false];exact h))) λ _=>h
def Tups (ds:List D):Prop:=∀d∈ds,∃l,d = .tup l
theorem q5H (S:SetIn s.heap a Z t ep) (en:Ents s.heap Z ds) (tu:Tups ds) (px:plN 8 d=true) (hx:q02 d=true) (Dx:Dv s.heap d x) (hu:A.units+8<cLine) {N:Nat}(ff:q1m t.mask (hv d) (slots Z) N) {Q:SetFound->Shared->Prop}
  (hy:d∈ds->Q (.there none) s) (hq:d∉ds->Q (.free (path t.mask (hv d) N).j false) s) (hN:N<=10*(t.mask+13)) :
  ∀(fuel n:Nat) (st:Option SetTable.Probe),st.getD (t.probeStart (hv d))=path t.mask (hv d) n->n<=N->N-n<fuel->(∀k,k<n->∀(i:Nat) (z:Ent),Z[i]? = some z->ds[i]? = some d->z.1=(path t.mask (hv d) k).j->False)->
   wpAny (model prog w) A (setSearchFrom a x (hv d) true fuel st) Q E s
 |0,n,_,_,_,hf,_=>by lia
 |fuel+1,n,st,hst,hn,hf,hno=>by
  unfold setSearchFrom;refine wpAny_bind (q1F S ?_);dsimp only;rw[qEH S.wf,hst];simp only[QL,if_false];have hh:∀(i:Nat) (z:Ent),Z[i]? = some z->(((Z.map (·.2)).toArray[i]?.map (·.1)).getD 0)=z.2.1:=λ i z hz=>by simp[hz]
  generalize hg:SetTable.probe t _ (hv d) (path t.mask (hv d) n)=g;rcases q9m S.wf hh ff (10*SetTable.turns t.mask) n hn (by unfold SetTable.turns;lia) with ⟨k,i,z,h1,h2,h3,h4,h5,h6,h7⟩|⟨h1,h2⟩
  ·have hg':=hg.symm.trans h7;subst hg';dsimp only;obtain⟨e,e1,e2,e3,e4,e5⟩:=en.at h3;have hes:(Z.map (·.2)).toArray[i]? = some z.2:=(by simp[h3]);refine if3 (λ Q' hq'=>qEI px hx Dx (λ y hy'=>?_) hq') ?_
   ·simp only[Qg] at hy';obtain⟨y',hy1,rfl⟩:=hy';have hm:y'∈(Z.map (·.2)).toArray:=(Array.mem_filter.mp (Array.mem_def.mpr hy1)).1;have hm2:y'∈Z.map (·.2):=(by simpa using hm);obtain⟨zz,hz1,rfl⟩:=Qg.mp hm2;obtain⟨i',hi',ei'⟩:=QX hz1;obtain⟨f,_,f2,f3,f4,f5⟩:=en.at (i:=i') (z:=zz) (by rw[Ql hi',ei']);exact⟨f,f2,f4,f5⟩
   rw[hes];dsimp only;refine wpAny_bind (wpAny_holding (q2S 8 (A:=A) e4 px e2 Dx hu prog w E _ ?_));refine wpAny_bind (q1F S ?_)
   by_cases c:e=d
   ·subst c;rw[(q0T e5 hx).mpr rfl];exact wpAny_pure (hy (Qm e1))
   ·have ne:eqb e d=false:=by
     cases q:eqb e d with
     |false=>rfl
     |true=>exact absurd ((q0T e5 hx).mp q) c
    rw[ne];dsimp only;rw[if_neg (by decide)];have sm:t.sameMemory t.moves t.mask=some true:=(by unfold SetTable.sameMemory;simp);rw[sm];have hs:(slots Z)[i]? = some (path t.mask (hv d) k).j:=(by unfold slots;rw[Qt,h3];exact congrArg some h4);have sl:=q27 S.wf.place S.wf.ris hs;dsimp only;rw[if_pos rfl,sl];dsimp only;rw[hes];dsimp only;obtain⟨l,rfl⟩:=tu e (Qm e1);obtain⟨b,us,eb,x1,x2⟩:=e2;rw[eb];refine wpAny_bind (wpAny_isSame_ref_self (wpAny_bind (wpAny_pure ?_)));rw[if_pos rfl];dsimp only;rw[if_neg (by decide)];refine q5H S en tu px hx Dx hu ff hy hq hN fuel (k+1) _ rfl (by lia) (by lia) λ k' hk' i' z' hz' hd' ez'=>?_;have hz:=en.2 i' z' d hz' hd'
    by_cases c1:k'<n
    ·exact hno k' c1 i' z' hz' hd' ez'
    ·by_cases c2:k'=k
     ·subst c2;have hs':(slots Z)[i']? = some (path t.mask (hv d) k').j:=(by unfold slots;rw[Qt,hz'];exact congrArg some ez');have q1:=q27 S.wf.place S.wf.ris hs';rw[sl] at q1;cases q1;rw[e1] at hd';exact c (QR.inj hd')
     ·exact h6 k' (by lia) (by lia) ⟨z',Qm hz',ez',hz.2.1.symm⟩
  ·have hg':=hg.symm.trans h2;subst hg';dsimp only;refine wpAny_pure (hq λ hm=>?_);obtain⟨i,hi,ei⟩:=QX hm;have hi2:i<Z.length:=(by rw[en.1];exact hi);have hdi:ds[i]? = some d:=(by rw[Ql hi,ei]);have hzi:Z[i]? = some Z[i]:=(by simp[hi2]);have hz:=en.2 i Z[i] d hzi hdi;obtain⟨k,k1,k2⟩:=qGr S.wf ff (QT hi2) hz.2.1.symm
   by_cases c:k<n
   ·exact hno k c i _ hzi hdi k2
   ·exact h1 k (by lia) k1 ⟨_,QT hi2,k2,hz.2.1.symm⟩
end
end Snd
namespace Snd
open PySem PySem.Spec PySem.W PyProof.Rows L2 Ev SetT
variable {h:Heap}{Z:List Ent}
def Rl (h:Heap) (e:Int×Value) (d:D):Prop:=Dv h d e.2/\hv d=e.1/\plN 8 d=true/\q02 d=true
def Prs (h:Heap) (P:List ((Int×Value)×D)):Prop:=∀p∈P,Rl h p.1 p.2
theorem Prs.ents {P:List ((Int×Value)×D)}(q:Prs h P) (e:P.map (·.1)=Z.map (·.2)):Ents h Z (P.map (·.2)):=by
 have hl:P.length=Z.length:=by have:=congrArg List.length e;simpa using this
 refine⟨by simp[hl],λ i z d hz hd=>?_⟩;rw[Qt] at hd;cases hp:P[i]? with
 |none=>rw[hp] at hd;cases hd
 |some p =>
  rw[hp] at hd;have e1:p.2=d:=QR.inj hd;have e2:(P.map (·.1))[i]? = some p.1:=by rw[Qt,hp];rfl
  rw[e,Qt,hz] at e2;have e3:z.2=p.1:=QR.inj e2;have:=q p (Qm hp);rw[<-e3,e1] at this;exact this
theorem q5I {α β:Type}(f:α->β) {l m:List β}(p:l.Perm m):∀P:List α,P.map f=m->∃P':List α,P'.Perm P/\P'.map f=l:=by
 induction p with
 |nil=>exact λ P e=>⟨P,.refl _,e⟩
 |cons x _ ih =>
  intro P e;cases P with
  |nil=>cases e
  |cons y P =>
   simp only[Qv,List.cons.injEq] at e;obtain⟨P',p1,p2⟩:=ih P e.2;exact⟨y::P',p1.cons y,by rw[Qv,e.1,p2]⟩
 |swap x y l =>
  intro P e
  match P,e with
  |u::v::P,e =>
   simp only[Qv,List.cons.injEq] at e;exact⟨v::u::P,.swap _ _ _,by simp[e.1,e.2.1,e.2.2]⟩
 |trans _ _ ih1 ih2 =>
  intro P e;obtain⟨P1,p1,e1⟩:=ih2 P e;obtain⟨P2,p2,e2⟩:=ih1 P1 e1;exact⟨P2,p2.trans p1,e2⟩
structure SetD (M:D->Value->Prop) (h₀ h:Heap) (a:Addr) (ds:List D) (led:Bool):Prop where
 ex:∃Z t ep P,SetIn h a Z t ep/\Prs h₀ P/\P.map (·.1)=Z.map (·.2)/\(P.map (·.2)).Perm ds/\t.tooFull=false/\t.led=led/\∀p∈P,M p.2 p.1.2
 kp:∀b o,h₀.get? b=some o->h.get? b=some o
 nw:h₀.get? a=none
theorem Prs.keep {h':Heap}{P:List ((Int×Value)×D)}(q:Prs h P) (k:∀b o,h.get? b=some o->h'.get? b=some o):Prs h' P:=λ p hp=>let ⟨r1,r2⟩:=q p hp;⟨(q57 k).1 _ _ r1,r2⟩
theorem q9n {h₀ h':Heap}{a:Addr}(kp:∀b o,h₀.get? b=some o->h.get? b=some o) (nw:h₀.get? a=none) (k:Heap.SameBut a h h'):∀b o,h₀.get? b=some o->h'.get? b=some o:=λ b o e=>by rw[k.2 b (λ c=>by subst c;rw[nw] at e;cases e)];exact kp b o e
section
variable {prog:Program}{w:World}{A:Around}{E:Value->Shared->Prop}{s:Shared}{a:Addr}{ds:List D}{x:Value}{d:D}{led:Bool}
theorem q5x {m n:Nat}(g:q2X m) (h1:n*5≥m*3) (h2:(n-1)*5<m*3) (h3:n<=64):q2X (SetTable.sizeAbove (SetTable.grown n)-1)/\n<=SetTable.sizeAbove (SetTable.grown n)-1/\n*5<(SetTable.sizeAbove (SetTable.grown n)-1)*3:=by
 rcases g with g|g|g
 ·have:n=5:=by lia
  subst this;unfold q2X;decide
 ·have:n=19:=by lia
  subst this;unfold q2X;decide
 ·lia
theorem q4m {Z':List Ent}{t t':SetTable}{ep:Nat}(S:SetIn s.heap a Z t ep) (wf:WF t' Z') (pl:t'.plain=true) (hl:Z'.length<=64) {Q:Unit->Shared->Prop}
  (h:∀h',Heap.SameBut a s.heap h'->SetIn h' a Z' t' (ep+1)->Q () {s with heap:=h'}):wpAny (model prog w) A (storeSet a (Z'.map (·.2)).toArray t') Q E s:=by
 obtain⟨o,ho,hx,hd⟩:=S.obj;have hg:(s.heap.update a (Obj.putSet (Z'.map (·.2)).toArray t')).get? a=some {o with data:= .set (Z'.map (·.2)).toArray (ep+1) t'}:=by have:=Heap.get?_update_self (Obj.putSet (Z'.map (·.2)).toArray t') ho (by rw[putSet_of _ t' hd];rfl);rw[putSet_of _ t' hd] at this;exact this
 refine wpAny_storeSet_of ho hd (h _ (Heap.SameBut.update s.heap a _) ⟨⟨_,hg,hx,rfl⟩,wf,pl⟩) ?_;rw[sizeLine_eq];simp;lia
theorem qEJ {t:SetTable}{ep n:Nat}(S:SetIn s.heap a Z t ep) (hn:n=Z.length) (g:q2X (SetTable.sizeAbove (SetTable.grown n)-1)) (few:n<=SetTable.sizeAbove (SetTable.grown n)-1) (hl:n<=64) {Q:Unit->Shared->Prop}
  (h:∀h' Z' t',Heap.SameBut a s.heap h'->SetIn h' a Z' t' (ep+1)->(Z'.map (·.2)).Perm (Z.map (·.2))->t'.mask=SetTable.sizeAbove (SetTable.grown n)-1->t'.led=t.led->Q () {s with heap:=h'}):wpAny (model prog w) A (setRelay a (SetTable.grown n)) Q E s:=by
 obtain⟨t',order,Z',r1,r2,r3,r4,r5,r6,r7⟩:=q5G t (Z.map (·.2)) (SetTable.grown n) g (by rw[Qe,<-hn];exact few);unfold setRelay;refine wpAny_bind (q1F S ?_);dsimp only;have hs:¬(SetTable.sizeAbove (SetTable.grown n) > sizeLine):=by rw[sizeLine_eq];rcases g with g|g|g<;>lia
 rw[if_neg hs];refine wpAny_bind ?_;rw[r1];have hz:Z'.length=Z.length:=by have:=r4.length_eq;simpa using this
 change wpAny _ _ (if ((order.filterMap ((Z.map (·.2)).toArray[·]?)).size != (Z.map (·.2)).toArray.size)=true then (unsupported "internal:set-table-lost-an-element" >>= λ _=>pure (order.filterMap ((Z.map (·.2)).toArray[·]?),t')) else pure (order.filterMap ((Z.map (·.2)).toArray[·]?),t')) _ _ _;rw[r3,if_neg (by simp[hz])];exact wpAny_pure (q4m S r2 (by rw[r7];exact S.plain) (by lia) λ h' k S'=>h h' Z' t' k S' r4 r5 r6)
end
end Snd
namespace Snd
open PySem PySem.Spec PySem.W PyProof.Rows L2 Ev SetT
section
variable {prog:Program}{w:World}{A:Around}{E:Value->Shared->Prop}{s:Shared}{a:Addr}{ds:List D}{x:Value}{d:D}{led:Bool}{h₀:Heap}{M:D->Value->Prop}
theorem q7m (t:SetTable) (j:Nat) (h:t.plain=true):({(t.put j).1 with plain:=true}:SetTable)=(t.put j).1:=by obtain⟨a,b,c,e,f,g,p⟩:=t;cases h;rfl
theorem q6h (S:SetD M h₀ s.heap a ds led) (tu:Tups (d::ds)) (px:plN 8 d=true) (hx:q02 d=true) (Dx0:Dv h₀ d x) (mx:M d x) (hu:A.units+8<cLine) (hl:ds.length<64) {Q:Bool->Shared->Prop}
  (hy:d∈ds->Q false s) (hq:d∉ds->∀h',Heap.SameBut a s.heap h'->SetD M h₀ h' a (d::ds) led->Q true {s with heap:=h'}):wpAny (model prog w) A (setAddHashed a x (hv d)) Q E s:=by
 obtain⟨⟨Z,t,ep,P,S,pr,e1,e2,tf,le,mm⟩,kp,nw⟩:=S;have Dx:=(q57 kp).1 _ _ Dx0;have en:=(pr.keep kp).ents e1;have tu':Tups (P.map (·.2)):=λ e he=>tu e (Qa _ (e2.mem_iff.mp he));have hlen:Z.length=ds.length:=by have h1:=congrArg List.length e1;have h2:=e2.length_eq;simp at h1 h2;lia
 have tf':Z.length*5<t.mask*3:=by have:=tf;unfold SetTable.tooFull at this;rw[S.wf.fill] at this;simpa using this
 obtain⟨N,n1,n2⟩:=q5v S.wf.good (hv d) (slots Z) (by have:=S.wf.few;simpa[slots] using this);have hm:t.mask<=127:=by rcases S.wf.good with h|h|h<;>lia
 obtain⟨l,rfl⟩:=tu d Qb;unfold setAddHashed setAddHashedIn;refine wpAny_holding (wpAny_bind (q1F S ?_));dsimp only;have bs:byScan x (Z.map (·.2)).toArray=false:=by obtain⟨b,us,rfl,_⟩:=Dx;rfl
 rw[bs];simp only[QL,if_false];unfold setSearch;refine wpAny_bind (q5H S en tu' px hx Dx hu n2 (λ hm=>?_) (λ hm=>?_) n1 100000 0 none rfl (QM _) (by lia) (λ k hk=>by lia))
 ·exact wpAny_pure (hy (e2.mem_iff.mp hm))
 ·dsimp only;refine wpAny_bind (q1F S ?_);dsimp only;rw[show (t.put (path t.mask (hv (.tup l)) N).j).1.plain=true from S.plain];rw[if_pos rfl];refine wpAny_bind (qG2 8 8 (Qi _) px hx Dx ?_);rw[if_pos rfl];generalize hz:(path t.mask (hv (.tup l)) N).j=j;have wf:=S.wf.insert (x:=x) n2 (by have:=S.wf.good;rcases this with h|h|h<;>lia) true;rw[q7m _ _ S.plain] at wf;rw[hz] at wf;have hp:(t.put j).2<=Z.length:=by have:=(q1K (slots Z) S.wf.ris j).1;show SetTable.below t.place j<=_;rw[S.wf.place];simpa[slots] using this
  have ei:SetTable.insertAt (Z.map (·.2)).toArray (t.put j).2 (hv (.tup l),x)=((insZ Z (t.put j).2 (j,hv (.tup l),x)).map (·.2)).toArray:=by rw[q31 _ _ _ (by simpa using hp),q2j]
  have hlz:(insZ Z (t.put j).2 (j,hv (.tup l),x)).length=Z.length+1:=by have:=(q5F Z (t.put j).2 (j,hv (.tup l),x)).length_eq;simpa using this
  rw[ei]
  let P':List ((Int×Value)×D):=P.take (t.put j).2++((hv (.tup l),x),.tup l)::P.drop (t.put j).2
  have pp:P'.Perm (((hv (.tup l),x),.tup l)::P):=by refine List.perm_middle.trans (.cons _ ?_);rw[Jr]
  have q1:P'.map (·.1)=(insZ Z (t.put j).2 (j,hv (.tup l),x)).map (·.2):=by rw[q2j,<-e1];simp[P',List.map_take,List.map_drop]
  have q2:(P'.map (·.2)).Perm (.tup l::ds):=List.Perm.trans (pp.map (λ p=>p.2)) (List.Perm.trans (by rw[Qv]) (e2.cons (D.tup l)));have pr':Prs h₀ P':=λ p hp'=>by
   rcases Qf.mp (pp.mem_iff.mp hp') with h|h
   ·subst h;exact⟨Dx0,rfl,px,hx⟩
   ·exact pr p h
  have mm':∀p∈P',M p.2 p.1.2:=λ p hp'=>by
   rcases Qf.mp (pp.mem_iff.mp hp') with h|h
   ·subst h;exact mx
   ·exact mm p h
  have hno:D.tup l∉ds:=λ h=>hm (e2.mem_iff.mpr h);refine wpAny_bind (q4m S wf S.plain (by lia) λ h' k S'=>?_);have kp2:=q9n kp nw k;have hf:(t.put j).1.tooFull=decide ((Z.length+1)*5≥t.mask*3):=by unfold SetTable.tooFull;rw[wf.fill,hlz];rfl
  by_cases c:(Z.length+1)*5≥t.mask*3
  ·rw[if_pos (by rw[hf];simpa using c)];have hsz:(Z.map (·.2)).toArray.size+1=Z.length+1:=(by simp);obtain⟨g1,g2,g3⟩:=q5x S.wf.good c (by simpa using tf') (by lia);rw[hsz];refine wpAny_bind (qEJ S' hlz.symm g1 g2 (by lia) λ h2 Z2 t2 k2 S2 p2 m2 l2=>?_);obtain⟨P2,o1,o2⟩:=q5I (·.1) p2 P' q1;refine wpAny_pure (hq hno h2 (k.trans k2) ⟨⟨Z2,t2,_,P2,S2,λ p hp'=>pr' p (o1.mem_iff.mp hp'),o2,List.Perm.trans (o1.map (λ p=>p.2)) q2,?_,?_,λ p hp'=>mm' p (o1.mem_iff.mp hp')⟩,q9n kp2 nw k2,nw⟩)
   ·unfold SetTable.tooFull;rw[S2.wf.fill,m2];have hz2:Z2.length=Z.length+1:=(by have:=p2.length_eq;simp[hlz] at this;lia);rw[hz2];simpa using g3
   ·rw[l2];exact le
  ·rw[if_neg (by rw[hf];simpa using c)];exact wpAny_pure (hq hno h' k ⟨⟨_,_,_,P',S',pr',q1,q2,by rw[hf];simpa using c,le,mm'⟩,kp2,nw⟩)
end
end Snd
namespace Snd
open PySem PySem.Spec PySem.W PyProof.Rows L2 Ev SetT
theorem q5y {t:SetTable}{Z:List Ent}(wf:WF t Z) {h:Int}{hash:Nat->Int}(hh:∀i,(hash i==h)=false) {N:Nat}(ff:q1m t.mask h (slots Z) N) :
  ∀fuel n,n<=N->N-n<fuel->SetTable.probe.go t hash h fuel (path t.mask h n)=some (.empty (path t.mask h N).j none)
 |0,n,_,hf=>by lia
 |fuel+1,n,hn,hf=>by
  by_cases e:n=N
  ·subst e;unfold SetTable.probe.go;rw[q5u wf.place wf.dum ff.1];simp only[q49]
  ·have hl:=ff.2 n (by lia);obtain⟨i,hi,ei⟩:=QX hl;have hs:(slots Z)[i]? = some (path t.mask h n).j:=(by rw[Ql hi,ei]);unfold SetTable.probe.go;rw[q27 wf.place wf.ris hs];simp only[hh i,QL,if_false];exact q5y wf hh ff fuel (n+1) (by lia) (by lia)
theorem qCG {t:SetTable}{Z:List Ent}(wf:WF t Z) {h:Int}{N:Nat}(ff:q1m t.mask h (slots Z) N) (hN:N<=10*(t.mask+13)):t.freeSlot h=some ((path t.mask h N).j,false):=by unfold SetTable.freeSlot;have:=q5y wf (h:=h) (hash:=λ _=>h+1) (λ i=>by simp;lia) ff (10*SetTable.turns t.mask) 0 (QM _) (by unfold SetTable.turns;lia);rw[show t.probe (λ _=>h+1) h (t.probeStart h)=_ from this];rfl
theorem q7n (t:SetTable) (es:List (Int×Value)) (wanted:Nat) (g:q2X (SetTable.sizeAbove wanted-1)) (few:es.length<=SetTable.sizeAbove wanted-1) {t':SetTable}{order:Array Nat}
  (h:t.relaid (es.toArray.map (·.1)) wanted=some (t',order)):order.toList.Perm (Qk es.length):=by
 obtain⟨owner,As,e,L⟩:=q3b g (es.map (·.1)) (by rw[Qe];exact few);have h2:SetTable.laid (SetTable.sizeAbove wanted-1) t.finger (t.movedTo (SetTable.sizeAbove wanted-1)) t.led t.plain (es.toArray.map (·.1))=some (t',order):=h;unfold SetTable.laid at h2;rw[show es.toArray.map (·.1)=(es.map (·.1)).toArray by simp,e] at h2;have h3:order=((q1Y (SetTable.sizeAbove wanted-1) owner).map (·.2)).toArray:=(congrArg (·.2) (QR.inj h2)).symm;rw[h3];have:=q7l L;rw[Qe] at this;exact this
theorem q8e {Z:List Ent}{t:SetTable}{n:Nat}(hn:n=Z.length) (g:q2X (SetTable.sizeAbove (SetTable.grown n)-1)) (few:n<=SetTable.sizeAbove (SetTable.grown n)-1) :
  ∃Z' t',relayAll t (Z.map (·.2)).toArray (SetTable.grown n)=((Z'.map (·.2)).toArray,t',false)/\WF t' Z'/\(Z'.map (·.2)).Perm (Z.map (·.2))/\t'.mask=SetTable.sizeAbove (SetTable.grown n)-1/\t'.led=t.led/\t'.plain=t.plain:=by
 have fw:(Z.map (·.2)).length<=SetTable.sizeAbove (SetTable.grown n)-1:=by rw[Qe,<-hn];exact few
 obtain⟨t',order,Z',r1,r2,r3,r4,r5,r6,r7⟩:=q5G t (Z.map (·.2)) (SetTable.grown n) g fw;refine⟨Z',t',?_,r2,r4,r5,r6,r7⟩;have hp:=q7n t (Z.map (·.2)) (SetTable.grown n) g fw r1;unfold relayAll;rw[r1];dsimp only;rw[r3];have c1:coversAll order (Z.map (·.2)).toArray.size=true:=by unfold coversAll;rw[List.isPerm_iff];simpa using hp
 have c2:t'.fits (Z'.map (·.2)).toArray.size=true:=by unfold SetTable.fits;rw[r2.size,r2.fill];have:=r2.few;simp[this]
 rw[c1,c2];rfl
end Snd
namespace Snd
open PySem PySem.Spec PySem.W PyProof.Rows L2 Ev SetT
def Ints (ds:List D):Prop:=∀d∈ds,∃i,d = .int i
section
variable {prog:Program}{w:World}{A:Around}{E:Value->Shared->Prop}{s:Shared}{a:Addr}{ds:List D}{x:Value}{n:Int}{led:Bool}{h₀:Heap}{M:D->Value->Prop}
theorem qCH {M:Model}{Q:Unit->Shared->Prop}(h:Q () s):wpAny M A (match false with|true=>rule "set.scan.the-table-gave-way" | false=>pure ()) Q E s:=wpAny_pure h
theorem add_int (S:SetD M h₀ s.heap a ds led) (tu:Ints ds) (Dx0:Dv h₀ (.int n) x) (mx:M (.int n) x) (hl:ds.length<64) {Q:Bool->Shared->Prop}
  (hy : .int n∈ds->Q false s) (hq : .int n∉ds->∀h',Heap.SameBut a s.heap h'->SetD M h₀ h' a (.int n::ds) led->Q true {s with heap:=h'}):wpAny (model prog w) A (setAddHashed a x (hv (.int n))) Q E s:=by
 obtain⟨⟨Z,t,ep,P,S,pr,e1,e2,tf,le,mm⟩,kp,nw⟩:=S;have en:=(pr.keep kp).ents e1;have px:plN 8 (.int n)=true:=rfl;have hx:q02 (.int n)=true:=rfl;have hlen:Z.length=ds.length:=by have h1:=congrArg List.length e1;have h2:=e2.length_eq;simp at h1 h2;lia
 have tf':Z.length*5<t.mask*3:=by have:=tf;unfold SetTable.tooFull at this;rw[S.wf.fill] at this;simpa using this
 obtain⟨N,n1,n2⟩:=q5v S.wf.good (hv (.int n)) (slots Z) (by have:=S.wf.few;simpa[slots] using this);have fsl:=qCG S.wf n2 n1;obtain⟨tk,rfl⟩:=Dx0;have hel:ElemsOf (intKind prog w) (Z.map (·.2)):=λ e he=>by obtain⟨z,hz,rfl⟩:=Qg.mp he;obtain⟨i,hi,ei⟩:=QX hz;obtain⟨d,d1,d2,d3,d4,d5⟩:=en.at (i:=i) (z:=z) (by rw[Ql hi,ei]);obtain⟨m,rfl⟩:=tu d (e2.mem_iff.mp (Qm d1));obtain⟨tk',d6⟩:=d2;rw[d6];exact⟨⟨m,by simp[intKind,Value.isInt],d3.symm⟩,rfl⟩
 have his:∀p∈P,(intKind prog w).is n p.1.2=true↔p.2 = .int n:=λ p hp=>by obtain⟨m,em⟩:=tu p.2 (e2.mem_iff.mp (Qg.mpr ⟨p,hp,rfl⟩));have:=((pr.keep kp) p hp).1;rw[em] at this;obtain⟨tk',q⟩:=this;rw[q,em];simp[intKind,Value.isInt]
 unfold setAddHashed setAddHashedIn;obtain⟨o,ho,hex,hd⟩:=S.obj;refine wpAny_holding (wpAny_bind (q1F S ?_));dsimp only;rw[byScan_of (knd:=intKind prog w) rfl (by show (Z.map (·.2)).toArray.size<4096;simp;lia) (by simpa using hel)];rw[if_pos rfl];unfold setAddByScan;refine wpAny_bind (wpAny_bind (wpAny_rule ?_));refine wpAny_bind (wpAny_setScan_of (knd:=intKind prog w) (k:=n) (by simp[intKind,Value.isInt]) ho hd S.fits (by simpa using hel) ?_);cases hr:List.findIdx? (λ e=>(intKind prog w).is n e.2) (Z.map (·.2)).toArray.toList with
 |some j =>
  dsimp only;obtain⟨hj,hpj,_⟩:=List.findIdx?_eq_some_iff_getElem.mp hr;refine wpAny_pure (wpAny_pure (hy ?_));have hm:(Z.map (·.2)).toArray.toList[j]∈P.map (·.1):=by rw[e1];exact QT hj
  obtain⟨p,hp,ep'⟩:=Qg.mp hm;rw[<-ep'] at hpj;exact e2.mem_iff.mp (Qg.mpr ⟨p,hp,(his p hp).mp hpj⟩)
 |none =>
  dsimp only;have hno:D.int n∉ds:=λ h=>by
   obtain⟨p,hp,ep'⟩:=Qg.mp (e2.mem_iff.mpr h);have h1:=(his p hp).mpr ep';have h2:p.1∈(Z.map (·.2)).toArray.toList:=by have:p.1∈P.map (λ p=>p.1):=Qg.mpr ⟨p,hp,rfl⟩;rw[e1] at this;exact this
   have:=List.findIdx?_eq_none_iff.mp hr _ h2;rw[h1] at this;cases this
  generalize hz:(path t.mask (hv (.int n)) N).j=j at fsl;have wf:=S.wf.insert (x:= .int n tk) n2 (by have:=S.wf.good;rcases this with h|h|h<;>lia) true;rw[q7m _ _ S.plain] at wf;rw[hz] at wf;have hp:(t.put j).2<=Z.length:=by have:=(q1K (slots Z) S.wf.ris j).1;show SetTable.below t.place j<=_;rw[S.wf.place];simpa[slots] using this
  have ei:SetTable.insertAt (Z.map (·.2)).toArray (t.put j).2 (hv (.int n),.int n tk)=((insZ Z (t.put j).2 (j,hv (.int n),.int n tk)).map (·.2)).toArray:=by rw[q31 _ _ _ (by simpa using hp),q2j]
  have hlz:(insZ Z (t.put j).2 (j,hv (.int n),.int n tk)).length=Z.length+1:=by have:=(q5F Z (t.put j).2 (j,hv (.int n),.int n tk)).length_eq;simpa using this
  have hft:(t.put j).1.fits ((insZ Z (t.put j).2 (j,hv (.int n),.int n tk)).map (·.2)).toArray.size=true:=by unfold SetTable.fits;rw[wf.size,wf.fill];have:=wf.few;simp[this]
  have hL:layNew t (Z.map (·.2)).toArray (hv (.int n)) (.int n tk)=(((insZ Z (t.put j).2 (j,hv (.int n),.int n tk)).map (·.2)).toArray,(t.put j).1,false,false):=by unfold layNew;rw[fsl];dsimp only;rw[ei];unfold SetTable.orStandIn;rw[hft];rfl
  let P':List ((Int×Value)×D):=P.take (t.put j).2++((hv (.int n),.int n tk),.int n)::P.drop (t.put j).2
  have pp:P'.Perm (((hv (.int n),.int n tk),.int n)::P):=by refine List.perm_middle.trans (.cons _ ?_);rw[Jr]
  have q1:P'.map (·.1)=(insZ Z (t.put j).2 (j,hv (.int n),.int n tk)).map (·.2):=by rw[q2j,<-e1];simp[P',List.map_take,List.map_drop]
  have q2:(P'.map (·.2)).Perm (.int n::ds):=List.Perm.trans (pp.map (λ p=>p.2)) (List.Perm.trans (by rw[Qv]) (e2.cons (D.int n)));have pr':Prs h₀ P':=λ p hp'=>by
   rcases Qf.mp (pp.mem_iff.mp hp') with h|h
   ·subst h;exact⟨⟨tk,rfl⟩,rfl,px,hx⟩
   ·exact pr p h
  have mm':∀p∈P',M p.2 p.1.2:=λ p hp'=>by
   rcases Qf.mp (pp.mem_iff.mp hp') with h|h
   ·subst h;exact mx
   ·exact mm p h
  rw[hL];dsimp only;refine wpAny_bind (qCH ?_);rw[show (t.put j).1.plain=true from S.plain];rw[if_pos rfl,hashByValue_scannable 8 (x:= .int n tk) rfl];refine wpAny_bind (wpAny_pure ?_);rw[if_pos (show plainKind (.int n tk)=true from rfl)];refine wpAny_bind (q4m S wf S.plain (by lia) λ h' k S'=>?_);have kp2:=q9n kp nw k;have hf:(t.put j).1.tooFull=decide ((Z.length+1)*5≥t.mask*3):=by unfold SetTable.tooFull;rw[wf.fill,hlz];rfl
  by_cases c:(Z.length+1)*5≥t.mask*3
  ·rw[if_pos (by rw[hf];simpa using c)];obtain⟨g1,g2,g3⟩:=q5x S.wf.good c (by simpa using tf') (by lia);have hsz:((insZ Z (t.put j).2 (j,hv (.int n),.int n tk)).map (·.2)).toArray.size=Z.length+1:=(by simp[hlz]);rw[hsz];obtain⟨Z2,t2,y1,y2,y3,y4,y5,y6⟩:=q8e (Z:=insZ Z (t.put j).2 (j,hv (.int n),.int n tk)) (t:=(t.put j).1) hlz.symm g1 g2;rw[y1];dsimp only;have hz2:Z2.length=Z.length+1:=(by have:=y3.length_eq;simp[hlz] at this;lia);refine wpAny_bind (qCH ?_);refine wpAny_bind (q4m S' y2 (by rw[y6];exact S.plain) (by lia) λ h2 k2 S2=>?_);obtain⟨P2,o1,o2⟩:=q5I (·.1) y3 P' q1;refine wpAny_pure (wpAny_pure (hq hno h2 (k.trans k2) ⟨⟨Z2,t2,_,P2,S2,λ p hp'=>pr' p (o1.mem_iff.mp hp'),o2,List.Perm.trans (o1.map (λ p=>p.2)) q2,?_,?_,λ p hp'=>mm' p (o1.mem_iff.mp hp')⟩,q9n kp2 nw k2,nw⟩))
   ·unfold SetTable.tooFull;rw[S2.wf.fill,y4,hz2];simpa using g3
   ·rw[y5];exact le
  ·rw[if_neg (by rw[hf];simpa using c)];exact wpAny_pure (wpAny_pure (hq hno h' k ⟨⟨_,_,_,P',S',pr',q1,q2,by rw[hf];simpa using c,le,mm'⟩,kp2,nw⟩))
end
end Snd
namespace Snd
open PySem PySem.Spec PySem.W PyProof.Rows L2 Ev SetT
section
variable {prog:Program}{w:World}{A:Around}{E:Value->Shared->Prop}{s:Shared}{a:Addr}{ds xs:List D}{us:List Value}{led:Bool}{h₀:Heap}{M:D->Value->Prop}
def Kin (xs:List D):Prop:=Tups xs\/Ints xs
theorem qLK {d:D}{x:Value}(S:SetD M h₀ s.heap a ds led) (kn:Kin (d::ds)) (px:plN 8 d=true) (hx:q02 d=true) (Dx:Dv h₀ d x) (mx:M d x) (hu:A.units+10<cLine) (hl:ds.length<64) {Q:Bool->Shared->Prop}
  (hy:d∈ds->∀tk,Q false {s with toks:=tk}) (hq:d∉ds->∀h' tk,Heap.SameBut a s.heap h'->SetD M h₀ h' a (d::ds) led->Q true {s with heap:=h',toks:=tk}):wpAny (model prog w) A (setAdd a x) Q E s:=by
 unfold setAdd;refine wpAny_holding (wpAny_bind (qDZ 8 px hx ((q57 S.kp).1 _ _ Dx) (by lia) λ tk=>?_));rcases kn with kn|kn
 ·exact q6h (s:={s with toks:=tk}) S kn px hx Dx mx (by lia) hl (λ h=>hy h tk) λ h h' k S'=>hq h h' tk k S'
 ·obtain⟨n,rfl⟩:=kn d Qb;exact add_int (s:={s with toks:=tk}) S (λ e he=>kn e (Qa _ he)) Dx mx hl (λ h=>hy h tk) λ h h' k S'=>hq h h' tk k S'
theorem SetD.move {h h':Heap}{wr:List Addr}(S:SetD M h₀ h a ds led) (ha:a∉wr) (hw:∀b∈wr,h₀.get? b=none) (k:∀b o,b∉wr->h.get? b=some o->h'.get? b=some o):SetD M h₀ h' a ds led:=by obtain⟨⟨Z,t,ep,P,⟨⟨o,ho,r⟩,wf,pl⟩,q⟩,kp,nw⟩:=S;refine⟨⟨Z,t,ep,P,⟨⟨o,k a o ha ho,r⟩,wf,pl⟩,q⟩,λ b o e=>k b o (λ hb=>?_) (kp b o e),nw⟩;rw[hw b hb] at e;cases e
theorem q9o {i:Nat}{d e:D}(h:xs[i]? = some d):e∈xs.take (i+1)↔e=d\/e∈xs.take i:=by rw[List.take_succ,h,Qq];simp;exact Or.comm
theorem q4n {R:Result->Shared->Prop}{I:Addr}{fp wr:List Addr}{n:Nat}{P:Nat->Value->Prop}{St:Nat->Heap->Prop}(W:Walks prog w A.in1 I fp wr n P St) (haf:a∉fp) (hw:∀b∈wr,h₀.get? b=none)
  (dx:DvL h₀ xs us) (mx:∀(i:Nat) d v,xs[i]? = some d->us[i]? = some v->M d v) (hP:∀i v,P i v->us[i]? = some v) (hn:n=us.length) (kn:Kin xs) (hh:q08 xs=true) (hp:∀d∈xs,plN 8 d=true) (hu:A.units+11<cLine) (hl:∀l:List D,l.Nodup->(∀d∈l,d∈xs)->l.length<64) :
  ∀(k i:Nat) (s:Shared) (ds:List D),n-i=k->i<=n->St i s.heap->SetD M h₀ s.heap a ds led->ds.Nodup->(∀d,d∈ds↔d∈xs.take i)->
   (∀h' tk ds',(∀b o,b∉a::wr->s.heap.get? b=some o->h'.get? b=some o)->SetD M h₀ h' a ds' led->ds'.Nodup->(∀d,d∈ds'↔d∈xs)->R (.ok (.ret .none)) {s with heap:=h',toks:=tk})->
   codeAny (model prog w) A (.builtin "set.update.loop" ⟨[.ref a,.ref I],[]⟩) R s:=by
 have haw:a∉wr:=λ h=>haf (W.sub _ h);have hxl:=dx.length;intro k
 induction k with
 |zero =>
  intro i s ds hk hi hst S nd hm hR;have:i=n:=by lia
  subst this;refine codeAny_builtin F.entry_set_update_loop ?_;rw[Around.under_plainId F.plain_set_update_loop _];show wpAny _ A.in1 (pyNext (.ref I) >>= _) _ _ s;refine wpAny_bind (W.done s _ _ hst λ h' tk hm'=>?_);show wpAny _ A.in1 (ret Value.none) _ _ _;refine wpAny_pure (hR h' tk ds (λ b o hb e=>hm' b o (λ h=>hb (Qa _ h)) e) (S.move haw hw hm') nd λ d=>?_);rw[hm d,Jo (by lia)]
 |succ k ih =>
  intro i s ds hk hi hst S nd hm hR;refine codeAny_builtin F.entry_set_update_loop ?_;rw[Around.under_plainId F.plain_set_update_loop _];show wpAny _ A.in1 (pyNext (.ref I) >>= _) _ _ s;refine wpAny_bind (W.item i s _ _ (by lia) hst λ v h1 tk1 hv hst' hm'=>?_);have hv':=hP i v hv;have hix:i<xs.length:=by lia
  have hdi:xs[i]? = some xs[i]:=by simp[hix]
  obtain⟨v',hv2,Dx⟩:=dx.get hdi;rw[hv'] at hv2;cases hv2;have S1:=S.move haw hw hm';have sub:∀d∈ds,d∈xs:=λ d hd=>List.mem_of_mem_take ((hm d).mp hd);have hmem:xs[i]∈xs:=QT hix;have kn':Kin (xs[i]::ds):=by
   rcases kn with kn|kn
   ·exact .inl λ d hd=>(Qf.mp hd).elim (λ h=>kn d (h▸hmem)) λ h=>kn d (sub d h)
   ·exact .inr λ d hd=>(Qf.mp hd).elim (λ h=>kn d (h▸hmem)) λ h=>kn d (sub d h)
  show wpAny _ A.in1 (holding [v] (setAdd a v) >>= _) _ _ _;refine wpAny_bind (wpAny_holding (qLK (s:={s with heap:=h1,toks:=tk1}) S1 kn' (hp _ hmem) (q0D.mp hh _ hmem) Dx (mx i _ _ hdi hv') (by rw[Around.in1_units];lia) (hl ds nd sub) (λ hd tk=>?_) λ hd h2 tk k2 S2=>?_))
  ·refine wpAny_pure ⟨plainId_quiet F.plain_set_update_loop _,ih (i+1) _ ds (by lia) (by lia) hst' S1 nd (λ d=>?_) λ h3 tk3 ds3 k3 S3 nd3 m3=>?_⟩
   ·rw[q9o hdi,hm d];exact⟨.inr,λ h=>h.elim (λ e=>e▸(hm _).mp hd) id⟩
   ·exact hR h3 tk3 ds3 (λ b o hb e=>k3 b o hb (hm' b o (λ h=>hb (Qa _ h)) e)) S3 nd3 m3
  ·refine wpAny_pure ⟨plainId_quiet F.plain_set_update_loop _,ih (i+1) _ (xs[i]::ds) (by lia) (by lia) (W.frame _ _ _ hst' λ b hb o e=>?_) S2 (QG.mpr ⟨hd,nd⟩) (λ d=>?_) λ h3 tk3 ds3 k3 S3 nd3 m3=>?_⟩
   ·show h2.get? b=some o;rw[k2.2 b (λ h:b=a=>haf (by rw[<-h];exact hb))];exact e
   ·rw[q9o hdi,Qf,hm d]
   ·refine hR h3 tk3 ds3 (λ b o hb e=>k3 b o hb ?_) S3 nd3 m3;show h2.get? b=some o;rw[k2.2 b (λ h:b=a=>hb (by rw[h];exact Qb))];exact hm' b o (λ h=>hb (Qa _ h)) e
end
end Snd
namespace Snd
open PySem PySem.Spec PySem.W PyProof.Rows L2 Ev SetT
def byT (w:World):Bool:=w.params.followText "set-order"
def set0 (w:World):Obj:={cls:= .type "set",dict:=none,data:= .set #[] 0 (.fresh 0 0 (!byT w))}
section
variable {prog:Program}{w:World}{A:Around}{E:Value->Shared->Prop}{s:Shared}{a:Addr}{ds xs:List D}{us:List Value}{led:Bool}{h₀:Heap}{M:D->Value->Prop}
theorem qGt (v:Value) {Q₁:Value->Shared->Prop}(h:Q₁ (.ref s.heap.objs.size) {s with heap:=s.heap.push (set0 w)}):codeAny (model prog w) A (.call (.builtin "set.__new__") ⟨[.type "set",v],[]⟩) (wants Q₁ E) s:=by
 refine codeAny_of_tree (show wpAny _ A.in1 (checkBuiltinCall "set.__new__" ⟨[.type "set",v],[]⟩ >>= λ _=>again (.builtin "set.__new__" ⟨[.type "set",v],[]⟩)) _ _ s from ?_);refine wpAny_bind (wpAny_of_eq (F.newCall_set_1 v) (wpAny_pure (And.intro (plainId_quiet F.plain_set_new _) (codeAny_builtin F.entry_set_new ?_))));rw[(Around.under_plainId F.plain_set_new _)];unfold Builtin.«set.__new__»;unfold Builtin.Frozenset.newClass;have hss:=sub_set_self;obtain⟨hp,ge,dr,tk,os⟩:=s;dsimp only
 wp_walk
 refine wpAny_askSetting (wpAny_pure ?_);dsimp only;simp only[newObj];exact wpAny_bind (wpAny_alloc (wpAny_pure (wpAny_pure h)))
theorem qJl (hn:h₀.get? h₀.objs.size=none):SetD M h₀ (h₀.push (set0 w)) h₀.objs.size [] (!byT w):=by refine⟨⟨[],.fresh 0 0 (!byT w),0,[],⟨⟨set0 w,Heap.get?_push_size _ rfl,⟨rfl,rfl,rfl⟩,rfl⟩,⟨rfl,List.Pairwise.nil,rfl,.inl rfl,λ z hz=>by simp at hz,QM _,λ z hz=>by simp at hz⟩,rfl⟩,λ p hp=>by simp at hp,rfl,.nil,rfl,rfl,λ p hp=>by simp at hp⟩,λ b o e=>Heap.get?_push_of_some _ e,hn⟩
structure Src (prog:Program) (w:World) (ty:String) (l:Addr) (us:List Value) (h:Heap) (St:Addr->Nat->Heap->Prop):Prop where
 obj:∃o n,h.get? l=some o/\o.cls = .type ty/\o.data = .seq us.toArray n
 sub1:isSubtype (.type ty) (.type "set")=pure false
 sub2:isSubtype (.type ty) (.type "frozenset")=pure false
 ne:(Value.type ty==Value.type "dict")=false
 walks:∀{A:Around}(I:Addr),A.handled=none->l≠I->Walks prog w A I [I,l] [I] us.length (λ i v=>us[i]? = some v) (St I)
 iter:∀{A:Around}{E:Value->Shared->Prop}{s:Shared}{Q:Value->Shared->Prop},(∀o,h.get? l=some o->s.heap.get? l=some o)->
  (∀o:Obj,St s.heap.objs.size 0 (s.heap.push o)->Q (.ref s.heap.objs.size) {s with heap:=s.heap.push o})->wpAny (model prog w) A (pyIter (.ref l)) Q E s
theorem src_list {l:Addr}{h:Heap}(hl:h.IsList l us.toArray):Src prog w "list" l us h (λ I i h=>h.IsListIter I l i/\h.IsList l us.toArray):=by
 have hl':=hl;obtain⟨o,ho,hc,n,hd⟩:=hl';refine⟨⟨o,n,ho,hc,hd⟩,F.sub_list_set,F.sub_list_frozenset,by decide,λ I hh ne=>by simpa using Walks.list hh I l ne us.toArray,λ k hq=>?_⟩;have hl2:Heap.IsList _ l us.toArray:=⟨o,k o ho,hc,n,hd⟩
 exact wpAny_pyIter_list hl2 (hq _ ⟨⟨_,Heap.get?_push_size _ rfl,rfl,rfl⟩,o,Heap.get?_push_of_some _ (k o ho),hc,n,hd⟩)
theorem src_tuple {l:Addr}{h:Heap}(hl:h.IsTuple l us.toArray):Src prog w "tuple" l us h (λ I i h=>h.IsTupleIter I l i/\h.IsTuple l us.toArray):=by
 have hl':=hl;obtain⟨o,ho,hc,n,hd⟩:=hl';refine⟨⟨o,n,ho,hc,hd⟩,F.sub_tuple_set,F.sub_tuple_frozenset,by decide,λ I hh ne=>by simpa using Walks.tuple hh I l ne us.toArray,λ k hq=>?_⟩;have hl2:Heap.IsTuple _ l us.toArray:=⟨o,k o ho,hc,n,hd⟩
 exact wpAny_pyIter_tuple hl2 (hq _ ⟨⟨_,Heap.get?_push_size _ rfl,rfl,rfl⟩,o,Heap.get?_push_of_some _ (k o ho),hc,n,hd⟩)
end
end Snd
namespace Snd
open PySem PySem.Spec PySem.W PyProof.Rows L2 Ev SetT
section
variable {prog:Program}{w:World}{A:Around}{E:Value->Shared->Prop}{s:Shared}{a:Addr}{ds xs:List D}{us:List Value}{led:Bool}{h₀:Heap}
theorem qAW (h:Heap):h.get? h.objs.size=none:=by
 cases e:h.get? h.objs.size with
 |none=>rfl
 |some o=>exact absurd (Heap.lt_size e) (Ja _)
def Made (w:World) (xs:List D) (us:List Value) (s:Shared) (h':Heap):Prop:=∃ds,SetD (λ d v=>∃i:Nat,xs[i]? = some d/\us[i]? = some v) s.heap h' s.heap.objs.size ds (!byT w)/\ds.Nodup/\∀d,d∈ds↔d∈xs
theorem qJm {ty:String}{l:Addr}{St:Addr->Nat->Heap->Prop}{Q:Unit->Shared->Prop}(S:Src prog w ty l us s.heap St) (hh:A.handled=none)
  (dx:DvL s.heap xs us) (kn:Kin xs) (hx:q08 xs=true) (hp:∀d∈xs,plN 8 d=true) (hu:A.units+16<cLine) (hl:∀l:List D,l.Nodup->(∀d∈l,d∈xs)->l.length<64)
  (h:∀(h':Heap) (tk:Nat),Made w xs us s h'->Q () {s with heap:=h',toks:=tk}) :
  wpAny (model prog w) A (pyIter (.ref l)) (λ a s'=>wpAny (model prog w) A (runValue (.builtin "set.update.loop" ⟨[.ref s.heap.objs.size,a],[]⟩) >>= λ _=>pure ()) Q E s') E {s with heap:=s.heap.push (set0 w)}:=by
 obtain⟨ol,nl,hol,_⟩:=S.obj;have hlt:=Heap.lt_size hol;refine S.iter (λ o e=>Heap.get?_push_of_some _ e) λ o hst=>?_;have hsz:(s.heap.push (set0 w)).objs.size=s.heap.objs.size+1:=Heap.size_push _ _;refine wpAny_bind (wpAny_runValue ?_);refine q4n (M:=λ d v=>∃i:Nat,xs[i]? = some d/\us[i]? = some v) (h₀:=s.heap) (led:=!byT w) (S.walks (s.heap.push (set0 w)).objs.size (by simp[hh]) (by rw[hsz];exact Qy (Ju hlt))) ?_ ?_ dx (λ i d v e1 e2=>⟨i,e1,e2⟩) (λ i v e=>e) rfl kn hx hp (by lia) hl (us.length-0) 0 _ [] rfl (QM _) hst ?_ Jp (λ d=>by simp) λ h' tk ds' k S' nd m=>?_
 ·rw[hsz];simp only[Qf,Jz,or_false,not_or];exact⟨Qy (Jf _),Nat.ne_of_gt hlt⟩
 ·intro b hb;rw[Qs.mp hb,hsz];cases e:s.heap.get? (s.heap.objs.size+1) with
  |none=>rfl
  |some o'=>exact absurd (Heap.lt_size e) (Nat.not_lt.mpr (Nat.le_succ _))
 ·obtain⟨⟨Z,t,ep,P,⟨⟨o',ho,r⟩,wf,pl⟩,q⟩,kp,nw⟩:=qJl (M:=λ d v=>∃i:Nat,xs[i]? = some d/\us[i]? = some v) (w:=w) (qAW s.heap);exact⟨⟨Z,t,ep,P,⟨⟨o',Heap.get?_push_of_some _ ho,r⟩,wf,pl⟩,q⟩,λ b o' e=>Heap.get?_push_of_some _ (kp b o' e),nw⟩
 ·show wpAny _ _ _ _ _ _;exact wpAny_pure (h h' tk ⟨ds',S',nd,m⟩)
end
end Snd
namespace Snd
open PySem PySem.Spec PySem.W PyProof.Rows L2 Ev SetT
section
variable {prog:Program}{w:World}{A:Around}{E:Value->Shared->Prop}{s:Shared}{a:Addr}{ds xs:List D}{us:List Value}{led:Bool}{h₀:Heap}
set_option maxHeartbeats 3200000 in
theorem qJn {ty:String}{l:Addr}{St:Addr->Nat->Heap->Prop}{Q:Value->Shared->Prop}(S:Src prog w ty l us s.heap St) (hh:A.handled=none)
  (dx:DvL s.heap xs us) (kn:Kin xs) (hx:q08 xs=true) (hp:∀d∈xs,plN 8 d=true) (hu:A.units+20<cLine) (hl:∀l:List D,l.Nodup->(∀d∈l,d∈xs)->l.length<64)
  (h:∀(h':Heap) (tk:Nat),Made w xs us s h'->Q (.ref s.heap.objs.size) {s with heap:=h',toks:=tk}):wpAny (model prog w) A (call (.type "set") [.ref l]) Q E s:=by
 obtain⟨c0,tl0,mro0⟩:=F.called_set.mro;have made0:=F.called_set.made;have sub0:=F.called_set.sub;refine wpAny_call (codeAny_of_tree (show wpAny _ _ (callAny (.type "set") _) _ _ _ from ?_));refine wpAny_pure (And.intro (Code.quiet_builtin _ (by decide +kernel)) (codeAny_builtin F.entry_type_call ?_));rw[(Around.under_plain (weight_type_call_type "set" [.ref l] []) rfl)];have ht:=F.called_set.notType;have hcc:=F.called_set.canCreate;have htc:=F.typeCall_set_1 (.ref l)
 repeat (any_goals (first|assumption|wp_step))
 refine codeAny_mono (qGt (.ref l) (E:=E) (Q₁:=λ v s₁=>v = .ref s.heap.objs.size/\s₁={s with heap:=s.heap.push (set0 w)}) ⟨rfl,rfl⟩) λ r s₁ hr=>?_;cases r with
 |error e=>exact hr
 |ok fl =>
  cases fl with
  |ret v =>
   obtain⟨rfl,rfl⟩:=hr;have g0:(s.heap.push (set0 w)).get? s.heap.objs.size=some (set0 w):=Heap.get?_push_size _ rfl;have T0:Shared.TypeIs {s with heap:=s.heap.push (set0 w)} (.ref s.heap.objs.size) "set":=⟨_,g0,rfl⟩
   have li:=F.called_set.init.lookup;have bi:=F.called_set.init.bind (.ref s.heap.objs.size)
   repeat (any_goals (first|assumption|wp_step))
   refine codeAny_mono (codeAny_call_builtin (R:=wants (λ r s₂=>r = .none/\∃h' tk,s₂={s with heap:=h',toks:=tk}/\Made w xs us s h') E) F.called_set.init.plain F.entry_set_init (check_set_init_1 T0 ?_)) λ r₂ s₂ hr₂=>?_
   ·obtain⟨ol,nl,hol,hcl,hdl⟩:=S.obj;have e1:=S.sub1;have e2:=S.sub2;have e3:=S.ne;obtain⟨ocl,odi,oda,osl⟩:=ol;simp only at hcl hdl;subst hcl hdl;have hol':=Heap.get?_push_of_some (set0 w) hol;unfold Builtin.«set.__init__»;unfold noKeywords Builtin.Frozenset.updateFrom;generalize hPI:pyIter=PI
    wp_walk
    subst hPI;exact qJm S (by simp[hh]) dx kn hx hp (by simp;lia) hl λ h' tk m=>wpAny_pure ⟨rfl,h',tk,rfl,m⟩
   ·cases r₂ with
    |error e=>exact hr₂
    |ok fl₂ =>
     cases fl₂ with
     |ret r =>
      obtain⟨rfl,h',tk,rfl,m⟩:=hr₂
      repeat (any_goals (first|assumption|wp_step))
      exact h _ _ m
     |_=>exact hr₂.elim
  |_=>exact hr.elim
end
end Snd
namespace Snd
open PySem PySem.Spec PySem.W PyProof.Rows L2 Ev SetT
theorem q4A:Slot "set_iterator" "__next__" "set_iterator.__next__":=by
 refine .of (owner := "set_iterator") (n := "__next__") ?_ (by decide +kernel) (by decide +kernel) (by decide +kernel) ?_ ?_
 ·rw[typeLookup_type,builtinLookup_eq_fast];kernel_rfl
 ·first
   |exact .inl (by decide +kernel)
   |exact .inr (by decide +kernel)
 ·rw[isSubtype_type];kernel_rfl
theorem qCI:Slot "set_iterator" "__iter__" "set_iterator.__iter__":=by
 refine .of (owner := "set_iterator") (n := "__iter__") ?_ (by decide +kernel) (by decide +kernel) (by decide +kernel) ?_ ?_
 ·rw[typeLookup_type,builtinLookup_eq_fast];kernel_rfl
 ·first
   |exact .inl (by decide +kernel)
   |exact .inr (by decide +kernel)
 ·rw[isSubtype_type];kernel_rfl
theorem q7o:entryFor table "set_iterator.__next__" = some Builtin.«set_iterator.__next__»:=entryFor_of_tree (by kernel_rfl)
theorem qCJ:entryFor table "set_iterator.__iter__" = some Builtin.«dict_keyiterator.__iter__»:=entryFor_alias (id' := "dict_keyiterator.__iter__") (by kernel_rfl) (by decide +kernel) (by decide +kernel) (by kernel_rfl)
theorem qAX:entryFor table "set.__iter__" = some Builtin.«frozenset.__iter__»:=entryFor_alias (id' := "frozenset.__iter__") (by kernel_rfl) (by decide +kernel) (by decide +kernel) (by kernel_rfl)
theorem q7p (a:Value):argsOk "set_iterator.__next__" ⟨[a],[]⟩:=by unfold argsOk;kernel_rfl
theorem qCK (a:Value):argsOk "set_iterator.__iter__" ⟨[a],[]⟩:=by unfold argsOk;kernel_rfl
end Snd
namespace Snd
open PySem PySem.Spec PySem.W PyProof.Rows L2 Ev SetT
def wkO (w:World) (a:Addr) (ep:Nat) (Z:List Ent):List (Int×Value):=if byT w then (pickOrder (w.params.setOrder a ep) (Z.map (·.2)).toArray).toList else Z.map (·.2)
def wkS (w:World) (Z:List Ent) (i:Nat):Nat:=if byT w then 0 else match i with
 |0=>0
 |k+1=>match Z[k]? with
  |some z=>z.1+1
  |none=>0
def ItAt (h:Heap) (I a:Addr) (slot i n ep:Nat):Prop:=∃o,h.get? I=some o/\o.cls = .type "set_iterator"/\o.data = .fields #[.int slot 0,.int i 0,.ref a,.int n 0,.int ep 0]
theorem qCL {α:Type}(next:Nat->Nat):∀(n k:Nat) (left:List α) (out:Array α),left.length=n->((pickOrder.go next n k left out).toList).Perm (out.toList++left)
 |0,k,left,out,h=>by have:left=[]:=List.length_eq_zero_iff.mp h;subst this;simp[pickOrder.go]
 |n+1,k,left,out,h=>by unfold pickOrder.go;have hlt:next k % left.length<left.length:=Nat.mod_lt _ (by lia);rw[Ql hlt];dsimp only;refine (qCL next n (k+1) _ _ (by rw[List.length_eraseIdx];simp[hlt];lia)).trans ?_;rw[Array.toList_push,Jv];refine List.Perm.append_left _ ?_;rw[List.eraseIdx_eq_take_drop_succ];refine (List.perm_middle (l₁:=left.take (next k % left.length)) (l₂:=left.drop (next k % left.length+1))).symm.trans ?_;rw[<-List.drop_eq_getElem_cons hlt,Jr]
theorem q9p (w:World) (a:Addr) (ep:Nat) (Z:List Ent):(wkO w a ep Z).Perm (Z.map (·.2)):=by
 unfold wkO;split
 ·have:=qCL (w.params.setOrder a ep) (Z.map (·.2)).toArray.size 0 (Z.map (·.2)) #[] (by simp);simpa[pickOrder] using this
 ·exact .refl _
theorem below_at {t:SetTable}{Z:List Ent}(wf:WF t Z) {i:Nat}(hi:i<=Z.length) {w:World}(hb:byT w=false):SetTable.below t.place (wkS w Z i)=i:=by
 have hls:(slots Z).length=Z.length:=by simp[slots]
 rw[wf.place];cases i with
 |zero =>
  have e:wkS w Z 0=0:=by unfold wkS;rw[hb];rfl
  rw[e];obtain⟨b1,b2,b3⟩:=q1K (slots Z) wf.ris 0;apply QS;intro q;have h0:=b2 0 (by lia) (by lia);lia
 |succ k =>
  have hk:k<Z.length:=by lia
  have e:wkS w Z (k+1)=Z[k].1+1:=by unfold wkS;rw[hb];simp[hk]
  rw[e];obtain⟨b1,b2,b3⟩:=q1K (slots Z) wf.ris (Z[k].1+1);have ek:(slots Z)[k]'(by lia)=Z[k].1:=by simp[slots]
  apply QS;intro q;rcases Nat.lt_or_gt_of_ne q with q|q
  ·have:=b3 k (by lia) (by lia);lia
  ·have h1:=b2 (k+1) q (by lia);have h2:=wf.ris.lt (i:=k) (k:=k+1) (by lia) (by lia);lia
end Snd
namespace Snd
open PySem PySem.Spec PySem.W PyProof.Rows L2 Ev SetT
section
variable {prog:Program}{w:World}{A:Around}{E:Value->Shared->Prop}{s:Shared}{a I:Addr}{Z:List Ent}{t:SetTable}{ep i:Nat}
theorem q8f {Q:Bool->Shared->Prop}(h:Q (byT w) s):wpAny (model prog w) A setsByText Q E s:=by unfold setsByText;exact wpAny_bind (wpAny_askSetting (wpAny_pure h))
theorem q9q (S:SetIn s.heap a Z t ep) (le:t.led=!byT w) (hi:i<=Z.length) {Q:Option (Value×Nat)->Shared->Prop}(h:Q (((wkO w a ep Z)[i]?).map λ e=>(e.2,wkS w Z (i+1))) s):wpAny (model prog w) A (setNext a (wkS w Z i) i ep) Q E s:=by
 unfold setNext;refine wpAny_bind (q1F S (wpAny_bind (q8f ?_)));cases hb:byT w with
 |true =>
  rw[if_pos rfl];have e0:∀j,wkS w Z j=0:=λ j=>by unfold wkS;rw[hb];rfl
  simp only[bne_self_eq_false,QL,if_false];unfold setWalk;refine wpAny_bind (wpAny_bind (q1F S (wpAny_bind (q8f ?_))));rw[hb];refine wpAny_bind (wpAny_askSetting (wpAny_pure (wpAny_pure ?_)));unfold wkO at h;rw[hb,e0] at h;rw[e0];simp only[if_true,Array.getElem?_toList] at h;exact h
 |false =>
  rw[if_neg (by decide)];refine wpAny_ite_split (λ hd=>?_) λ _=>?_
  ·exfalso;have:(!t.plain&&decide ((Z.map (·.2)).toArray.size > 1))=true:=hd;rw[S.plain] at this;cases this
  refine wpAny_bind ?_;change wpAny _ _ (if (!t.led&&!(Z.map (·.2)).toArray.isEmpty)=true then unsupported "set:maker-not-led" else pure ()) _ _ _;rw[le,hb];rw[if_neg (by simp)];refine wpAny_pure (wpAny_pure ?_);rw[below_at S.wf hi hb];unfold wkO at h;rw[hb] at h;simp only[QL,if_false] at h
  by_cases c:i<Z.length
  ·have e1:(Z.map (·.2)).toArray[i]? = some Z[i].2:=(by simp[c]);have e2:t.place[i]? = some Z[i].1:=(by rw[S.wf.place];simp[slots,c]);have e3:wkS w Z (i+1)=Z[i].1+1:=(by unfold wkS;rw[hb];simp[c]);rw[e1,e2];rw[e3] at h;simpa[c] using h
  ·have e1:(Z.map (·.2)).toArray[i]? = none:=(by simp;lia);rw[e1];have e4:(Z.map (·.2))[i]? = none:=(by simp;lia);rw[e4] at h;exact h
end
end Snd
namespace Snd
open PySem PySem.Spec PySem.W PyProof.Rows L2 Ev SetT
section
variable {prog:Program}{w:World}{A:Around}{E:Value->Shared->Prop}{s:Shared}{a I:Addr}{Z:List Ent}{t:SetTable}{ep i:Nat}
theorem q6i:(wkO w a ep Z).length=Z.length:=by have:=(q9p w a ep Z).length_eq;simpa using this
theorem q4B {Q:Array (Int×Value)->Shared->Prop}(S:SetIn s.heap a Z t ep) (h:Q (Z.map (·.2)).toArray s):wpAny (model prog w) A (setEntries a) Q E s:=by unfold setEntries;exact wpAny_bind (q1F S (wpAny_pure h))
theorem qGu (S:SetIn s.heap a Z t ep) (le:t.led=!byT w) (hit:ItAt s.heap I a (wkS w Z i) i Z.length ep) {e:Int×Value}(he:(wkO w a ep Z)[i]? = some e) {Q:Option Value->Shared->Prop}
  (hQ:∀h',ItAt h' I a (wkS w Z (i+1)) (i+1) Z.length ep->Heap.SameBut I s.heap h'->Q (some e.2) {s with heap:=h'}):wpAny (model prog w) A (pyNext (.ref I)) Q E s:=by
 obtain⟨o,ho,hc,hd⟩:=hit;have hT:s.TypeIs (.ref I) "set_iterator":=⟨o,ho,hc⟩
 have hi:i<Z.length:=by rw[<-q6i (w:=w) (a:=a) (ep:=ep)];exact (Qd.mp he).1
 unfold pyNext;refine wpAny_bind (wpAny_attempt (wpAny_callSpecial?_slot (name:=Str.ofString "__next__") hT q4A (wpAny_call_entry q4A hT q7o ?_ (q7p _))));show wpAny _ _ (fieldsOf (.ref I) >>= _) _ _ s;refine wpAny_bind (wpAny_fieldsOf ho hd ?_);show wpAny _ _ (setEntries a >>= _) _ _ s;refine wpAny_bind (q4B S ?_);rw[if_neg (by simp)];show wpAny _ _ (setNext a (wkS w Z i) i ep >>= _) _ _ s;refine wpAny_bind (q9q S le (by lia) ?_);rw[he];dsimp only[Option.map];have g1:=Heap.get?_update_self (Obj.mapFields (·.setIfInBounds 0 (rawInt (wkS w Z (i+1))))) ho (Obj.isFreed_of_fields (Obj.data_mapFields hd _));have d1:=Obj.data_mapFields hd (·.setIfInBounds 0 (rawInt (wkS w Z (i+1))));refine wpAny_bind (wpAny_setField ho hd (by simp) (wpAny_bind (wpAny_setField g1 d1 (by simp) (wpAny_pure ⟨e.2,rfl,wpAny_pure (hQ _ ?_ ?_)⟩))))
 ·refine⟨_,Heap.get?_update_self _ g1 (Obj.isFreed_of_fields (Obj.data_mapFields d1 _)),?_,?_⟩
  ·exact (Obj.cls_mapFields ..).trans ((Obj.cls_mapFields ..).trans hc)
  ·rw[Obj.data_mapFields d1];simp[rawInt]
 ·exact (Heap.SameBut.update ..).trans (Heap.SameBut.update ..)
end
end Snd
namespace Snd
open PySem PySem.Spec PySem.W PyProof.Rows L2 Ev SetT
section
variable {prog:Program}{w:World}{A:Around}{E:Value->Shared->Prop}{s:Shared}{a I:Addr}{Z:List Ent}{t:SetTable}{ep i:Nat}
theorem qJo (hh:A.handled=none) (S:SetIn s.heap a Z t ep) (le:t.led=!byT w) (hit:ItAt s.heap I a (wkS w Z Z.length) Z.length Z.length ep) {Q:Option Value->Shared->Prop}
  (hQ:∀h',Heap.ExtBut I s.heap h'->Q none {s with heap:=h'}):wpAny (model prog w) A (pyNext (.ref I)) Q E s:=by
 obtain⟨o,ho,hc,hd⟩:=hit;have hT:s.TypeIs (.ref I) "set_iterator":=⟨o,ho,hc⟩
 have he:(wkO w a ep Z)[Z.length]? = none:=by rw[Jb,q6i];exact Qi _
 unfold pyNext;refine wpAny_bind (wpAny_attempt (wpAny_callSpecial?_slot (name:=Str.ofString "__next__") hT q4A (wpAny_call_entry q4A hT q7o ?_ (q7p _))));show wpAny _ _ (fieldsOf (.ref I) >>= _) _ _ s;refine wpAny_bind (wpAny_fieldsOf ho hd ?_);show wpAny _ _ (setEntries a >>= _) _ _ s;refine wpAny_bind (q4B S ?_);rw[if_neg (by simp)];show wpAny _ _ (setNext a (wkS w Z Z.length) Z.length ep >>= _) _ _ s;refine wpAny_bind (q9q S le (Qi _) ?_);rw[he];dsimp only[Option.map];refine wpAny_bind (wpAny_setField ho hd (by simp) ?_);refine wpAny_bind (show wpAny _ _ (newExc (.type "StopIteration") []) _ _ _ from ?_);simp only[newExc,newTuple];refine wpAny_bind (wpAny_newObj_type ?_ (by size_fits));refine wpAny_bind (m:=firstArgMember _ _) (wpAny_of_eq (a:=Value.none) (by simp only[firstArgMember];rfl) ?_);refine wpAny_newObj_type ?_ (by size_fits);simp only[raiseNew];refine wpAny_bind (wpAny_handled ?_);rw[show A.in1.handled=none from hh];refine (wpAny_bind (wpAny_pure (wpAny_throw ?_)));refine (wpAny_bind (wpAny_isInstance (b:=true) (T := "StopIteration") ⟨_,Heap.get?_push_size _ rfl,rfl⟩ isSubtype_stop ?_));exact wpAny_pure (hQ _ (((Heap.SameBut.update ..).extBut.push _).push _))
theorem qGv (hit:s.TypeIs (.ref I) "set_iterator") {Q:Value->Shared->Prop}(h:Q (.ref I) s):wpAny (model prog w) A (pyIter (.ref I)) Q E s:=by refine wpAny_pyIter_slot hit qCI (wpAny_call_entry qCI hit qCJ ?_ (qCK _));show wpAny _ _ (ret (.ref I)) _ _ s;exact wpAny_pure ⟨_,rfl, "set_iterator",_,hit,q4A.lookup,h⟩
theorem qCM (S:SetIn s.heap a Z t ep) {Q:Value->Shared->Prop}
  (h:Q (.ref s.heap.objs.size) {s with heap:=s.heap.push {cls:= .type "set_iterator",data:= .fields #[.int 0 0,.int 0 0,.ref a,.int Z.length 0,.int ep 0]}}):wpAny (model prog w) A (pyIter (.ref a)) Q E s:=by
 obtain⟨o,ho,hx,hd⟩:=S.obj;have hT:s.TypeIs (.ref a) "set":=⟨o,ho,hx.1⟩
 refine wpAny_pyIter_slot hT F.slot_set_iter (wpAny_call_entry F.slot_set_iter hT qAX ?_ (F.args_set_iter_1 _));unfold Builtin.«frozenset.__iter__»;show wpAny _ _ (Builtin.Frozenset.sizeOf a >>= _) _ _ s;unfold Builtin.Frozenset.sizeOf;refine wpAny_bind (wpAny_bind (q4B S (wpAny_pure ?_)));unfold setDrawn;refine wpAny_bind (wpAny_bind (q1F S (wpAny_bind (q8f (wpAny_pure ?_)))));have e0:(!byT w&&(!t.plain&&decide ((Z.map (·.2)).toArray.size > 1)))=false:=by rw[S.plain];simp
 refine wpAny_ite_split (λ z=>absurd (show (!byT w&&(!t.plain&&decide ((Z.map (·.2)).toArray.size > 1)))=true from z) (by rw[e0];decide)) λ _=>?_;refine wpAny_bind (wpAny_pure ?_);unfold setEpoch;refine wpAny_bind (wpAny_bind (q1F S (wpAny_pure ?_)));unfold newFields;refine wpAny_bind (wpAny_newObj_type ?_);have T1:Shared.TypeIs {s with heap:=s.heap.push {cls:= .type "set_iterator",data:= .fields #[.int 0 0,.int 0 0,.ref a,.int Z.length 0,.int ep 0]}} (.ref s.heap.objs.size) "set_iterator":=⟨_,Heap.get?_push_size _ rfl,rfl⟩
 rw[show (Z.map (·.2)).toArray.size=Z.length by simp];exact wpAny_pure ⟨_,rfl, "set_iterator",_,T1,q4A.lookup,h⟩
theorem qEK (hT:s.TypeIs (.ref a) "set") {Q:Bool->Shared->Prop}(h:Q false s):wpAny (model prog w) A (Builtin.List.listLengthHint (.ref a)) Q E s:=by
 unfold Builtin.List.listLengthHint;refine wpAny_bind (wpAny_specialOf hT F.slot_set_len.lookup ?_);generalize hid:("set.__len__":String)=id0
 wp_delta
 rw[show splitId id0=some ("set", "__len__") by subst hid;decide +kernel];subst hid;refine wpAny_bind (wpAny_isInstance (T := "set") (b:=true) hT sub_set_self ?_);refine wpAny_ite_split (λ z=>absurd z (by decide)) λ _=>wpAny_ite_split (λ _=>?_) λ z=>absurd (by decide +kernel) z;exact wpAny_bind (wpAny_typeOf hT (wpAny_pure h))
theorem ItAt.at {h h':Heap}{sl n:Nat}(x:ItAt h I a sl i n ep) (k:∀o,h.get? I=some o->h'.get? I=some o):ItAt h' I a sl i n ep:=let ⟨o,e,r⟩:=x;⟨o,k o e,r⟩
theorem SetIn.at {h h':Heap}(S:SetIn h a Z t ep) (k:∀o,h.get? a=some o->h'.get? a=some o):SetIn h' a Z t ep:=let ⟨⟨o,e,r⟩,wf,pl⟩:=S;⟨⟨o,k o e,r⟩,wf,pl⟩
theorem qCN (hh:A.handled=none) (le:t.led=!byT w) (hne:a≠I) :
  Walks prog w A I [I,a] [I] Z.length (λ i v=>∃e,(wkO w a ep Z)[i]? = some e/\v=e.2) (λ i h=>ItAt h I a (wkS w Z i) i Z.length ep/\SetIn h a Z t ep) where
 sub:=λ b hb=>Qf.mpr (.inl (Qs.mp hb))
 frame:=λ i h h' st k=>And.intro (st.1.at λ o e=>k I (by simp) o e) (st.2.at λ o e=>k a (by simp) o e)
 item:=λ i s Q E hi st hQ=>by
  have hl:i<(wkO w a ep Z).length:=by rw[q6i];exact hi
  refine qGu st.2 le st.1 (Ql hl) λ h' it' k=>hQ _ h' s.toks ⟨_,Ql hl,rfl⟩ ⟨it',st.2.at λ o e=>?_⟩ λ b o hb e=>?_
  ·rw[k.2 a hne];exact e
  ·rw[k.2 b (λ z=>hb (by simp[z]))];exact e
 done:=λ s Q E st hQ=>qJo hh st.2 le st.1 λ h' k=>hQ h' s.toks λ b o hb e=>k b o (λ z=>hb (by simp[z])) e
 self:=λ i s Q E st hQ=>let ⟨o,ho,hc,_⟩:=st.1;qGv ⟨o,ho,hc⟩ hQ
theorem qGw (le:t.led=!byT w):KdlSrc prog w "set" a a Z.length (λ i v=>∃e,(wkO w a ep Z)[i]? = some e/\v=e.2) (λ h=>SetIn h a Z t ep) where
 type:=λ s S=>let ⟨o,ho,hx,_⟩:=S.obj;⟨o,ho,hx.1⟩
 there:=λ h S=>let ⟨o,ho,_⟩:=S.obj;⟨Heap.lt_size ho,Heap.lt_size ho⟩
 keep:=λ h h' S k=>S.at λ o e=>k a (.inl rfl) o e
 notList:=by decide
 notTuple:=by decide
 hint:=λ A E s Q S hq=>let ⟨o,ho,hx,_⟩:=S.obj;qEK ⟨o,ho,hx.1⟩ hq
 iter:=λ A s hh S=>by
  obtain⟨o,ho,hx,hd⟩:=S.obj;have e0:wkS w Z 0=0:=by unfold wkS;split<;>rfl
  refine⟨{cls:= .type "set_iterator",data:= .fields #[.int 0 0,.int 0 0,.ref a,.int Z.length 0,.int ep 0]},_,λ E Q hq=>qCM S hq,qCN hh le (Qy (Heap.lt_size ho)),⟨_,Heap.get?_push_size _ rfl,rfl,?_⟩,S.at λ o e=>Heap.get?_push_of_some _ e⟩;rw[e0];rfl
end
end Snd
namespace Snd
open PySem PySem.Spec PySem.W PyProof.Rows L2 Ev SetT
theorem q28:∀{l:List D}{d:D},q08 l=true->(d∈dedup l↔d∈l)
 |[],d,_=>by simp[dedup]
 |x::l,d,h=>by
  have hx:=q0D.mp h;have hl:q08 l=true:=q0D.mpr λ e he=>hx e (Qa _ he);unfold dedup;split
  ·rename_i c;obtain⟨y,hy,ey⟩:=QQ.mp c;have exy:=(q0T (hx x Qb) (hx y (Qa _ hy))).mp ey;rw[q28 hl,Qf];exact⟨.inr,λ q=>q.elim (λ e=>by rw[e,exy];exact hy) id⟩
  ·rw[Qf,Qf,q28 hl]
theorem sub_len:∀{a b:List D},a.Nodup->(∀x∈a,x∈b)->a.length<=b.length
 |[],_,_,_=>QM _
 |x::a,b,nd,h=>by
  have nd':=QG.mp nd;obtain⟨b1,b2,rfl⟩:=List.append_of_mem (h x Qb);have:=sub_len (a:=a) (b:=b1++b2) nd'.2 λ y hy=>by
   have hne:y≠x:=λ q=>nd'.1 (q▸hy);have:=h y (Qa _ hy);simp only[Qq,Qf] at this |-;rcases this with q|q|q
   ·exact .inl q
   ·exact absurd q hne
   ·exact .inr q
  simp only[QA,Qu] at this |-;lia
theorem q5z:∀{a b:List D},a.Nodup->b.Nodup->(∀x,x∈a↔x∈b)->a.Perm b
 |[],b,_,_,h=>by
  cases b with
  |nil=>exact .nil
  |cons y b=>exact absurd ((h y).mpr Qb) (by simp)
 |x::a,b,na,nb,h=>by
  have na':=QG.mp na;obtain⟨b1,b2,rfl⟩:=List.append_of_mem ((h x).mp Qb);have pm:(b1++x::b2).Perm (x::(b1++b2)):=List.perm_middle;have nb':=QG.mp (pm.nodup_iff.mp nb);refine (List.Perm.cons x (q5z na'.2 nb'.2 λ y=>?_)).trans pm.symm;have hy:=h y;rw[pm.mem_iff,Qf,Qf] at hy;constructor
  ·intro q;exact (hy.mp (.inr q)).resolve_left λ e=>na'.1 (e▸q)
  ·intro q;exact (hy.mpr (.inr q)).resolve_left λ e=>nb'.1 (e▸q)
theorem SoOk.perm {a b:List D}(h:SoOk a) (p:b.Perm a):SoOk b:=by have m:∀d∈b,d∈a:=λ d hd=>p.mem_iff.mp hd;exact⟨by rw[p.length_eq];exact h.len,λ d hd=>h.hsh d (m d hd),λ d hd=>h.pln d (m d hd),λ x hx y hy=>h.cmp x (m x hx) y (m y hy),p.symm.pairwise h.dif λ e q=>e q.symm⟩
theorem qAY {a b:List D}(h:SoOk a) (p:b.Perm a):q20 b=q20 a:=by have m:∀d∈q20 b,d∈a:=λ d hd=>p.mem_iff.mp ((q0F b).mem_iff.mp hd);exact q24 (((q0F b).trans p).trans (q0F a).symm) (λ d hd=>h.hsh d (m d hd)) (λ x hx y hy=>h.cmp x (m x hx) y (m y hy)) (q1h (h.perm p).hsh) (q1h h.hsh)
theorem qCO {p:Pm}{Hf:Hp}{xs:List D}{vs:List V}{us:List Value}(r:RepL p Hf xs vs) (rv:Vals vs us):∀(P:List ((Int×Value)×D)),(∀q∈P,∃i:Nat,xs[i]? = some q.2/\us[i]? = some q.1.2)->
  ∃vs2,RepL p Hf (P.map (·.2)) vs2/\Vals vs2 (P.map (·.1.2))
 |[],_=>⟨[],rfl,.nil⟩
 |q::P,h=>by obtain⟨vs2,h1,h2⟩:=qCO r rv P λ x hx=>h x (Qa _ hx);obtain⟨i,e1,e2⟩:=h q Qb;obtain⟨v,e3,rp⟩:=r.get e1;obtain⟨u,e4,rl⟩:=rv.get e3;rw[e2] at e4;cases e4;exact⟨v::vs2,⟨v,vs2,rfl,rp,h1⟩,.cons rl h2⟩
end Snd
namespace Snd
open PySem PySem.Spec PySem.W PyProof.Rows L2 Ev SetT
section
variable {X:Cx}{p:Pm}{G:Nat->List D->R D}{sub:Nat->Nat->Bool}
theorem qJp (hK:p.K=X.K) {pins:List (Addr×Obj)}{s:Shared}{σ:L2.St}{H:Hp}{O:List Addr}{d:D}{v:V}{u:Value}{xs:List D}(I:Inv X pins σ H s) (rv:RelV v u) (q:RepB p H (fz O H) d v) (hi:q1u d = .ok xs) :
  ∃l us vs ty St,u = .ref l/\Src X.prog X.w ty l us s.heap St/\RepL p (fz O H) xs vs/\Vals vs us/\vs.length<=sizeLine:=by
 cases d<;>first
  |(exfalso;simpa[q1u] using hi)
  |skip
 ·cases hi;obtain⟨a,vs,rfl,s1,z,r1⟩:=q;cases rv;obtain⟨its,rv,tp,hz⟩:=I.tuple (hK▸q0Y.sqT s1:SqT X.K H a vs);exact⟨a,its,vs,_,_,rfl,src_tuple tp,r1,rv,hz⟩
 ·cases hi;obtain⟨a,vs,rfl,s1,r1⟩:=q;cases rv;obtain⟨its,rv,pt,hz⟩:=I.list (hK▸s1:SqL X.K H a vs);exact⟨a,its,vs,_,_,rfl,src_list pt.isList,r1,rv,hz⟩
theorem qGx (hK:p.K=X.K) (hc:X.calm=true) (hu:X.A.units+64<cLine) {E:Value->Shared->Prop}{pins:List (Addr×Obj)}{s:Shared}{σ:L2.St}{H:Hp}{os:List (List Addr)}{d r:D}{v:V}{u:Value}(I:Inv X pins σ H s) (t:Th os.flatten H) (rv:RelV v u) (q:RepB p H (fz os.flatten H) d v) (h:biD sub .sortedSet [d] = .ok r) :
  wpAny (model X.prog X.w) X.A (call (.type "set") [u]) (λ x s2=>wpAny (model X.prog X.w) X.A (call (.builtin "sorted") [x]) (EP (X.wish E) pins σ (Fin p os.flatten H r)) E s2) E s:=by
 cases hi:q1u d with
 |stuck=>exact absurd (show (q1u d).bind _ = .ok r from h) (by rw[hi];intro z;cases z)
 |err c=>exact absurd (show (q1u d).bind _ = .ok r from h) (by rw[hi];intro z;cases z)
 |ok xs =>
  have h':(if q08 xs&&plL xs&&decide (xs.length<=1000)&&q1B (dedup xs) then R.ok (D.lst (q20 (dedup xs))) else .stuck) = .ok r:=by rw[<-h];show _=(q1u d).bind _;rw[hi];rfl
  split at h'
  ·rename_i cs;cases h';simp only[Qc] at cs;obtain⟨⟨⟨c1,c2⟩,c3⟩,so⟩:=cs;obtain⟨sk,kd⟩:=qBm so;obtain⟨l,us,vs,ty,St,rfl,S,r1,rvs,hz⟩:=qJp hK I rv q hi;have dx:DvL s.heap xs us:=(q2T hK I).2 xs vs us (r1.mono q0Y) rvs;have hA:=I.ok.hd hc;have hpl:∀d∈xs,plN 8 d=true:=λ d hd=>q1V.mp c2 d hd;have kn:Kin xs:=by
    rcases kd with kd|kd
    ·refine .inr λ d hd=>?_;have:=kd d ((q28 c1).mpr hd);cases d<;>first|exact⟨_,rfl⟩|cases this
    ·refine .inl λ d hd=>?_;have:=kd d ((q28 c1).mpr hd);cases d<;>first|exact⟨_,rfl⟩|cases this
   have hl:∀l:List D,l.Nodup->(∀d∈l,d∈xs)->l.length<64:=λ l nd hm=>Q8 (sub_len nd λ d hd=>(q28 c1).mpr (hm d hd)) sk.len;refine qJn S hA dx kn c1 hpl (by lia) hl λ h1 tk1 ⟨ds,SD,nd,mem⟩=>?_;obtain⟨⟨Z,tb,ep,P,Si,pr,e1,e2,tf,le,mm⟩,kp,nw⟩:=SD;obtain⟨P2,p1,p2⟩:=q5I (·.1) (e1▸q9p X.w s.heap.objs.size ep Z) P rfl;have I1:Inv X pins σ H {s with heap:=h1,toks:=tk1}:=I.kept kp;have pm:(P2.map (·.2)).Perm (dedup xs):=((p1.map (λ q=>q.2)).trans e2).trans (q5z nd sk.dif λ x=>(mem x).trans (q28 c1).symm);have sk2:=sk.perm pm;obtain⟨vs2,w1,w2⟩:=qCO r1 rvs P2 λ q hq=>mm q (p1.mem_iff.mp hq);have hz2:vs2.length<=sizeLine:=by have:=sk2.len;rw[<-w1.length,sizeLine_eq];lia
   have kd2:(∀d∈P2.map (·.2),q4S d=true)\/∀d∈P2.map (·.2),q1g d=true:=by
    rcases kd with kd|kd
    ·exact .inl λ d hd=>kd d (pm.mem_iff.mp hd)
    ·exact .inr λ d hd=>kd d (pm.mem_iff.mp hd)
   have hwl:(wkO X.w s.heap.objs.size ep Z).length=P2.length:=(by rw[<-p2];simp);have hZl:Z.length=P2.length:=(by rw[<-q6i (w:=X.w) (a:=s.heap.objs.size) (ep:=ep)];exact hwl);refine Srt.q7V (s:={s with heap:=h1,toks:=tk1}) (Gv:=λ us'=>us'=P2.map (·.1.2)) sk2.len sk2.ord (λ us' e=>by rw[e];simp) (λ R hR=>?_) (λ us' e h2 h'' tk k=>?_) λ us' q D h'' tk e eu Pq U k nD g=>?_
   ·refine PySem.W.kdu_collect (A:=X.A.in1) (qGw (t:=tb) (Z:=Z) (ep:=ep) le) (by simp[hA]) Si (by rw[hZl,sizeLine_eq];have:=sk2.len;simp at this;lia) λ h3 tk3 acc k3 it=>hR _ h3 tk3 ?_ k3;obtain⟨a1,a2⟩:=it;apply List.ext_getElem?;intro i;cases ea:acc.toList[i]? with
    |none =>
     have:P2.length<=i:=by have:=Jb.mp ea;rw[Array.length_toList,a1,hZl] at this;exact this
     rw[Je (by simpa using this)]
    |some v' =>
     rw[Array.getElem?_toList] at ea;obtain⟨e',f1,f2⟩:=a2 i v' ea;rw[<-p2,Qt] at f1;rw[Qt];cases ep2:P2[i]? with
     |none=>rw[ep2] at f1;cases f1
     |some q'=>rw[ep2] at f1;cases f1;rw[f2];rfl
   ·subst e;exact qBq (s:={s with heap:=h'',toks:=tk}) (by show X.A.units+1+1+8<cLine;lia) sk2 kd2 ((q57 k).2 _ _ ((q2T hK I1).2 _ vs2 _ (w1.mono q0Y) w2)) h2
   ·subst eu;rw[<-qAY sk pm,<-q7W sk2 Pq U];exact q58 I1 t w1 w2 hz2 Pq rfl k nD g
  ·cases h'
end
end Snd
namespace Snd
open PySem PySem.Spec PySem.W PyProof.Rows L2 Ev SetT
theorem qCP:bootBuiltins "set" = some (.type "set"):=by kernel_rfl
theorem sset:SSet:=by
 intro X p G sub a la q q2 q3 pos hK hc hu m1 m2 ha oa g1 g2 pins s σ H ρ os I R hs;have hst:starEach [a] X.env=[(false,eval a X.env)]:=q14 oa;have hst2:starEach [.Call (.Name "set" q2) [a] [] q3] X.env=[(false,eval (.Call (.Name "set" q2) [a] [] q3) X.env)]:=q14 rfl;refine wpAny_Call_Name_kw (q1r I g1 m1 PyProof.Rows.boot_sorted ?_);refine PyProof.Rows.callWith_builtin1 ?_ hst2 rfl;rw[hst2];show wpAny _ _ (spliced ((false,eval (.Call (.Name "set" q2) [a] [] q3) X.env)::backTo pos [])) _ _ s;refine Calls.spliced_cons (wpAny_mono (Q:=λ x s2=>wpAny (model X.prog X.w) X.A (call (.builtin "sorted") [x]) (Gd X p pins σ os H (ev G sub (.bi .sortedSet [la]) ρ)) (Er X p pins σ H (ev G sub (.bi .sortedSet [la]) ρ)) s2) (E:=Er X p pins σ H (ev G sub (.bi .sortedSet [la]) ρ)) ?_ (λ x s2 h=>Calls.spliced_nil h) λ _ _ z=>z);refine wpAny_Call_Name_kw (q1r I g2 m2 qCP ?_);refine PyProof.Rows.callWith_type1 (q8X ha hst I R (q7R hs) (λ u s1 h=>?_) (λ _ _=>q7Q)) hst rfl;obtain⟨d,v,H1,e1,I1,r1,x1,q1⟩:=h;have e0:ev G sub (.bi .sortedSet [la]) ρ=biD sub .sortedSet [d]:=by rw[q1S,q2B (f:=λ d=>biD sub .sortedSet [d]) la ρ _ (λ _=>rfl),e1];rfl
 rw[e0] at hs |-;rcases q6U sub .sortedSet [d] with z|⟨r,z⟩
 ·exact absurd z hs
 ·rw[z];exact wpAny_mono (qGx hK hc hu (E:=Er X p pins σ H (.ok r)) I1 (R.ext x1).th r1 q1 z) (λ x s2 h2=>wpAny_mono h2 (λ w s3 h3=>qAR x1 rfl h3) λ _ _ z=>z) λ _ _ z=>z
end Snd
namespace Mk
open PySem Ev
def q4e (c:Int):Ev.L:= .op .add (.op .add (.op .add (.var 1) (.con (.int c))) (.op .mul (.con (.int 4)) (.var 5))) (.var 7)
def q4C:List Ev.S:=[.aug 2 .bor (.call 0 [(.var 3)]),.set 3 (.call 6 [(.var 0),(.var 2),(.var 1)])]
def qEL:List Ev.S:=[.set 6 (.op .bor (.var 4) (.op .shl (.con (.int 1)) (.var 5))),.ifs (.e (.cm .nmem (.var 6) (.bor 2))) [.put 2 (.var 6) (.con (.bl true)),.app 3 (.var 6)] []]
def qCQ:List Ev.S:=[.pop 4 3,.forr 0 [5] (.e (.call 6 [(.var 0),(.var 4),(.var 1)])) qEL]
def q5J:List Ev.S:=[.ifs (.or (.not (.e (.call 9 [(.var 3)]))) (.or (.e (.cm .le (.var 3) (.var 2))) (.e (.cm .ge (.var 3) (.var 0))))) [.ret (.con (.bl false))] [],.set 2 (.var 3)]
def q60:List Ev.S:=[.expr (.call 12 [(.var 1),(.var 3)])]
def q61:List Ev.S:=[.ifs (.e (.cm .ge (.idx (.var 2) (.op .sub (.var 4) (.con (.int 1)))) (.idx (.var 2) (.var 4)))) [.raise 1] []]
def q9r:Ev.S:= .ifs (.or (.not (.e (.bi .isTup [(.var 0)]))) (.e (.cm .ne (.bi .len [(.var 0)]) (.con (.int 2))))) [.raise 1] []
def q62:Ev.S:= .ifs (.or (.not (.e (.call 9 [(.var 1)]))) (.or (.e (.cm .lt (.var 1) (.con (.int 0)))) (.e (.cm .gt (.var 1) (.con (.int 10)))))) [.raise 1] []
def q9s:Ev.S:= .ifs (.or (.not (.e (.bi .isLst [(.var 2)]))) (.e (.cm .gt (.bi .len [(.var 2)]) (.con (.int 1300))))) [.raise 1] []
def qCR:List Ev.S:=[.app2 1 (.idx (.var 2) (.con (.int 0))) (.call 0 [(.idx (.var 2) (.con (.int 1)))])]
def qGy:Ev.L:= .comp 2 (.var 1) (.e (.idx (.var 0) (.con (.int 1)))) [(.and (.e (.cm .eq (.var 0) (.var 5))) (.e (.bi .all [(.comp 0 (.cm .mem (.var 0) (.var 4)) (.e (.var 1)) [])])))]
def qAZ:List Ev.S:=[.set 4 qGy,.ifs (.and (.e (.cm .nmem (.var 3) (.var 1))) (.e (.cm .ne (.var 4) (.lst [])))) [.app 2 (.var 3)] []]
def qCS:Ev.L:= .comp 0 (.var 0) (.e (.var 2)) [(.e (.cm .ne (.var 0) (.var 4)))]
def qGz:Ev.T:= .and (.e (.cm .nmem (.var 2) (.bor 1))) (.and (.e (.cm .mem (.var 4) (.bor 1))) (.e (.cm .mem (.var 3) (.call 31 [(.var 0),(.var 4)]))))
def qEM:List Ev.S:=[.set 4 (.bi .tuple [qCS]),.ifs qGz [.app 1 (.var 2)] []]
def qAa:List Ev.S:=[.forr 0 [3] (.e (.var 2)) qEM]
def q4Y:List Ev.L:=[(.con (.int 1)),(.con (.int 2)),(.con (.int 4)),(.con (.int 8)),(.con (.int 16)),(.con (.int 32)),(.con (.int 64))]
def qH0:Ev.S:= .set 8 (.call 28 [(.var 0),q4e 10,(.var 6)])
def qEN:Ev.S:= .ifs (.e (.cm .gt (.op .mod (.call 27 [(.var 0),q4e 40]) (.con (.int 3))) (.con (.int 0)))) [.set 8 (.sl 0 (.var 8) [] [(.op .add (.con (.int 1)) (.op .mod (.call 27 [(.var 0),q4e 41]) (.con (.int 2))))])] []
def qH1:Ev.S:= .app 4 (.tup [(.var 5),(.ite (.e (.cm .gt (.op .mod (.call 27 [(.var 0),(.op .add (.op .add (.var 1) (.con (.int 70))) (.var 5))]) (.con (.int 4))) (.con (.int 0)))) (.var 8) (.tup []))])
def q7q:List Ev.S:=[qH0,qEN,qH1]
def qH2:Ev.L:= .comp 0 (.var 0) (.rng [(.var 3)]) [(.e (.cm .ne (.var 0) (.var 6)))]
def qEO:Ev.L:= .idx (.lst [(.con (.int 1)),(.con (.int 1)),(.con (.int 2)),(.con (.int 2)),(.con (.int 3)),(.con (.int 0))]) (.op .mod (.call 27 [(.var 0),(.op .add (.op .add (.var 1) (.con (.int 1))) (.var 5))]) (.con (.int 6)))
def q4D:List Ev.S:=[.set 6 qH2,.forr 0 [7] (.rng [qEO]) q7q]
def qEP:Ev.S:= .set 3 (.op .mod (.call 27 [(.var 0),(.var 1)]) (.op .add (.var 2) (.con (.int 1))))
def q7r:List Ev.S:=[.set 1 (.con (.int 0)),.forr 0 [2] (.e (.var 0)) [.aug 1 .bor (.op .shl (.con (.int 1)) (.var 2))],.ret (.var 1)]
def q5K:List Ev.S:=[.ret (.bi .tuple [(.comp 0 (.var 0) (.rng [(.bi .bits [(.var 0)])]) [(.e (.call 2 [(.var 1),(.var 0)]))])])]
def qCT:List Ev.S:=[.ret (.cm .eq (.op .band (.op .shr (.var 0) (.var 1)) (.con (.int 1))) (.con (.int 1)))]
def q3c:List Ev.S:=[.ret (.op .sub (.op .shl (.con (.int 1)) (.var 0)) (.con (.int 1)))]
def q63:List Ev.S:=[.setE 1 (.idx (.var 0) (.con (.int 0))),.forr 0 [2] (.e (.idx (.var 0) (.con (.int 1)))) qCR,.retO 1]
noncomputable def q5L:List Ev.S:=[.ifs (.e (.call 2 [(.var 1),(.var 2)])) [.ret (.con (.bl false))] [],.forr 0 [3] (.e (.idx (.var 0) (.var 2))) [.ifs (.e (.cm .eq (.op .band (.var 3) (.var 1)) (.var 3))) [.ret (.con (.bl true))] []],.ret (.con (.bl false))]
def q3d:List Ev.S:=[.ret (.comp 0 (.var 0) (.e (.call 1 [(.var 2)])) [(.e (.call 5 [(.var 1),(.var 2),(.var 0)]))])]
def q3e:List Ev.S:=[.set 2 (.con (.int 0)),.set 3 (.call 6 [(.var 0),(.var 2),(.var 1)]),.whl (.e (.var 3)) q4C,.ret (.var 2)]
def q2Y:List Ev.S:=[.setO 2 (.dct (.con (.int 0)) (.con (.bl true))),.setO 3 (.lst [(.con (.int 0))]),.whl (.e (.bor 3)) qCQ,.retO 2]
def q2k:List Ev.S:=[.ret (.and (.bi .isInt [(.var 0)]) (.not (.bi .isBool [(.var 0)])))]
def q9t:List Ev.S:=[.ifs (.not (.e (.bi .isTup [(.var 1)]))) [.ret (.con (.bl false))] [],.set 2 (.neg (.con (.int 1))),.forr 0 [3] (.e (.var 1)) q5J,.ret (.con (.bl true))]
def q4Z:List Ev.S:=[q9r,.set 1 (.idx (.var 0) (.con (.int 0))),.set 2 (.idx (.var 0) (.con (.int 1))),q62,q9s,.forr 0 [3] (.e (.var 2)) q60,.forr 0 [4] (.rng [(.con (.int 1)),(.bi .len [(.var 2)])]) q61]
noncomputable def q19:List Ev.S:=[.ifs (.or (.not (.e (.bi .isTup [(.var 1)]))) (.e (.cm .ne (.bi .len [(.var 1)]) (.con (.int 2))))) [.raise 1] [],.set 2 (.idx (.var 1) (.con (.int 0))),.set 3 (.idx (.var 1) (.con (.int 1))),.ifs (.or (.not (.e (.call 9 [(.var 2)]))) (.or (.e (.cm .lt (.var 2) (.con (.int 0)))) (.e (.cm .ge (.var 2) (.var 0))))) [.raise 1] [],.ifs (.not (.e (.call 10 [(.var 0),(.var 3)]))) [.raise 1] [],.ifs (.e (.cm .mem (.var 2) (.var 3))) [.raise 1] []]
def q1L:List Ev.S:=[.expr (.call 11 [(.var 0)]),.ifs (.not (.e (.call 10 [(.idx (.var 0) (.con (.int 0))),(.var 1)]))) [.raise 2] []]
def q0Q:List Ev.S:=[.ifs (.not (.e (.call 16 [(.var 0),(.var 1)]))) [.raise 2] []]
def q0s:List Ev.S:=[.expr (.call 11 [(.var 0)]),.ret (.call 8 [(.call 4 [(.var 0)]),(.call 3 [(.idx (.var 0) (.con (.int 0)))])])]
def q1M:List Ev.S:=[.ret (.cm .eq (.call 17 [(.var 0),(.var 1)]) (.var 1))]
def q5M:List Ev.S:=[.expr (.call 13 [(.var 0),(.var 1)]),.ret (.call 1 [(.call 7 [(.call 4 [(.var 0)]),(.call 0 [(.var 1)])])])]
def q8g:List Ev.S:=[.set 1 (.call 15 [(.var 0)]),.ret (.call 19 [(.idx (.var 0) (.con (.int 0))),(.var 1)])]
def q64:List Ev.S:=[.setO 2 (.lst []),.forr 0 [3] (.rng [(.var 0)]) [.ext 2 (.comp 0 (.tup [(.var 4),(.call 1 [(.var 0)])]) (.e (.call 20 [(.var 1),(.var 3)])) [])],.ret (.tup [(.var 0),(.bi .sorted [(.bor 2)])])]
noncomputable def q2M:List Ev.S:=[.setO 2 (.lst []),.forr 0 [3] (.e (.bi .sorted [(.var 0)])) [.ifs (.and (.e (.call 21 [(.var 0),(.var 3),(.var 1)])) (.not (.e (.bi .any [(.comp 0 (.cm .eq (.op .band (.var 4) (.var 0)) (.var 0)) (.b 2) [])])))) [.app 2 (.var 3)] []],.retO 2]
def q8h:List Ev.S:=[.ret (.and (.not (.call 2 [(.var 1),(.var 2)])) (.cm .mem (.op .bor (.var 1) (.op .shl (.con (.int 1)) (.var 2))) (.var 0)))]
def q0G:List Ev.S:=[.expr (.call 11 [(.var 0)]),.expr (.call 11 [(.var 1)]),.ifs (.e (.cm .ne (.idx (.var 0) (.con (.int 0))) (.idx (.var 1) (.con (.int 0))))) [.raise 3] []]
noncomputable def q1b:List Ev.S:=[.expr (.call 22 [(.var 0),(.var 1)]),.set 2 (.call 15 [(.var 1)]),.setO 3 (.con (.dct [] [])),.forr 0 [4] (.e (.call 15 [(.var 0)])) [.forr 0 [5] (.e (.var 2)) [.put 3 (.op .bor (.var 4) (.var 5)) (.con (.bl true))]],.fz 3 (.ret (.call 19 [(.idx (.var 0) (.con (.int 0))),(.var 3)]))]
noncomputable def q7s:List Ev.S:=[.expr (.call 13 [(.var 0),(.var 1)]),.set 2 (.call 0 [(.var 1)]),.setO 3 (.con (.dct [] [])),.forr 0 [4] (.e (.call 15 [(.var 0)])) [.put 3 (.op .band (.var 4) (.var 2)) (.con (.bl true))],.fz 3 (.ret (.call 19 [(.idx (.var 0) (.con (.int 0))),(.var 3)]))]
noncomputable def q1y:List Ev.S:=[.expr (.call 14 [(.var 0),(.var 1)]),.set 2 (.call 0 [(.var 1)]),.setO 3 (.con (.dct [] [])),.forr 0 [4] (.e (.call 15 [(.var 0)])) [.ifs (.e (.cm .eq (.op .band (.var 4) (.var 2)) (.var 2))) [.put 3 (.op .bxor (.var 4) (.var 2)) (.con (.bl true))] []],.fz 3 (.ret (.call 19 [(.idx (.var 0) (.con (.int 0))),(.var 3)]))]
def q1d:List Ev.S:=[.ifs (.e (.var 0)) [.ret (.idx (.var 0) (.op .mod (.var 1) (.bi .len [(.var 0)])))] [],.ret (.con (.int 0))]
noncomputable def q2Z:List Ev.S:=[.set 2 (.op .mod (.op .add (.call 26 [(.var 0),(.var 1)]) (.op .mul (.con (.int 104729)) (.op .add (.var 1) (.con (.int 1))))) (.con (.int 4294967291))),.set 2 (.op .mod (.op .mul (.var 2) (.con (.int 48271))) (.con (.int 4294967279))),.ret (.op .mod (.op .add (.op .mul (.op .fdiv (.var 2) (.con (.int 64))) (.con (.int 69621))) (.var 2)) (.con (.int 4294967231)))]
noncomputable def q1z:List Ev.S:=[.set 3 (.op .fdiv (.call 27 [(.var 0),(.var 1)]) (.con (.int 8))),.ret (.bi .tuple [(.comp 0 (.idx (.var 3) (.var 0)) (.rng [(.bi .len [(.var 2)])]) [(.e (.cm .eq (.op .mod (.op .fdiv (.var 4) (.idx (.lst q4Y) (.var 0))) (.con (.int 2))) (.con (.int 1))))])])]
def q1n:List Ev.S:=[qEP,.setO 4 (.lst []),.forr 0 [5] (.rng [(.var 3)]) q4D,.ret (.tup [(.var 3),(.bi .sortedSet [(.bor 4)])])]
noncomputable def q0t:List Ev.S:=[.set 1 (.lst [(.tup [])]),.forr 0 [2] (.rng [(.var 0)]) [.set 1 (.op .add (.var 1) (.comp 0 (.op .add (.var 0) (.tup [(.var 3)])) (.e (.var 1)) []))],.ret (.comp 2 (.var 1) (.e (.bi .sorted [(.comp 0 (.tup [(.bi .len [(.var 0)]),(.var 0)]) (.e (.var 1)) [])])) [])]
def q65:List Ev.S:=[.setO 2 (.lst []),.forr 0 [3] (.rng [(.idx (.var 0) (.con (.int 0)))]) qAZ,.retO 2]
def q4a:List Ev.S:=[.setO 1 (.lst [(.tup [])]),.forr 0 [2] (.e (.sl 0 (.call 30 [(.idx (.var 0) (.con (.int 0)))]) [(.con (.int 1))] [])) qAa,.retO 1]
noncomputable def q0R:List Ev.S:=[.ifs (.e (.cm .isN (.var 0) (.con .non))) [.ret (.con (.str "ok"))] [],.set 1 (.lst [(.bi (.isExc 4) [(.var 0)]),(.bi (.isExc 1) [(.var 0)]),(.bi (.isExc 2) [(.var 0)])]),.set 1 (.op .add (.var 1) (.lst [(.bi (.isExc 5) [(.var 0)]),(.bi (.isExc 3) [(.var 0)])])),.ifs (.or (.e (.cm .ne (.bi .count [(.var 1),(.con (.bl true))]) (.con (.int 1)))) (.not (.e (.bi .isVal [(.var 0)])))) [.ret (.con (.str "wrong"))] [],.ret (.idx (.lst [(.con (.str "number")),(.con (.str "rules")),(.con (.str "state")),(.con (.str "text")),(.con (.str "unlike"))]) (.bi .index [(.var 1),(.con (.bl true))]))]
noncomputable def q1e:List Ev.S:=[.set 3 (.con .non),.set 4 (.con .non),.tryE [.ifs (.e (.cm .eq (.var 0) (.con (.int 0)))) [.set 4 (.call 23 [(.var 1),(.var 2)])] [.set 4 (.ite (.e (.cm .eq (.var 0) (.con (.int 1)))) (.call 24 [(.var 1),(.var 2)]) (.call 25 [(.var 1),(.var 2)]))]] 0 5 3,.ret (.ite (.e (.cm .isN (.var 3) (.con .non))) (.var 4) (.call 33 [(.var 3)]))]
noncomputable def q4o:List Ev.S:=[.set 3 (.comp 2 (.var 1) (.e (.bi .sorted [(.comp 0 (.tup [(.bi .len [(.var 0)]),(.var 0)]) (.e (.bi .sortedSet [(.var 2)])) [])])) []),.ret (.and (.bi .isTup [(.var 0)]) (.and (.cm .eq (.idx (.var 0) (.con (.int 0))) (.var 1)) (.and (.cm .eq (.call 32 [(.var 0)]) (.var 3)) (.cm .eq (.call 18 [(.var 0)]) (.var 0)))))]
noncomputable def qCU:List Ev.S:=[.set 1 (.call 29 [(.var 0),(.con (.int 0)),(.con (.int 4))]),.set 2 (.idx (.var 1) (.con (.int 0))),.set 3 (.tup [(.var 2),(.comp 0 (.var 0) (.e (.idx (.call 29 [(.var 0),(.con (.int 110)),(.con (.int 4))]) (.con (.int 1)))) [(.e (.cm .lt (.bi .maxT [(.op .add (.sl 0 (.var 0) [] [(.con (.int 1))]) (.idx (.var 0) (.con (.int 1))))]) (.var 3)))])]),.set 4 (.call 32 [(.var 1)]),.set 5 (.call 32 [(.var 3)]),.set 6 (.lst []),.forr 0 [7] (.e (.var 4)) [.set 6 (.op .add (.var 6) (.comp 0 (.bi .tuple [(.bi .sortedSet [(.op .add (.var 8) (.var 0))])]) (.e (.var 5)) []))],.ifs (.not (.e (.call 35 [(.call 34 [(.con (.int 0)),(.var 1),(.var 3)]),(.var 2),(.var 6)]))) [.ret (.con (.bl false))] [],.set 8 (.call 28 [(.var 0),(.con (.int 200)),(.lrng [(.var 2)])]),.ifs (.not (.e (.call 35 [(.call 34 [(.con (.int 1)),(.var 1),(.var 8)]),(.var 2),(.comp 0 (.bi .tuple [(.comp 0 (.var 0) (.e (.var 0)) [(.e (.cm .mem (.var 0) (.var 10)))])]) (.e (.var 4)) [])]))) [.ret (.con (.bl false))] [],.set 7 (.idx (.var 4) (.op .mod (.call 27 [(.var 0),(.con (.int 201))]) (.bi .len [(.var 4)]))),.set 9 (.comp 0 (.bi .tuple [(.comp 0 (.var 0) (.e (.var 0)) [(.e (.cm .nmem (.var 0) (.var 9)))])]) (.e (.var 4)) [(.e (.bi .all [(.comp 0 (.cm .mem (.var 0) (.var 1)) (.e (.var 8)) [])]))]),.ifs (.not (.e (.call 35 [(.call 34 [(.con (.int 2)),(.var 1),(.var 7)]),(.var 2),(.var 9)]))) [.ret (.con (.bl false))] [],.set 10 (.op .add (.comp 0 (.var 0) (.e (.call 30 [(.var 2)])) [(.e (.cm .nmem (.var 0) (.var 5)))]) (.lst [(.tup [(.var 2)])])),.set 11 (.idx (.var 10) (.op .mod (.call 27 [(.var 0),(.con (.int 202))]) (.bi .len [(.var 10)]))),.set 12 (.lst [(.call 34 [(.con (.int 0)),(.var 1),(.tup [(.op .add (.var 2) (.con (.int 1))),(.lst [])])]),(.call 34 [(.con (.int 1)),(.var 1),(.tup [(.var 2)])]),(.call 34 [(.con (.int 2)),(.var 1),(.var 11)])]),.ifs (.e (.cm .ne (.var 12) (.lst [(.con (.str "unlike")),(.con (.str "state")),(.con (.str "state"))]))) [.ret (.con (.bl false))] [],.set 13 (.tup [(.var 2),(.lst [(.tup [(.var 2),(.tup [])])])]),.set 12 (.lst [(.call 34 [(.con (.int 0)),(.var 13),(.var 1)]),(.call 34 [(.con (.int 0)),(.var 1),(.var 13)])]),.ret (.cm .eq (.op .add (.var 12) (.comp 0 (.call 34 [(.var 0),(.var 14),(.var 12)]) (.e (.tup [(.con (.int 1)),(.con (.int 2))])) [])) (.op .mul (.lst [(.con (.str "rules"))]) (.con (.int 4))))]
def subC (a b:Nat):Bool:=a==b || b==0
noncomputable def dsM:List (Nat×Nat×List Ev.S):=[(1,3,q7r),(1,1,q5K),(2,2,qCT),(1,1,q3c),(1,3,q63),(3,4,q5L),(3,3,q3d),(2,4,q3e),(2,7,q2Y),(1,1,q2k),(2,4,q9t),(1,5,q4Z),(2,4,q19),(2,2,q1L),(2,2,q0Q),(1,1,q0s),(2,2,q1M),(2,2,q5M),(1,2,q8g),(2,4,q64),(2,4,q2M),(3,3,q8h),(2,2,q0G),(2,6,q1b),(2,5,q7s),(2,5,q1y),(2,2,q1d),(2,3,q2Z),(3,4,q1z),(3,9,q1n),(1,3,q0t),(2,5,q65),(1,5,q4a),(1,2,q0R),(3,6,q1e),(3,4,q4o),(1,14,qCU)]
def Gm:Nat->Nat->List D->R D
 |0,_,_=> .stuck
 |n+1,f,xs=>match dsM[f]? with
  |some d=>if xs.length=d.1 then Ev.run (Gm n) subC d.2.1 d.2.2 xs else .stuck
  |none=> .stuck
end Mk
namespace Mk
open Ev
variable {a b k t n:Nat}
def ix:Ix:=⟨0,1,2,3,4,5,6,7,8,9,10,11,12,13,14,15,18,19,20,21,22,23,24,25,26,27,28,29,30⟩
theorem q9u (k:Nat) (ts:List Nat) (h:∀t∈ts,t<=1000) (d:D) (hd:d = .tup (nL ts)\/d = .lst (nL ts)):Gm (k+1) 0 [d] = .ok (nI (q04 0 ts)):=q8U ts h d hd
theorem q8i (k m t:Nat):Gm (k+1) 2 [nI m,nI t] = .ok (.bl (m.testBit t)):=qBQ (G:=Gm k) (sub:=subC) m t
theorem q6j (k m:Nat) (h:m<2^62):Gm (k+2) 1 [nI m] = .ok (.tup (nL (q01 m))):=q6I (f:=ix) (λ m t=>q8i k m t) m h
theorem qLL (k n:Nat) (h:n<=1000):Gm (k+1) 3 [nI n] = .ok (nI (2^n-1)):=q4x n h
theorem qLM (k:Nat) (nd:List (List Nat)) (m t:Nat) (h:t<nd.length):Gm (k+2) 5 [ndD nd,nI m,nI t] = .ok (.bl (mayL nd m t)):=q6J (f:=ix) (λ m t=>q8i k m t) nd m t h
theorem qCV (k:Nat) (nd:List (List Nat)) (m b:Nat) (hb:b<2^nd.length) (hn:nd.length<=60):Gm (k+3) 6 [ndD nd,nI m,nI b] = .ok (.lst (nL (q2O nd m b))) :=
 q4y (f:=ix) (λ m h=>q6j k m h) nd (λ m t h=>qLM k nd m t h) m b hb hn
def Sm (a b:Nat):Prop:=∀i,a.testBit i=true->b.testBit i=true
theorem q4E (a:Nat):Sm a a:=λ _ h=>h
theorem q3f {c:Nat}(h:Sm a b) (g:Sm b c):Sm a c:=λ i x=>g i (h i x)
theorem qCW (a:Nat):Sm 0 a:=λ i h=>by simp at h
theorem q2a {x:Nat}:x &&& k=x↔Sm x k:=by
 constructor
 ·intro h i hi;rw[<-h,Jj,Qc] at hi;exact hi.2
 ·intro h;refine QJ λ i=>?_;rw[Jj];cases q:x.testBit i with
  |false=>rfl
  |true=>rw[h i q];rfl
theorem q32 (h:Sm a b) (g:Sm b a):a=b:=QJ λ i=>QE.mpr ⟨h i,g i⟩
theorem qJq (h:Sm a b):a<=b:=by rw[<-q2a.mpr h];exact Nat.and_le_right
theorem q15 (k t i:Nat):(k ||| 1 <<< t).testBit i=(k.testBit i || decide (t=i)):=by rw[QV,Nat.one_shiftLeft,Nat.testBit_two_pow]
theorem q3g (ts:List Nat):∀(m i:Nat),(q04 m ts).testBit i=(m.testBit i || decide (i∈ts)):=by
 induction ts with
 |nil=>intro m i;simp[q04]
 |cons t ts ih =>
  intro m i;show (q04 (m ||| 1 <<< t) ts).testBit i=_;rw[ih,q15,Bool.or_assoc];congr 1
  by_cases h:t=i
  ·subst h;simp
  ·have h':¬i=t:=λ e=>h e.symm;simp[h,h']
theorem q0f (ts:List Nat) (i:Nat):(q04 0 ts).testBit i=decide (i∈ts):=by rw[q3g];simp
theorem qH3 {c:Nat}(h:Sm a c) (g:Sm b c):Sm (a ||| b) c:=λ i x=>by rw[QV,Ji] at x;exact x.elim (h i) (g i)
theorem q33 (a b:Nat):Sm a (a ||| b):=λ i x=>by rw[QV,x];rfl
theorem q3h (a b:Nat):Sm b (a ||| b):=λ i x=>by rw[QV,x,Bool.or_true]
theorem qH4 (h:k.testBit t=true):k ||| 1 <<< t=k:=QJ λ i=>by
 rw[q15]
 by_cases e:t=i
 ·subst e;simp[h]
 ·simp[e]
theorem qCX (h:a<2^n) (q:a.testBit t=true):t<n:=(Nat.pow_lt_pow_iff_right (by decide:1<2)).mp (Q8 (Nat.ge_two_pow_of_testBit q) h)
theorem q66 (h:∀i,a.testBit i=true->i<n):a<2^n:=Nat.lt_pow_two_of_testBit _ λ i hi=>by
 cases q:a.testBit i with
 |false=>rfl
 |true=>exact absurd (h i q) (by lia)
theorem q48:(2^n-1).testBit t=true↔t<n:=by rw[Nat.testBit_two_pow_sub_one];simp
inductive Rch (nd:List (List Nat)):Nat->Prop
 |z:Rch nd 0
 |s {k t:Nat}:Rch nd k->mayL nd k t=true->Rch nd (k ||| 1 <<< t)
variable {nd:List (List Nat)}
theorem q7t (h:mayL nd k t=true):t<nd.length:=by
 unfold mayL at h;rw[Qc] at h;refine Nat.lt_of_not_le λ g=>?_;have:nd.getD t []=[]:=by simp[QY,g]
 rw[this] at h;simp at h
theorem q9v {j:Nat}(s:Sm j k) (h:mayL nd j t=true):k.testBit t=true\/mayL nd k t=true:=by
 cases q:k.testBit t with
 |true=>exact .inl rfl
 |false =>
  refine .inr ?_;unfold mayL at h |-;rw[Qc] at h;rw[q,Bool.not_false,Bool.true_and];obtain⟨x,hx,hj⟩:=QQ.mp h.2;refine QQ.mpr ⟨x,hx,?_⟩;rw[beq_iff_eq] at hj |-;exact q2a.mpr (q3f (q2a.mp hj) s)
theorem q4F (h:mayL nd k t=true):k.testBit t=false:=by unfold mayL at h;rw[Qc] at h;simpa using h.1
theorem q9w {j:Nat}(r:Rch nd k) (s:Sm j k) (h:mayL nd j t=true):Rch nd (k ||| 1 <<< t):=by
 rcases q9v s h with q|q
 ·rw[qH4 q];exact r
 ·exact .s r q
theorem q7u (ha:Rch nd a) (hb:Rch nd b):Rch nd (a ||| b):=by
 induction hb with
 |z=>rw[Nat.or_zero];exact ha
 |s hk hm ih=>rw[<-Nat.or_assoc];exact q9w ih (q3h _ _) hm
theorem q9x {k:Nat}:∀(ts:List Nat) (m:Nat),Rch nd m->Sm k m->(∀t∈ts,mayL nd k t=true)->Rch nd (q04 m ts)
 |[],m,r,_,_=>r
 |t::ts,m,r,s,h=>q9x ts (m ||| 1 <<< t) (q9w r s (h t Qb)) (q3f s (q33 _ _)) λ u hu=>h u (Qa _ hu)
theorem q5N (h:Rch nd k):k<2^nd.length:=by
 refine q66 λ i=>?_
 induction h with
 |z=>simp
 |s hk hm ih =>
  intro q;rw[q15,Ji] at q;rcases q with q|q
  ·exact ih q
  ·rw[<-of_decide_eq_true q];exact q7t hm
def q7v (nd:List (List Nat)) (b c:Nat):Prop:=Rch nd c/\Sm c b/\∀j,Rch nd j->Sm j b->Sm j c
theorem qEQ (r:Rch nd k) (s:Sm k b) (e:q2O nd k b=[]):q7v nd b k:=by
 refine⟨r,s,λ j hj=>?_⟩
 induction hj with
 |z=>exact λ _=>qCW _
 |@s j t hk hm ih =>
  intro hb;have h1:=ih (q3f (q33 _ _) hb);have h2:b.testBit t=true:=hb t (by rw[q15];simp);refine qH3 h1 λ i hi=>?_;rw[Nat.one_shiftLeft,Nat.testBit_two_pow] at hi;have:t=i:=of_decide_eq_true hi;subst this;rcases q9v h1 hm with q|q
  ·exact q
  ·have:t∈q2O nd k b:=QF.mpr ⟨q03.mpr h2,q⟩;rw[e] at this;cases this
theorem q7w (K b:Nat) (hb:b<2^nd.length) (hn:nd.length<=60):∀(f k:Nat),b-k<f->Rch nd k->Sm k b->
  ∃c x,q7v nd b c/\q1R (tst (Gm (K+3)) subC (.e (.var 3))) (exs (Gm (K+3)) subC q4C) f [some (.val (ndD nd)),some (.val (nI b)),some (.val (nI k)),some (.val (.lst (nL (q2O nd k b))))] =
   .ok [some (.val (ndD nd)),some (.val (nI b)),some (.val (nI c)),x] .nx
 |0,k,h,_,_=>absurd h (by lia)
 |f+1,k,h,r,s=>by
  rw[q5j]
  by_cases e:q2O nd k b=[]
  ·refine⟨k,some (.val (.lst (nL (q2O nd k b)))),qEQ r s e,?_⟩;rw[e];simp[nL]
  ·have hm:∀t∈q2O nd k b,b.testBit t=true/\mayL nd k t=true:=λ t ht=>by obtain⟨h1,h2⟩:=QF.mp ht;exact⟨q03.mp h1,h2⟩
   generalize hq:q2O nd k b=ts at e hm;have r':Rch nd (q04 k ts):=q9x ts k r (q4E k) λ t ht=>(hm t ht).2;have s':Sm (q04 k ts) b:=λ i hi=>by
    rw[q3g,Ji] at hi;rcases hi with hi|hi
    ·exact s i hi
    ·exact (hm i (of_decide_eq_true hi)).1
   have hor:k ||| q04 0 ts=q04 k ts:=QJ λ i=>by rw[QV,q0f,q3g]
   have hlt:k<q04 k ts:=by
    obtain⟨t,ts',rfl⟩:∃t ts',ts=t::ts':=by
     cases ts with
     |nil=>exact absurd rfl e
     |cons t l=>exact⟨t,l,rfl⟩
    have hs:Sm k (q04 k (t::ts')):=λ i hi=>by rw[q3g,hi];rfl
    refine Nat.lt_of_le_of_ne (qJq hs) λ z=>?_;have h1:=q4F (hm t Qb).2;rw[z,q3g] at h1;simp at h1
   have hle:q04 k ts<=b:=qJq s';obtain⟨c,x,hc,hw⟩:=q7w K b hb hn f (q04 k ts) (by lia) r' s';refine⟨c,x,hc,Eq.trans ?_ hw⟩;have h1000:∀t∈ts,t<=1000:=λ t ht=>by have:=q7t (hm t ht).2;lia
   have e1:Gm (K+3) 0 [.lst (nL ts)] = .ok (nI (q04 0 ts)):=q9u (K+2) ts h1000 _ (.inr rfl);have e2:ts.isEmpty=false:=(by cases ts<;>simp at e |-);have e3:=qCV K nd (q04 k ts) b hb hn;have e4:(nL ts).isEmpty=false:=(by cases ts<;>simp at e |-);simp[q4C,e1,e3,hor,e4]
theorem qJr (K b:Nat) (hb:b<2^nd.length) (hn:nd.length<=15):∃c,q7v nd b c/\Gm (K+4) 7 [ndD nd,nI b] = .ok (nI c):=by
 have h2:b<2^15:=Qn hb (QN (by decide) hn);obtain⟨c,x,hc,hw⟩:=q7w K b hb (by lia) 100000 0 (by lia) .z (qCW b);refine⟨c,hc,?_⟩;have e3:=qCV K nd 0 b hb (by lia);show Ev.run (Gm (K+3)) subC 4 [.set 2 (.con (.int 0)),.set 3 (.call 6 [(.var 0),(.var 2),(.var 1)]),.whl (.e (.var 3)) q4C,.ret (.var 2)] [ndD nd,nI b]=_;generalize hW:ex (Gm (K+3)) subC (.whl (.e (.var 3)) q4C)=W;have hw':W [some (.val (ndD nd)),some (.val (nI b)),some (.val (nI 0)),some (.val (.lst (nL (q2O nd 0 b))))] = .ok [some (.val (ndD nd)),some (.val (nI b)),some (.val (nI c)),x] .nx:=by rw[<-hW,qEv];exact hw
 have hex:∀ρ,ex (Gm (K+3)) subC (.whl (.e (.var 3)) q4C) ρ=W ρ:=λ ρ=>by rw[hW]
 simp only[Ev.run,q0y,q0X,hex];simp[num0,e3,hw']
end Mk
namespace Mk
open Ev
variable {nd:List (List Nat)}
theorem q0g:∀(N:Nat) (l:List Nat),l.Nodup->(∀x∈l,x<N)->l.length<=N
 |0,l,_,h=>by
  cases l with
  |nil=>simp
  |cons a l=>exact absurd (h a Qb) (by lia)
 |N+1,l,d,h=>by
  have h1:=q0g N (l.erase N) (d.erase N) λ x hx=>by have h2:=(d.mem_erase_iff).mp hx;have h3:=h x h2.2;have h4:=h2.1;lia
  by_cases m:N∈l
  ·rw[Jw m] at h1;lia
  ·rw[List.erase_of_not_mem m] at h1;lia
def newL (k:Nat):List Nat->List Nat->List Nat
 |_,[]=>[]
 |ks,t::ts=>if k ||| 1 <<< t∈ks then newL k ks ts else (k ||| 1 <<< t)::newL k (ks++[k ||| 1 <<< t]) ts
def trs (n:Nat):List D:=Qh n (.bl true)
theorem q8j (i:Nat):∀(ks:List Nat),i∉ks->put (i:Int) (.bl true) (nL ks) (trs ks.length) = .ok (nL (ks++[i]),trs (ks++[i]).length)
 |[],_=>rfl
 |k::ks,h=>by
  have h1:¬((k:Int)=i):=λ e=>h (by have:k=i:=(by lia);subst this;exact Qb)
  have ih:=q8j i ks λ g=>h (Qa _ g);show put (i:Int) (.bl true) (nI k::nL ks) (.bl true::trs ks.length)=_;unfold nI put;rw[if_neg h1,ih];rfl
theorem qER (l:List Nat) (i:Nat):(nL l).any (λ y=>eqb y (nI i))=decide (i∈l):=by
 induction l with
 |nil=>simp
 |cons a l ih =>
  rw[q1J,Q3,ih,qKw]
  by_cases h:a=i
  ·subst h;simp
  ·have:¬i=a:=λ e=>h e.symm;simp[h,this]
theorem q6k (l:List Nat) (v:List D) (i:Nat):cmD .nmem (nI i) (.dct (nL l) v) = .ok (.bl (!decide (i∈l))):=by have e:memD (nI i) (.dct (nL l) v) = .ok ((nL l).any λ y=>eqb y (nI i)):=rfl;have e2:cmD .nmem (nI i) (.dct (nL l) v)=(memD (nI i) (.dct (nL l) v)).bind λ r=> .ok (.bl (!r)):=rfl;rw[e2,e,qER];rfl
theorem qCY {G:Nat->List D->R D}(a b:Option Sl) (N k:Nat) (hN:N<=1000):∀(ts ks ws:List Nat) (x y:Option Sl),ks.Nodup->(∀z∈ks,z<N)->(∀t∈ts,t<=1000/\k ||| 1 <<< t<N)->ws.length<=ks.length->
  ∃x' y',q0z (exs G subC qEL) 0 [5] (nL ts) [a,b,some (.own (.dct (nL ks) (trs ks.length))),some (.own (.lst (nL ws))),some (.val (nI k)),x,y] =
   .ok [a,b,some (.own (.dct (nL (ks++newL k ks ts)) (trs (ks++newL k ks ts).length))),some (.own (.lst (nL (ws++newL k ks ts)))),some (.val (nI k)),x',y'] .nx
 |[],ks,ws,x,y,_,_,_,_=>⟨x,y,by simp[newL,q1j]⟩
 |t::ts,ks,ws,x,y,hd,hk,ht,hw=>by
  have ht1:=ht t Qb;have hlen:=q0g N ks hd hk;have ht':∀u∈ts,u<=1000/\k ||| 1 <<< u<N:=λ u hu=>ht u (Qa _ hu)
  rw[q1J,q0L]
  by_cases q:k ||| 1 <<< t∈ks
  ·obtain⟨x',y',e⟩:=qCY (G:=G) a b N k hN ts ks ws (some (.val (nI t))) (some (.val (nI (k ||| 1 <<< t)))) hd hk ht' hw;refine⟨x',y',?_⟩;have e0:newL k ks (t::ts)=newL k ks ts:=(by rw[newL,if_pos q]);rw[e0,<-e];simp[qEL,num1,ht1.1,q6k,q]
  ·obtain⟨x',y',e⟩:=qCY (G:=G) a b N k hN ts (ks++[k ||| 1 <<< t]) (ws++[k ||| 1 <<< t]) (some (.val (nI t))) (some (.val (nI (k ||| 1 <<< t))))
    (Qz.mpr ⟨hd,by simp,λ u hu v hv=>by rw[Qs] at hv;subst hv;exact λ z=>q (z▸hu)⟩)
    (λ z hz=>by
     rcases Qq.mp hz with h|h
     ·exact hk z h
     ·rw[Qs] at h;subst h;exact ht1.2) ht' (by simp;lia)
   refine⟨x',y',?_⟩;have e0:newL k ks (t::ts)=(k ||| 1 <<< t)::newL k (ks++[k ||| 1 <<< t]) ts:=(by rw[newL,if_neg q]);have e1:∀l:List Nat,l++newL k ks (t::ts)=(l++[k ||| 1 <<< t])++newL k (ks++[k ||| 1 <<< t]) ts:=λ l=>by rw[e0];simp
   rw[e1,e1,<-e];have e2:=q8j (k ||| 1 <<< t) ks q;have b1:ks.length<big:=(by rw[q0P];lia);have b2:ws.length<big:=(by rw[q0P];lia);have e3:∀ρ:Env,ρ[2]? = some (some (.own (.dct (nL ks) (trs ks.length))))->ρ[6]? = some (some (.val (nI (k ||| 1 <<< t))))->ex G subC (.put 2 (.var 6) (.con (.bl true))) ρ =
     .ok (ρ.set 2 (some (.own (.dct (nL (ks++[k ||| 1 <<< t])) (trs (ks++[k ||| 1 <<< t]).length))))) .nx:=λ ρ h1 h2=>by
    rw[qBH,h1];simp only[q0M,q07,q1X,q9D,h2];show (if (nL ks).length<big then (put ((k ||| 1 <<< t:Nat):Int) (.bl true) (nL ks) (trs ks.length)).go ρ _ else _)=_;rw[q0K,if_pos b1,e2];rfl
   simp only[qEL,q0y,q0X,q3J];simp[-qBH,num1,ht1.1,q6k,q,e3,b2]
structure Inv (nd:List (List Nat)) (ks ws:List Nat):Prop where
 nodup:ks.Nodup
 rch:∀x∈ks,Rch nd x
 zero:0∈ks
 sub:∀x∈ws,x∈ks
 cl:∀x∈ks,x∈ws\/∀t,mayL nd x t=true->x ||| 1 <<< t∈ks
theorem q6l {k x:Nat}:∀(ts ks:List Nat),x∈newL k ks ts->∃t∈ts,x=k ||| 1 <<< t
 |[],ks,h=>by simp[newL] at h
 |t::ts,ks,h=>by
  unfold newL at h;split at h
  ·obtain⟨u,hu,e⟩:=q6l ts ks h;exact⟨u,Qa _ hu,e⟩
  ·rcases Qf.mp h with h|h
   ·exact⟨t,Qb,h⟩
   ·obtain⟨u,hu,e⟩:=q6l ts _ h;exact⟨u,Qa _ hu,e⟩
theorem q6m {k:Nat}:∀(ts ks:List Nat) (t:Nat),t∈ts->k ||| 1 <<< t∈ks++newL k ks ts
 |u::ts,ks,t,h=>by
  unfold newL;split
  ·rename_i q;rcases Qf.mp h with rfl|h
   ·exact QB _ q
   ·exact q6m ts ks t h
  ·rcases Qf.mp h with rfl|h
   ·simp
   ·have:=q6m (k:=k) ts (ks++[k ||| 1 <<< u]) t h;simpa using this
theorem q4G {k:Nat}:∀(ts ks:List Nat),ks.Nodup->(ks++newL k ks ts).Nodup
 |[],ks,h=>by simpa[newL] using h
 |t::ts,ks,h=>by
  unfold newL;split
  ·exact q4G ts ks h
  ·rename_i q;have:=q4G (k:=k) ts (ks++[k ||| 1 <<< t]) (Qz.mpr ⟨h,by simp,λ u hu v hv=>by rw[Qs] at hv;subst hv;exact λ z=>q (z▸hu)⟩);simpa using this
theorem q9y (n:Nat):∀t,t∈q01 (2^n-1)↔t<n:=λ t=>q03.trans q48
theorem qCZ (K:Nat) (hn:nd.length<=9):∀(f:Nat) (ks ws:List Nat) (x y z:Option Sl),Inv nd ks ws->ws.length<=ks.length->2^nd.length-ks.length+ws.length<f->
  ∃ks' x' y' z',Inv nd ks' []/\q1R (tst (Gm (K+3)) subC (.e (.bor 3))) (exs (Gm (K+3)) subC qCQ) f [some (.val (ndD nd)),some (.val (nI (2^nd.length-1))),some (.own (.dct (nL ks) (trs ks.length))),some (.own (.lst (nL ws))),x,y,z] =
   .ok [some (.val (ndD nd)),some (.val (nI (2^nd.length-1))),some (.own (.dct (nL ks') (trs ks'.length))),some (.own (.lst [])),x',y',z'] .nx
 |0,ks,ws,x,y,z,_,_,h=>absurd h (by lia)
 |f+1,ks,ws,x,y,z,I,hl,h=>by
  rw[q5j];rcases List.eq_nil_or_concat ws with rfl|⟨ws,k,rfl⟩
  ·exact⟨ks,x,y,z,I,by simp⟩
  ·have hN:2^nd.length<=1000:=Qr (QN (by decide) hn) (by decide);have hkk:k∈ks:=I.sub k (by simp);have hk:=I.rch k hkk;have hlt:∀x∈ks,x<2^nd.length:=λ x hx=>q5N (I.rch x hx);generalize hts:q2O nd k (2^nd.length-1)=ts;have hmts:∀t∈ts,mayL nd k t=true:=λ t ht=>by rw[<-hts] at ht;exact (QF.mp ht).2
   have hallts:∀t,mayL nd k t=true->t∈ts:=λ t ht=>by rw[<-hts];exact QF.mpr ⟨(q9y _ t).mpr (q7t ht),ht⟩
   have htt:∀t∈ts,t<=1000/\k ||| 1 <<< t<2^nd.length:=λ t ht=>⟨by have:=q7t (hmts t ht);lia,q5N (.s hk (hmts t ht))⟩
   have hl':ws.length<=ks.length:=(by simp at hl;lia);obtain⟨x',y',e⟩:=qCY (G:=Gm (K+3)) (some (.val (ndD nd))) (some (.val (nI (2^nd.length-1)))) (2^nd.length) k hN ts ks ws y z I.nodup hlt htt hl';have hnd:=q4G (k:=k) ts ks I.nodup;have hrch:∀x∈ks++newL k ks ts,Rch nd x:=λ x hx=>by
    rcases Qq.mp hx with h|h
    ·exact I.rch x h
    ·obtain⟨t,ht,rfl⟩:=q6l ts ks h;exact .s hk (hmts t ht)
   have I':Inv nd (ks++newL k ks ts) (ws++newL k ks ts):=by
    refine⟨hnd,hrch,QB _ I.zero,λ x hx=>?_,λ x hx=>?_⟩
    ·rcases Qq.mp hx with h|h
     ·exact QB _ (I.sub x (by simp[h]))
     ·exact Qp _ h
    ·rcases Qq.mp hx with h|h
     ·by_cases q:x=k
      ·subst q;exact .inr λ t ht=>q6m ts ks t (hallts t ht)
      ·rcases I.cl x h with g|g
       ·refine .inl (QB _ ?_);simp at g;exact g.resolve_right q
       ·exact .inr λ t ht=>QB _ (g t ht)
     ·exact .inl (Qp _ h)
   have hlen:=q0g _ _ hnd λ x hx=>q5N (hrch x hx);obtain⟨ks',x2,y2,z2,I2,e2⟩:=qCZ K hn f (ks++newL k ks ts) (ws++newL k ks ts) (some (.val (nI k))) x' y' I' (by simp;lia) (by simp at h hlen |-;lia);refine⟨ks',x2,y2,z2,I2,Eq.trans ?_ e2⟩;have e3:=qCV K nd k (2^nd.length-1) (by have:=Nat.one_le_two_pow (n:=nd.length);lia) (by lia);rw[hts] at e3;simp[qCQ,e3,e]
theorem qH5 {ks:List Nat}(I:Inv nd ks []) (x:Nat):x∈ks↔Rch nd x:=by
 refine⟨I.rch x,λ h=>?_⟩
 induction h with
 |z=>exact I.zero
 |s hk hm ih =>
  rcases I.cl _ ih with h|h
  ·cases h
  ·exact h _ hm
theorem qLN (K:Nat) (hn:nd.length<=9):∃ks:List Nat,ks.Nodup/\(∀x,x∈ks↔Rch nd x)/\Gm (K+4) 8 [ndD nd,nI (2^nd.length-1)] = .ok (.dct (nL ks) (trs ks.length)):=by
 have hN:2^nd.length<=1000:=Qr (QN (by decide) hn) (by decide);have h0:Inv nd [0] [0]:=⟨by simp,λ x hx=>by rw[Qs] at hx;subst hx;exact .z,by simp,λ x hx=>hx,λ x hx=> .inl hx⟩
 obtain⟨ks,x,y,z,I,e⟩:=qCZ K hn 100000 [0] [0] none none none h0 (by simp) (by simp;lia);refine⟨ks,I.nodup,qH5 I,?_⟩;show Ev.run (Gm (K+3)) subC 7 [.setO 2 (.dct (.con (.int 0)) (.con (.bl true))),.setO 3 (.lst [(.con (.int 0))]),.whl (.e (.bor 3)) qCQ,.retO 2] [ndD nd,nI (2^nd.length-1)]=_;generalize hW:ex (Gm (K+3)) subC (.whl (.e (.bor 3)) qCQ)=W;have hw':=congrFun hW [some (.val (ndD nd)),some (.val (nI (2^nd.length-1))),some (.own (.dct (nL [0]) (trs 1))),some (.own (.lst (nL [0]))),none,none,none];rw[qEv] at hw';replace hw':=e.symm.trans hw';simp only[Ev.run,q0y,q0X,hW];have hb:(1:Nat)<=big:=by decide
 simp[hb];rw[show (D.int 0)=nI 0 from rfl];have hw2:W [some (.val (ndD nd)),some (.val (nI (2^nd.length-1))),some (.own (.dct [nI 0] [.bl true])),some (.own (.lst [nI 0])),none,none,none]=_:=hw'.symm;rw[hw2];simp
end Mk
namespace Mk
open Ev
variable {nd:List (List Nat)}
def iL (zs:List Int):List D:=zs.map D.int
@[simp] theorem iL_nil:iL []=[]:=rfl
@[simp] theorem q8k (z:Int) (l:List Int):iL (z::l) = .int z::iL l:=rfl
@[simp] theorem qJs (l:List Int):(iL l).length=l.length:=Qe _
theorem qES (l:List Nat):nL l=iL (l.map λ (a:Nat)=>(a:Int)):=by simp[nL,iL,nI]
@[simp] theorem plN_iL (k:Nat) (l:List Int):(iL l).all (plN k)=true:=by simp[iL]
@[simp] theorem pl_ti (l:List Int):pl (.tup (iL l))=true:=by unfold pl;simp
@[simp] theorem plL_i (l:List Int):plL (iL l)=true:=q1V.mpr λ d hd=>by obtain⟨a,_,rfl⟩:=Qg.mp hd;rfl
@[simp] theorem hshL_i (l:List Int):q08 (iL l)=true:=q0D.mpr λ d hd=>by obtain⟨a,_,rfl⟩:=Qg.mp hd;simp[q02]
@[simp] theorem qH6 (a b:Int):eqb (.int a) (.int b)=decide (a=b):=by simp[eqb]
theorem qLO (l:List Int) (i:Int):(iL l).any (λ y=>eqb y (.int i))=decide (i∈l):=by
 induction l with
 |nil=>simp
 |cons a l ih =>
  rw[q8k,Q3,ih,qH6]
  by_cases h:a=i
  ·subst h;simp
  ·have:¬i=a:=λ e=>h e.symm;simp[h,this]
theorem qJt (i:Int) (l:List Int):cmD .mem (.int i) (.tup (iL l)) = .ok (.bl (decide (i∈l))):=by have e2:cmD .mem (.int i) (.tup (iL l))=(memD (.int i) (.tup (iL l))).bind λ r=> .ok (.bl r):=rfl;rw[e2,memD];simp[qLO]
@[simp] theorem le_i (a b:Int):cmD .le (.int a) (.int b) = .ok (.bl (decide (a<=b))):=rfl
@[simp] theorem gt_i (a b:Int):cmD .gt (.int a) (.int b) = .ok (.bl (decide (b<a))):=rfl
@[simp] theorem ge_i (a b:Int):cmD .ge (.int a) (.int b) = .ok (.bl (!decide (a<b))):=by simp[cmD,q02,q0V,ltb]
@[simp] theorem lt_i (a b:Int):cmD .lt (.int a) (.int b) = .ok (.bl (decide (a<b))):=by simp[cmD,q02,q0V,ltb]
theorem q5O (k:Nat) (i:Int):Gm (k+1) 9 [.int i] = .ok (.bl true):=by show Ev.run (Gm k) subC 1 q2k [.int i]=_;simp[Ev.run,q2k]
def q0p (c:Int):Int->List Int->Bool
 |_,[]=>true
 |a,t::ts=>decide (a<t)&&decide (t<c)&&q0p c t ts
theorem q4n (k:Nat) (c:Int) (x:Option Sl):∀(zs:List Int) (a:Int) (y:Option Sl),∃a' y',q0z (exs (Gm (k+1)) subC q5J) 0 [3] (iL zs) [some (.val (.int c)),x,some (.val (.int a)),y] =
  .ok [some (.val (.int c)),x,a',y'] (if q0p c a zs=true then .nx else .ret (.bl false))
 |[],a,y=>⟨some (.val (.int a)),y,rfl⟩
 |t::zs,a,y=>by
  obtain⟨a',y',e⟩:=q4n k c x zs t (some (.val (.int t)));rw[q8k,q0L]
  by_cases h1:a<t
  ·by_cases h2:t<c
   ·refine⟨a',y',?_⟩;have h3:¬t<=a:=(by lia);have e0:q0p c a (t::zs)=q0p c t zs:=(by simp[q0p,h1,h2]);rw[e0,<-e];simp[q5J,q5O,h3,h2]
   ·have h3:¬t<=a:=(by lia);exact⟨some (.val (.int a)),some (.val (.int t)),by simp[q5J,q5O,h3,h2,q0p]⟩
  ·have h3:t<=a:=(by lia);exact⟨some (.val (.int a)),some (.val (.int t)),by simp[q5J,q5O,h3,h1,q0p]⟩
theorem qCa (k:Nat) (c:Int) (zs:List Int):Gm (k+2) 10 [.int c,.tup (iL zs)] = .ok (.bl (q0p c (-1) zs)):=by obtain⟨a',y',e⟩:=q4n k c (some (.val (.tup (iL zs)))) zs (-1) none;show Ev.run (Gm (k+1)) subC 4 [.ifs (.not (.e (.bi .isTup [(.var 1)]))) [.ret (.con (.bl false))] [],.set 2 (.neg (.con (.int 1))),.forr 0 [3] (.e (.var 1)) q5J,.ret (.con (.bl true))] [.int c,.tup (iL zs)]=_;have e':q0z (exs (Gm (k+1)) subC q5J) 0 [3] (iL zs) [some (.val (.int c)),some (.val (.tup (iL zs))),some (.val (.int (-1))),none]=_:=e;cases q:q0p c (-1) zs<;>simp[Ev.run,e',q]
abbrev Wy:=Int×Option (List Int)
def wyD:Wy->D
 |(t,some zs)=> .tup [.int t,.tup (iL zs)]
 |(t,none)=> .tup [.int t]
def wyB (c:Int):Wy->Bool
 |(t,some zs)=>decide (0<=t)&&decide (t<c)&&q0p c (-1) zs&&!decide (t∈zs)
 |_=>false
theorem nth0 (a:D) (l:List D):nth (a::l) 0 = .ok a:=by simp[nth]
theorem nth1 (a b:D) (l:List D):nth (a::b::l) 1 = .ok b:=by simp[nth]
theorem idx0 (a:D) (l:List D):idxD (.tup (a::l)) (.int 0) = .ok a:=nth0 a l
theorem idx1 (a b:D) (l:List D):idxD (.tup (a::b::l)) (.int 1) = .ok b:=nth1 a b l
theorem qLP (k:Nat) (c:Int) (w:Wy):Gm (k+3) 12 [.int c,wyD w]=if wyB c w=true then .ok .non else .err 1:=by
 show Ev.run (Gm (k+2)) subC 4 q19 [.int c,wyD w]=_;obtain⟨t,_|zs⟩:=w
 ·simp[Ev.run,q19,wyD,wyB,num2]
 ·have e1:=q5O (k+1) t;have e2:=qCa k c zs
  by_cases h1:t<0
  ·have:¬0<=t:=(by lia);simp[Ev.run,q19,wyD,wyB,num2,idx0,idx1,e1,e2,h1,this]
  ·have h1':0<=t:=by lia
   by_cases h2:t<c
   ·cases q:q0p c (-1) zs
    ·simp[Ev.run,q19,wyD,wyB,num2,idx0,idx1,e1,e2,h1,h1',h2,q]
    ·by_cases h3:t∈zs<;>simp[Ev.run,q19,wyD,wyB,num2,idx0,idx1,e1,e2,h1,h1',h2,q,qJt,h3]
   ·simp[Ev.run,q19,wyD,wyB,num2,idx0,idx1,e1,e2,h1,h1',h2]
theorem q7x (k:Nat) (c:Int) (a b e:Option Sl):∀(ws:List Wy) (x:Option Sl),∃x',q0z (exs (Gm (k+3)) subC q60) 0 [3] (ws.map wyD) [a,some (.val (.int c)),b,x,e] =
  if ws.all (wyB c)=true then .ok [a,some (.val (.int c)),b,x',e] .nx else .err 1 [a,some (.val (.int c)),b,x',e]
 |[],x=>⟨x,rfl⟩
 |w::ws,x=>by
  have e1:=qLP k c w;rw[Qv,q0L];cases q:wyB c w
  ·refine⟨some (.val (wyD w)),?_⟩;simp[q60,e1,q]
  ·obtain⟨x',e2⟩:=q7x k c a b e ws (some (.val (wyD w)));refine⟨x',?_⟩;rw[List.all_cons,q,Bool.true_and,<-e2];simp[q60,e1,q]
theorem qCb:∀(a b:List Int),q0l (iL a) (iL b)=true
 |[],_=>by simp[q0l]
 |_::_,[]=>by simp[q0l]
 |a::l,b::m=>by
  simp only[q8k,q0l,qH6];split
  ·exact qCb l m
  ·simp[q0V]
def wyW:Wy->Bool
 |(_,some _)=>true
 |_=>false
theorem qJu {c:Int}{w:Wy}(h:wyB c w=true):wyW w=true:=by
 obtain⟨t,_|zs⟩:=w
 ·simp[wyB] at h
 ·rfl
theorem qCc (w:Wy):pl (wyD w)=true:=by
 obtain⟨t,_|zs⟩:=w
 ·rfl
 ·unfold pl wyD;simp
theorem q9z (w:Wy):q02 (wyD w)=true:=by obtain⟨t,_|zs⟩:=w<;>simp[wyD,q02,q08]
theorem qCd (v w:Wy) (hv:wyW v=true) (hw:wyW w=true):q0V (wyD v) (wyD w)=true:=by
 obtain⟨t,_|zs⟩:=v
 ·cases hv
 obtain⟨u,_|ys⟩:=w
 ·cases hw
 simp only[wyD,q0V,q0l,qH6];split
 ·split
  ·rfl
  ·simp[q0V,qCb]
 ·simp[q0V]
theorem qLQ (v w:Wy) (hv:wyW v=true) (hw:wyW w=true):cmD .ge (wyD v) (wyD w) = .ok (.bl (!ltb (wyD v) (wyD w))):=by
 have h:cmD .ge (wyD v) (wyD w)=if pl (wyD v)&&pl (wyD w)&&q02 (wyD v)&&q02 (wyD w)&&q0V (wyD v) (wyD w) then .ok (.bl (!ltb (wyD v) (wyD w))) else .stuck:=rfl
 rw[h,qCc,qCc,q9z,q9z,qCd v w hv hw];rfl
open Classical in
theorem q7y {G:Nat->List D->R D}(a b e:Option Sl) (ws:List Wy) (hw:∀w∈ws,wyW w=true):∀(ps:List Nat) (x:Option Sl),(∀p∈ps,p+1<ws.length)->∃x',q0z (exs G subC q61) 0 [4] (nL (ps.map (·+1))) [a,b,some (.val (.lst (ws.map wyD))),e,x] =
  if (∀p∈ps,∀v w,ws[p]? = some v->ws[p+1]? = some w->ltb (wyD v) (wyD w)=true) then .ok [a,b,some (.val (.lst (ws.map wyD))),e,x'] .nx else .err 1 [a,b,some (.val (.lst (ws.map wyD))),e,x']
 |[],x,_=>⟨x,by simp[q1j]⟩
 |p::ps,x,hp=>by
  have h1:=hp p Qb;obtain⟨v,hv⟩:∃v,ws[p]? = some v:=⟨_,Ql (by lia)⟩
  obtain⟨w,hw2⟩:∃w,ws[p+1]? = some w:=⟨_,Ql h1⟩
  have e1:idxD (.lst (ws.map wyD)) (nI p) = .ok (wyD v):=q7J _ _ _ (by rw[Qt,hv];rfl);have e2:idxD (.lst (ws.map wyD)) (nI (p+1)) = .ok (wyD w):=q7J _ _ _ (by rw[Qt,hw2];rfl);have e3:=qLQ v w (hw v (Qm hv)) (hw w (Qm hw2));have e4:opD .sub (nI (p+1)) (nI 1) = .ok (nI p):=qIW _ _ (by lia);rw[Qv,q1J,q0L]
  by_cases q:ltb (wyD v) (wyD w)=true
  ·obtain⟨x',e5⟩:=q7y (G:=G) a b e ws hw ps (some (.val (nI (p+1)))) λ r hr=>hp r (Qa _ hr);refine⟨x',?_⟩;have e6:(∀r∈p::ps,∀v w,ws[r]? = some v->ws[r+1]? = some w->ltb (wyD v) (wyD w)=true)↔(∀r∈ps,∀v w,ws[r]? = some v->ws[r+1]? = some w->ltb (wyD v) (wyD w)=true):=by rw[Q1];exact⟨λ h=>h.2,λ h=>⟨λ v' w' a1 a2=>by rw[hv] at a1;rw[hw2] at a2;cases a1;cases a2;exact q,h⟩⟩
   simp only[e6];rw[<-e5];simp[q61,num1,e4,e1,e2,e3,q]
  ·refine⟨some (.val (nI (p+1))),?_⟩;rw[if_neg λ h=>q (h p Qb v w hv hw2)];simp[q61,num1,e4,e1,e2,e3,q]
def rulD (n:Int) (ws:List Wy):D:= .tup [.int n,.lst (ws.map wyD)]
def Rise (ws:List Wy):Prop:=∀p,p+1<ws.length->∀v w,ws[p]? = some v->ws[p+1]? = some w->ltb (wyD v) (wyD w)=true
theorem rng2 (l:Nat) (h:l<2^60):rngD [.int 1,nI l] = .ok (nL ((Qk (l-1)).map (·+1))):=by
 unfold rngD nI;simp only;rw[if_pos (by lia)];congr 1;have:((l:Int)-1).toNat=l-1:=by lia
 rw[this];simp only[nL,Jg];refine List.map_congr_left λ a _=>?_;simp only[Function.comp,nI];congr 1;lia
theorem len_eq (ws:List Wy):(ws.map wyD).length=ws.length:=Qe _
section
variable {G:Nat->List D->R D}
theorem qLR (a b:D) (ρ:Env):ex G subC q9r (some (.val (.tup [a,b]))::ρ) = .ok (some (.val (.tup [a,b]))::ρ) .nx:=by simp[q9r,num2]
theorem qLS (h9:∀i,G 9 [.int i] = .ok (.bl true)) (x:Option Sl) (n:Int) (ρ:Env):ex G subC q62 (x::some (.val (.int n))::ρ)=if 0<=n/\n<=10 then .ok (x::some (.val (.int n))::ρ) .nx else .err 1 (x::some (.val (.int n))::ρ):=by
 by_cases h0:n<0
 ·have:¬0<=n:=by lia
  simp[q62,h9,h0,this]
 have h0':0<=n:=by lia
 by_cases h1:10<n
 ·have:¬n<=10:=by lia
  simp[q62,h9,h0,h0',h1,this]
 have h1':n<=10:=by lia
 simp[q62,h9,h0,h0',h1,h1']
theorem qLT (x y:Option Sl) (l:List D) (ρ:Env) (h:l.length<=1300):ex G subC q9s (x::y::some (.val (.lst l))::ρ) = .ok (x::y::some (.val (.lst l))::ρ) .nx:=by
 have h3:decide ((1300:Int)<(l.length:Int))=false:=decide_eq_false (by lia);have e:cmD .gt (nI l.length) (.int 1300) = .ok (.bl false):=by rw[nI,gt_i,h3]
 simp[q9s,e]
end
open Classical in
theorem qJv {G:Nat->List D->R D}(a b e:Option Sl) (ws:List Wy) (hl:ws.length<=1300) (hw:∀w∈ws,wyW w=true):∃x',ex G subC (.forr 0 [4] (.rng [(.con (.int 1)),(.bi .len [(.var 2)])]) q61) [a,b,some (.val (.lst (ws.map wyD))),e,none] =
  if Rise ws then .ok [a,b,some (.val (.lst (ws.map wyD))),e,x'] .nx else .err 1 [a,b,some (.val (.lst (ws.map wyD))),e,x']:=by
 obtain⟨x2,e3⟩:=q7y (G:=G) a b e ws hw (Qk (ws.length-1)) none (λ p hp=>by rw[Qw] at hp;lia);refine⟨x2,?_⟩;have e4:=rng2 ws.length (Q8 hl (by decide));have e5:(∀p∈Qk (ws.length-1),∀v w,ws[p]? = some v->ws[p+1]? = some w->ltb (wyD v) (wyD w)=true)↔Rise ws :=
  ⟨λ h p hp=>h p (Qw.mpr (by lia)),λ h p hp=>h p (by rw[Qw] at hp;lia)⟩
 have e7:evi G subC (.rng [(.con (.int 1)),(.bi .len [(.var 2)])]) [a,b,some (.val (.lst (ws.map wyD))),e,none] = .ok (nL ((Qk (ws.length-1)).map (·+1))):=by have e8:evs G subC [(.con (.int 1)),(.bi .len [(.var 2)])] [a,b,some (.val (.lst (ws.map wyD))),e,none] = .ok [.int 1,nI (ws.map wyD).length]:=rfl;rw[q1T,e8,q00,len_eq,e4]
 rw[q1C,e7,q07,e3]
 by_cases r:Rise ws
 ·rw[if_pos (e5.mpr r),if_pos r]
 ·rw[if_neg (λ g=>r (e5.mp g)),if_neg r]
open Classical in
theorem qFD (k:Nat) (n:Int) (ws:List Wy) (hl:ws.length<=1300):Gm (k+4) 11 [rulD n ws]=if (0<=n/\n<=10)/\ws.all (wyB n)=true/\Rise ws then .ok .non else .err 1:=by
 have e1:=q5O (k+2);show Ev.run (Gm (k+3)) subC 5 [q9r,.set 1 (.idx (.var 0) (.con (.int 0))),.set 2 (.idx (.var 0) (.con (.int 1))),q62,q9s,.forr 0 [3] (.e (.var 2)) q60,.forr 0 [4] (.rng [(.con (.int 1)),(.bi .len [(.var 2)])]) q61] [rulD n ws]=_;have hl':(ws.map wyD).length<=1300:=by rw[len_eq];exact hl
 simp only[Ev.run,q0y,q0X,rulD,qBP,qDW,List.cons_append,List.nil_append,qLR,q5b,q0O,q3I,q1X,q0M,q9D,List.getElem?_cons_zero,q00,idx0,idx1,q07,Qu,Q4,Qh,QZ,Q0,Nat.reduceAdd,Nat.reduceSub,qLS e1]
 by_cases h:0<=n/\n<=10
 ·simp only[if_pos h,q5b,qLT _ _ _ _ hl'];obtain⟨x1,e2⟩:=q7x k n (some (.val (rulD n ws))) (some (.val (.lst (ws.map wyD)))) none ws none;unfold rulD at e2;have e8:ex (Gm (k+3)) subC (.forr 0 [3] (.e (.var 2)) q60) [some (.val (.tup [.int n,.lst (ws.map wyD)])),some (.val (.int n)),some (.val (.lst (ws.map wyD))),none,none]=_:=e2;rw[e8];cases q:ws.all (wyB n)
  ·simp
  ·have hw:∀w∈ws,wyW w=true:=λ w hw=>qJu (Qj.mp q w hw);obtain⟨x2,e3⟩:=qJv (G:=Gm (k+3)) (some (.val (rulD n ws))) (some (.val (.int n))) x1 ws hl hw;unfold rulD at e3;rw[if_pos rfl,q5b,e3]
   by_cases r:Rise ws
   ·rw[if_pos r,if_pos ⟨h,rfl,r⟩,q5b]
   ·rw[if_neg r,if_neg λ g=>r g.2.2,qEo]
 ·rw[if_neg h,if_neg λ g=>h g.1,qEo]
end Mk
namespace Mk
open Ev
abbrev Wn:=Nat×List Nat
def toW (w:Wn):Wy:=((w.1:Int),some (w.2.map λ (a:Nat)=>(a:Int)))
def wD (w:Wn):D:= .tup [nI w.1,.tup (nL w.2)]
theorem q34 (w:Wn):wyD (toW w)=wD w:=by unfold wyD toW wD;rw[qES];rfl
theorem q8l (ws:List Wn):(ws.map toW).map wyD=ws.map wD:=by rw[Jg];exact List.map_congr_left λ w _=>q34 w
def rD (n:Nat) (ws:List Wn):D:= .tup [nI n,.lst (ws.map wD)]
theorem qJw (n:Nat) (ws:List Wn):rD n ws=rulD n (ws.map toW):=by unfold rD rulD;rw[q8l];rfl
structure Good (n:Nat) (ws:List Wn):Prop where
 n5:n<=5
 len:ws.length<=60
 ok:∀w∈ws,wyB n (toW w)=true
 rise:Rise (ws.map toW)
theorem q7z {c:Int}:∀{zs:List Int}{a:Int},q0p c a zs=true↔(a::zs).Pairwise (· < ·)/\∀z∈zs,z<c
 |[],a=>by simp[q0p]
 |t::zs,a=>by
  rw[q0p,Qc,Qc,q7z (zs:=zs) (a:=t),decide_eq_true_eq,decide_eq_true_eq];constructor
  ·rintro⟨⟨h1,h2⟩,h3,h4⟩;refine⟨QC.mpr ⟨λ z hz=>?_,h3⟩,λ z hz=>?_⟩
   ·rcases Qf.mp hz with rfl|hz
    ·exact h1
    ·exact Int.lt_trans h1 ((QC.mp h3).1 z hz)
   ·rcases Qf.mp hz with rfl|hz
    ·exact h2
    ·exact h4 z hz
  ·rintro⟨h1,h2⟩;have h3:=QC.mp h1;exact⟨⟨h3.1 t Qb,h2 t Qb⟩,h3.2,λ z hz=>h2 z (Qa _ hz)⟩
def Ris (n:Nat) (l:List Nat):Prop:=l.Pairwise (· < ·)/\∀x∈l,x<n
theorem qCe {n:Nat}{l:List Nat}:q0p n (-1) (l.map λ (a:Nat)=>(a:Int))=true↔Ris n l:=by
 rw[q7z,QC,QI];constructor
 ·rintro⟨⟨_,h1⟩,h2⟩;exact⟨h1.imp λ h=>by lia,λ x hx=>by have:=h2 x (Qg.mpr ⟨x,hx,rfl⟩);lia⟩
 ·rintro⟨h1,h2⟩;refine⟨⟨λ z hz=>?_,h1.imp λ h=>by lia⟩,λ z hz=>?_⟩
  ·obtain⟨x,hx,rfl⟩:=Qg.mp hz;show (-1:Int)<(x:Int);lia
  ·obtain⟨x,hx,rfl⟩:=Qg.mp hz;have:=h2 x hx;show (x:Int)<(n:Int);lia
theorem q8m {n:Nat}{w:Wn}:wyB n (toW w)=true↔w.1<n/\Ris n w.2/\w.1∉w.2:=by
 unfold wyB toW;simp only[Qc,qCe,decide_eq_true_eq,Jh,decide_eq_false_iff_not,Qg];constructor
 ·rintro⟨⟨⟨h1,h2⟩,h3⟩,h4⟩;exact⟨by lia,h3,λ h=>h4 ⟨w.1,h,rfl⟩⟩
 ·rintro⟨h1,h2,h3⟩;refine⟨⟨⟨by lia,by lia⟩,h2⟩,λ⟨x,hx,e⟩=>h3 ?_⟩;have:x=w.1:=by lia
  exact this▸hx
section
variable {n:Nat}{ws:List Wn}(g:Good n ws)
include g
theorem q1o (k:Nat):Gm (k+4) 11 [rD n ws] = .ok .non:=by rw[qJw,qFD k n (ws.map toW) (by rw[Qe];have:=g.len;lia)];have:=g.n5;refine if_pos ⟨⟨by lia,by lia⟩,?_,g.rise⟩;rw[List.all_map];exact Qj.mpr λ w hw=>g.ok w hw
end
theorem q3i {n m:Nat}(h:m<2^n):Ris n (q01 m) :=
 ⟨List.Pairwise.filter _ Q5,λ x hx=>qCX h (q03.mp hx)⟩
theorem q3j (m:Nat):q04 0 (q01 m)=m:=QJ λ i=>by
 rw[q0f];cases q:m.testBit i with
 |false=>exact decide_eq_false λ h=>by rw[q03,q] at h;cases h
 |true=>exact decide_eq_true (q03.mpr q)
theorem q3k {a b:Nat}(h:q01 a=q01 b):a=b:=by rw[<-q3j a,h,q3j]
def q4H (xss:List (List Nat)) (w:Wn):List (List Nat):=xss.set w.1 (xss.getD w.1 []++[q04 0 w.2])
def nds (n:Nat) (ws:List Wn):List (List Nat):=ws.foldl q4H (Qh n [])
theorem q5P (xss:List (List Nat)) (w:Wn):(q4H xss w).length=xss.length:=List.length_set
theorem q80:∀(ws:List Wn) (xss:List (List Nat)),(ws.foldl q4H xss).length=xss.length
 |[],_=>rfl
 |w::ws,xss=>by rw[List.foldl_cons,q80 ws,q5P]
theorem q2E (n:Nat) (ws:List Wn):(nds n ws).length=n:=by unfold nds;rw[q80,Q7]
theorem q81 (t x:Nat):∀(ws:List Wn) (xss:List (List Nat)),(∀w∈ws,w.1<xss.length)->(x∈(ws.foldl q4H xss).getD t []↔x∈xss.getD t []\/∃w∈ws,w.1=t/\x=q04 0 w.2)
 |[],xss,_=>by simp
 |w::ws,xss,h=>by
  have h1:=h w Qb;rw[List.foldl_cons,q81 t x ws (q4H xss w) λ v hv=>by rw[q5P];exact h v (Qa _ hv)];have e:x∈(q4H xss w).getD t []↔x∈xss.getD t []\/(w.1=t/\x=q04 0 w.2):=by
   unfold q4H
   by_cases q:w.1=t
   ·subst q;simp[QY,h1]
   ·simp[QY,Jt q,q]
  rw[e];simp only[Qf,exists_eq_or_imp,or_assoc]
theorem qCf {n:Nat}{ws:List Wn}(h:∀w∈ws,w.1<n) (k t:Nat):mayL (nds n ws) k t=(!k.testBit t&&ws.any λ w=>decide (w.1=t)&&w.2.all k.testBit):=by
 unfold mayL;congr 1;rw[QE,QQ,QQ];have hm:∀x,x∈(nds n ws).getD t []↔∃w∈ws,w.1=t/\x=q04 0 w.2:=λ x=>by
  unfold nds;rw[q81 t x ws _ λ w hw=>by rw[Q7];exact h w hw];have:(Qh n ([]:List Nat)).getD t []=[]:=by
   by_cases q:t<n<;>simp[QY,q]
  rw[this];simp
 have hs:∀s:List Nat,Sm (q04 0 s) k↔s.all k.testBit=true:=λ s=>by rw[Qj];exact⟨λ g e he=>g e (by rw[q0f];exact decide_eq_true he),λ g i hi=>g i (by rw[q0f] at hi;exact of_decide_eq_true hi)⟩
 constructor
 ·rintro⟨x,hx,e⟩;obtain⟨w,hw,h1,h2⟩:=(hm x).mp hx;refine⟨w,hw,?_⟩;rw[beq_iff_eq,q2a,h2,hs] at e;simp[h1,e]
 ·rintro⟨w,hw,e⟩;rw[Qc,decide_eq_true_eq] at e;exact⟨q04 0 w.2,(hm _).mpr ⟨w,hw,e.1,rfl⟩,by rw[beq_iff_eq,q2a,hs];exact e.2⟩
theorem qCg {G:Nat->List D->R D}{ρ:Env}{i:Nat}{a b:L}{xss:List (List D)}{t:Nat}{ys:List D}{d:D}(h1:ρ[i]? = some (some (.own2 xss))) (h2:ev G subC a ρ = .ok (nI t)) (h3:xss[t]? = some ys) (h4:ev G subC b ρ = .ok d) (h5:ys.length<big) :
  ex G subC (.app2 i a b) ρ = .ok (ρ.set i (some (.own2 (xss.set t (ys++[d]))))) .nx:=by
 rw[qFw,h1];simp only[h2,q07];show (if 0<=(t:Int) then (match xss[((t:Int)).toNat]? with
       |some ys=>(ev G subC b ρ).go ρ λ d=>if ys.length<big then .ok (ρ.set i (some (.own2 (xss.set ((t:Int)).toNat (ys++[d]))))) .nx else .stuck
       |none=> .stuck) else .stuck)=_
 rw[if_pos (by lia)];simp only[Int.toNat_natCast,h3,h4,q07];rw[if_pos h5]
theorem qA0 (k:Nat) (x:Option Sl):∀(ws:List Wn) (xss:List (List Nat)) (y:Option Sl),(∀w∈ws,w.1<xss.length/\∀e∈w.2,e<=1000)->(∀l∈xss,l.length+ws.length<=1000)->
  ∃y',q0z (exs (Gm (k+1)) subC qCR) 0 [2] (ws.map wD) [x,some (.own2 (xss.map nL)),y] = .ok [x,some (.own2 ((ws.foldl q4H xss).map nL)),y'] .nx
 |[],xss,y,_,_=>⟨y,rfl⟩
 |w::ws,xss,y,h,hl=>by
  have h1:=h w Qb;have hg:xss.getD w.1 []=xss[w.1]'h1.1:=by simp[QY,h1.1]
  have hm:xss.getD w.1 []∈xss:=by rw[hg];exact QT _
  have hl2:=hl _ hm;simp only[Qu] at hl hl2;obtain⟨y',e⟩:=qA0 k x ws (q4H xss w) (some (.val (wD w))) (λ v hv=>by rw[q5P];exact h v (Qa _ hv)) (λ l hm2=>by
   unfold q4H at hm2;rcases List.mem_or_eq_of_mem_set hm2 with q|q
   ·have:=hl l q;lia
   ·rw[q,QA,Jd];lia)
  refine⟨y',?_⟩;rw[Qv,q0L,List.foldl_cons,<-e];have e1:=q9u k w.2 h1.2 (.tup (nL w.2)) (.inl rfl);have e2:=qCg (G:=Gm (k+1)) (ρ:=[x,some (.own2 (xss.map nL)),some (.val (wD w))]) (i:=1) (a:= .idx (.var 2) (.con (.int 0))) (b:= .call 0 [(.idx (.var 2) (.con (.int 1)))]) (xss:=xss.map nL) (t:=w.1) (ys:=nL (xss.getD w.1 [])) (d:=nI (q04 0 w.2)) rfl (by simp[wD,idx0]) (by rw[Qt,Ql h1.1,hg];rfl) (by simp[wD,idx1,e1]) (by rw[q0K,q0P];lia);have e3:(xss.map nL).set w.1 (nL (xss.getD w.1 [])++[nI (q04 0 w.2)])=(q4H xss w).map nL:=by unfold q4H;rw[List.map_set];simp
  rw[e3] at e2;simp only[qCR,q0y,q0X,QZ,Q0] at e2 |-;rw[e2];rfl
section
variable {n:Nat}{ws:List Wn}(g:Good n ws)
include g
theorem qCh:∀w∈ws,w.1<n:=λ w hw=>(q8m.mp (g.ok w hw)).1
theorem q67 (k:Nat):Gm (k+2) 4 [rD n ws] = .ok (ndD (nds n ws)):=by
 have hn:=g.n5;obtain⟨y',e⟩:=qA0 k (some (.val (rD n ws))) ws (Qh n []) none (λ w hw=>by
  have h:=q8m.mp (g.ok w hw);rw[Q7];exact⟨h.1,λ e he=>by have:=h.2.1.2 e he;lia⟩) (λ l hl=>by
  rw[List.eq_of_mem_replicate hl];have:=g.len;simp;lia)
 have e0:((Qh n ([]:List Nat)).map nL)=Qh n []:=by rw[List.map_replicate];rfl
 rw[e0] at e;show Ev.run (Gm (k+1)) subC 3 [.setE 1 (.idx (.var 0) (.con (.int 0))),.forr 0 [2] (.e (.idx (.var 0) (.con (.int 1)))) qCR,.retO 1] [rD n ws]=_;have e1:ex (Gm (k+1)) subC (.setE 1 (.idx (.var 0) (.con (.int 0)))) [some (.val (rD n ws)),none,none] = .ok [some (.val (rD n ws)),some (.own2 (Qh n [])),none] .nx:=by
  have:ev (Gm (k+1)) subC (.idx (.var 0) (.con (.int 0))) [some (.val (rD n ws)),none,none] = .ok (nI n):=by simp[rD,idx0]
  rw[qFv,this,q07];show (if 0<=(n:Int)/\(n:Int)<=1000 then _ else _)=_;rw[if_pos (by lia)];rfl
 have e2:ex (Gm (k+1)) subC (.forr 0 [2] (.e (.idx (.var 0) (.con (.int 1)))) qCR) [some (.val (rD n ws)),some (.own2 (Qh n [])),none] = .ok [some (.val (rD n ws)),some (.own2 ((ws.foldl q4H (Qh n [])).map nL)),y'] .nx:=by
  have:evi (Gm (k+1)) subC (.e (.idx (.var 0) (.con (.int 1)))) [some (.val (rD n ws)),some (.own2 (Qh n [])),none] = .ok (ws.map wD):=by simp[rD,idx1]
  rw[q1C,this,q07,e]
 have e3:vals [rD n ws]++Qh (3 - [rD n ws].length) none=[some (.val (rD n ws)),none,none]:=rfl;simp only[Ev.run,q0y,q0X,e3,e1,e2,q5b];simp[nds,ndD]
theorem q4b (k:Nat) (zs:List Int):Gm (k+5) 13 [rD n ws,.tup (iL zs)]=if q0p n (-1) zs=true then .ok .non else .err 2:=by show Ev.run (Gm (k+4)) subC 2 q1L [rD n ws,.tup (iL zs)]=_;have e1:=q1o g k;have e2:=qCa (k+2) n zs;have e3:idxD (rD n ws) (.int 0) = .ok (.int n):=idx0 _ _;cases q:q0p n (-1) zs<;>simp[Ev.run,q1L,e1,e2,e3,q]
theorem qA1 (k m:Nat) (hm:m<2^n):Gm (k+5) 13 [rD n ws,.tup (nL (q01 m))] = .ok .non:=by rw[qES,q4b g,if_pos (qCe.mpr (q3i hm))]
theorem q68 {m:Nat}(hm:m<2^n):∀t∈q01 m,t<=1000:=λ t ht=>by have:=qCX hm (q03.mp ht);have:=g.n5;lia
theorem qCi (k m:Nat) (hm:m<2^n):∃c,q7v (nds n ws) m c/\Gm (k+6) 17 [rD n ws,.tup (nL (q01 m))] = .ok (.tup (nL (q01 c))):=by have hn:=g.n5;obtain⟨c,hc,e5⟩:=qJr (nd:=nds n ws) (k+1) m (by rw[q2E];exact hm) (by rw[q2E];lia);refine⟨c,hc,?_⟩;show Ev.run (Gm (k+5)) subC 2 q5M [rD n ws,.tup (nL (q01 m))]=_;have e1:=qA1 g k m hm;have e2:=q67 g (k+3);have e3:=q9u (k+4) (q01 m) (q68 g hm) _ (.inl rfl);rw[q3j] at e3;have hc2:=q5N hc.1;rw[q2E] at hc2;have e4:=q6j (k+3) c (Qn hc2 (QN (by decide) (by lia)));simp[Ev.run,q5M,e1,e2,e3,e4,e5]
theorem q4c (k m:Nat) (hm:m<2^n):∃c,q7v (nds n ws) m c/\Gm (k+7) 16 [rD n ws,.tup (nL (q01 m))] = .ok (.bl (decide (c=m))):=by
 obtain⟨c,hc,e⟩:=qCi g k m hm;refine⟨c,hc,?_⟩;show Ev.run (Gm (k+6)) subC 2 q1M [rD n ws,.tup (nL (q01 m))]=_;have e1:cmD .eq (.tup (nL (q01 c))) (.tup (nL (q01 m))) = .ok (.bl (decide (c=m))):=by
  have:cmD .eq (.tup (nL (q01 c))) (.tup (nL (q01 m)))=if pl (.tup (nL (q01 c)))&&pl (.tup (nL (q01 m))) then .ok (.bl (eqb (.tup (nL (q01 c))) (.tup (nL (q01 m))))) else .stuck:=by simp[cmD]
  rw[this,qDV,qDV,q9C];have:decide (q01 c=q01 m)=decide (c=m):=decide_eq_decide.mpr ⟨q3k,λ h=>by rw[h]⟩;rw[this];rfl
 simp[Ev.run,q1M,e,e1]
theorem q29 (k:Nat):∃ks:List Nat,ks.Nodup/\(∀x,x∈ks↔Rch (nds n ws) x)/\Gm (k+5) 15 [rD n ws] = .ok (.dct (nL ks) (trs ks.length)):=by have hn:=g.n5;obtain⟨ks,h1,h2,e5⟩:=qLN (nd:=nds n ws) k (by rw[q2E];lia);refine⟨ks,h1,h2,?_⟩;rw[q2E] at e5;show Ev.run (Gm (k+4)) subC 1 q0s [rD n ws]=_;have e1:=q1o g k;have e2:=q67 g (k+2);have e3:=qLL (k+3) n (by lia);have e6:idxD (rD n ws) (.int 0) = .ok (nI n):=idx0 _ _;simp[Ev.run,q0s,e1,e2,e3,e5,e6]
end
end Mk
namespace Mk
open Ev
variable {n:Nat}
noncomputable def q16:Nat->List Nat
 |0=>[0]
 |1=>[0,1]
 |2=>[0,1,2,3]
 |3=>[0,1,2,4,3,5,6,7]
 |4=>[0,1,2,4,8,3,5,9,6,10,12,7,11,13,14,15]
 |5=>[0,1,2,4,8,16,3,5,9,17,6,10,18,12,20,24,7,11,19,13,21,25,14,22,26,28,15,23,27,29,30,31]
 |_=>[]
def tD (m:Nat):D:= .tup (nL (q01 m))
theorem le5 {P:Nat->Prop}(h:n<=5) (h0:P 0) (h1:P 1) (h2:P 2) (h3:P 3) (h4:P 4) (h5:P 5):P n:=by
 match n,h with
 |0,_=>exact h0
 |1,_=>exact h1
 |2,_=>exact h2
 |3,_=>exact h3
 |4,_=>exact h4
 |5,_=>exact h5
theorem q2F (h:n<=5):∀m,m∈q16 n↔m<2^n:=by have a:∀x∈q16 n,x<2^n:=le5 (P:=λ n=>∀x∈q16 n,x<2^n) h (by decide) (by decide) (by decide) (by decide) (by decide) (by decide);have b:∀x,x<2^n->x∈q16 n:=le5 (P:=λ n=>∀x,x<2^n->x∈q16 n) h (by decide) (by decide) (by decide) (by decide) (by decide +kernel) (by decide +kernel);exact λ m=>⟨a m,b m⟩
theorem q1f (h:n<=5):(q16 n).Nodup :=
 le5 (P:=λ n=>(q16 n).Nodup) h (by decide) (by decide) (by decide) (by decide +kernel) (by decide +kernel) (by decide +kernel)
theorem qET (h:n<=5):(q16 n).Pairwise λ a b=>¬b &&& a=b :=
 le5 (P:=λ n=>(q16 n).Pairwise λ a b=>¬b &&& a=b) h (by decide) (by decide) (by decide) (by decide +kernel) (by decide +kernel) (by decide +kernel)
def keyD (l:List Nat):D:=wD (l.length,l)
theorem qEU (h:n<=5):(q16 n).Pairwise λ a b=>ltb (keyD (q01 b)) (keyD (q01 a))=false :=
 le5 (P:=λ n=>(q16 n).Pairwise λ a b=>ltb (keyD (q01 b)) (keyD (q01 a))=false) h (by decide +kernel) (by decide +kernel) (by decide +kernel) (by decide +kernel) (by decide +kernel) (by decide +kernel)
theorem qCj (h:n<=5):∃ms,q16 n=0::ms :=
 le5 (P:=λ n=>∃ms,q16 n=0::ms) h ⟨_,rfl⟩ ⟨_,rfl⟩ ⟨_,rfl⟩ ⟨_,rfl⟩ ⟨_,rfl⟩ ⟨_,rfl⟩
theorem qCk (G:Nat->List D->R D):Ev.run G subC 3 q0t [nI 0] = .ok (.lst ((q16 0).map tD)):=by kernel_rfl
theorem qCl (G:Nat->List D->R D):Ev.run G subC 3 q0t [nI 1] = .ok (.lst ((q16 1).map tD)):=by kernel_rfl
theorem qCm (G:Nat->List D->R D):Ev.run G subC 3 q0t [nI 2] = .ok (.lst ((q16 2).map tD)):=by kernel_rfl
theorem qCn (G:Nat->List D->R D):Ev.run G subC 3 q0t [nI 3] = .ok (.lst ((q16 3).map tD)):=by kernel_rfl
theorem qCo (G:Nat->List D->R D):Ev.run G subC 3 q0t [nI 4] = .ok (.lst ((q16 4).map tD)):=by kernel_rfl
theorem qCp (G:Nat->List D->R D):Ev.run G subC 3 q0t [nI 5] = .ok (.lst ((q16 5).map tD)):=by kernel_rfl
theorem q0i (k f:Nat) (xs:List D) (a b:Nat) (l:List S) (h:dsM[f]? = some (a,b,l)) (hl:xs.length=a):Gm (k+1) f xs=Ev.run (Gm k) subC b l xs:=by rw[Gm,h];exact if_pos hl
theorem qFE (k:Nat) (h:n<=5):Gm (k+1) 30 [nI n] = .ok (.lst ((q16 n).map tD)):=by
 have e:Gm (k+1) 30 [nI n]=Ev.run (Gm k) subC 3 q0t [nI n]:=q0i k 30 _ 1 3 _ rfl rfl;refine e.trans ?_;clear e
 match n,h with
 |0,_=>exact qCk _
 |1,_=>exact qCl _
 |2,_=>exact qCm _
 |3,_=>exact qCn _
 |4,_=>exact qCo _
 |5,_=>exact qCp _
end Mk
namespace Mk
open Ev
variable {G:Nat->List D->R D}{l:List S}{ρ ρ':Env}
theorem q06 {s:S}(h:ex G subC s ρ = .ok ρ' .nx):exs G subC (s::l) ρ=exs G subC l ρ':=by rw[q0y,h,q5b]
theorem q1G {s:S}{d:D}(h:ex G subC s ρ = .ok ρ' (.ret d)):exs G subC (s::l) ρ = .ok ρ' (.ret d):=by rw[q0y,h,qIK]
theorem q17 {n:Nat}{ds:List D}{d:D}(h0:vals ds++Qh (n-ds.length) none=ρ) (h:exs G subC l ρ = .ok ρ' (.ret d)):Ev.run G subC n l ds = .ok d:=by unfold Ev.run;rw[h0,h]
theorem q0Z {α:Type}{elt:Env->R D}{cond:Env->R Bool}{k:Nat}{ρ:Env}{f g:α->D}{us:α->List D}{p:α->Bool}:∀{xs:List α},
  (∀x∈xs,unp k (f x) = .ok (us x)/\cond (vals (us x)++ρ) = .ok (p x)/\(p x=true->elt (vals (us x)++ρ) = .ok (g x)))->q0U elt cond k ρ (xs.map f) = .ok ((xs.filter p).map g)
 |[],_=>rfl
 |x::xs,h=>by
  obtain⟨h1,h2,h3⟩:=h x Qb;have ih:=q0Z (elt:=elt) (cond:=cond) (k:=k) (ρ:=ρ) (f:=f) (g:=g) (us:=us) (p:=p) (xs:=xs) λ e he=>h e (Qa _ he);rw[Qv,q0U,h1,q00,h2,q00];cases hp:p x with
  |true=>rw[if_pos rfl,h3 hp,q00,ih];simp[Q9,hp]
  |false=>rw[if_neg (by simp),ih];simp[Q9,hp]
theorem qFF (i:Nat) (l:List Nat):cmD .mem (nI i) (.tup (nL l)) = .ok (.bl (decide (i∈l))):=by have e2:cmD .mem (nI i) (.tup (nL l))=(memD (nI i) (.tup (nL l))).bind λ r=> .ok (.bl r):=rfl;rw[e2,memD];simp[qER]
theorem qJx (i:Nat) (l:List Nat):cmD .mem (nI i) (.lst (nL l)) = .ok (.bl (decide (i∈l))):=by have e2:cmD .mem (nI i) (.lst (nL l))=(memD (nI i) (.lst (nL l))).bind λ r=> .ok (.bl r):=rfl;rw[e2,memD];simp[qER]
theorem qCq (i:Nat) (l:List Nat):cmD .nmem (nI i) (.tup (nL l)) = .ok (.bl (!decide (i∈l))):=by have e2:cmD .nmem (nI i) (.tup (nL l))=(memD (nI i) (.tup (nL l))).bind λ r=> .ok (.bl (!r)):=rfl;rw[e2,memD];simp[qER]
theorem q5Q {α:Type}(f:α->Bool):∀l:List α,bools? (l.map λ x=>D.bl (f x))=some (l.map f)
 |[]=>rfl
 |x::l=>by simp[bools?,q5Q f l]
theorem filter_tt {α:Type}(l:List α):l.filter (λ _=>true)=l:=List.filter_eq_self.mpr λ _ _=>rfl
theorem qJy (l:List Nat):nL l=l.map nI:=rfl
theorem qA2 (i j:Nat) (l s:List Nat) (hl:l.length<=1000) (h1:ρ[i]? = some (some (.val (.tup (nL l))))) (h2:ρ[j]? = some (some (.val (.tup (nL s))))) :
  ev G subC (.bi .all [(.comp 0 (.cm .mem (.var 0) (.var (j+1))) (.e (.var i)) [])]) ρ = .ok (.bl (l.all λ e=>decide (e∈s))):=by
 have e0:evi G subC (.e (.var i)) ρ = .ok (nL l):=by simp[h1]
 have e1:q0U (ev G subC (.cm .mem (.var 0) (.var (j+1)))) (tsts G subC []) 0 ρ (l.map nI) = .ok ((l.filter λ _=>true).map λ e=> .bl (decide (e∈s))) :=
  q0Z (us:=λ e=>[nI e]) λ e _=>⟨rfl,rfl,λ _=>by simp[h2,qFF]⟩
 rw[filter_tt] at e1;have hb:(l.map λ e=>D.bl (decide (e∈s))).length<=big:=by rw[Qe,q0P];lia
 rw[q1S,q0H,q13,e0,q00,qJy,e1,q0b,q00,if_pos hb,q00,q0c,q00,q00,qIb,q5Q];simp
variable {n:Nat}{ws:List Wn}
theorem qH7 (g:Good n ws) (s:List Nat) (x y:Option Sl) (t:Nat):ev G subC qGy [some (.val (rD n ws)),some (.val (.tup (nL s))),x,some (.val (nI t)),y] =
  .ok (.lst ((ws.filter λ w=>decide (w.1=t)&&w.2.all λ e=>decide (e∈s)).map λ w=> .tup (nL w.2))):=by
 have e0:evi G subC (.e (.idx (.var 0) (.con (.int 1)))) [some (.val (rD n ws)),some (.val (.tup (nL s))),x,some (.val (nI t)),y] = .ok (ws.map wD):=by simp[rD,idx1]
 have e1:q0U (ev G subC (.var 1)) (tsts G subC [(.and (.e (.cm .eq (.var 0) (.var 5))) (.e (.bi .all [(.comp 0 (.cm .mem (.var 0) (.var 4)) (.e (.var 1)) [])])))]) 2 [some (.val (rD n ws)),some (.val (.tup (nL s))),x,some (.val (nI t)),y] (ws.map wD) =
   .ok ((ws.filter λ w=>decide (w.1=t)&&w.2.all λ e=>decide (e∈s)).map λ w=> .tup (nL w.2)) :=
  q0Z (us:=λ w=>[nI w.1,.tup (nL w.2)]) λ w hw=>by
   have h5:=g.n5;have hr:=(q8m.mp (g.ok w hw)).2.1;have hl:w.2.length<=1000:=by have:=q0g n w.2 (hr.1.imp λ h=>by lia) hr.2;lia
   have ha:=qA2 (G:=G) (ρ:=[some (.val (nI w.1)),some (.val (.tup (nL w.2))),some (.val (rD n ws)),some (.val (.tup (nL s))),x,some (.val (nI t)),y]) 1 3 w.2 s hl rfl rfl;refine⟨rfl,?_,λ _=>rfl⟩;show tsts G subC _ [some (.val (nI w.1)),some (.val (.tup (nL w.2))),some (.val (rD n ws)),some (.val (.tup (nL s))),x,some (.val (nI t)),y]=_;simp only[q1Q,q1v,q8P,q8R];rw[ha];generalize (w.2.all λ e=>decide (e∈s))=bb
   by_cases q:w.1=t<;>cases bb<;>simp[q]
 have hb:=g.len;have hb2:((ws.filter λ w=>decide (w.1=t)&&w.2.all λ e=>decide (e∈s)).map λ w=>D.tup (nL w.2)).length<=big:=by rw[Qe,q0P];exact Qr (QD _ _) (by lia)
 rw[qGy,q13,e0,q00,e1,q0b,q00,if_pos hb2]
theorem ne_nil (l:List D) (h:plL l=true) (h2:∀d∈l,plN 7 d=true):cmD .ne (.lst l) (.lst []) = .ok (.bl (!l.isEmpty)):=by
 have h3:pl (.lst l)=true:=by unfold pl;rw[q2w];exact Qj.mpr h2
 have e:cmD .ne (.lst l) (.lst [])=if pl (.lst l)&&pl (.lst []) then .ok (.bl (!eqb (.lst l) (.lst []))) else .stuck:=rfl
 rw[e,h3];have:pl (.lst [])=true:=rfl;rw[this];cases l<;>simp[eqb,eqbL]
theorem q8n {G:Nat->List D->R D}(g:Good n ws) (m:Nat):∀(ts acc:List Nat) (x y:Option Sl),acc.length+ts.length<=1000->
  ∃x' y',q0z (exs G subC qAZ) 0 [3] (nL ts) [some (.val (rD n ws)),some (.val (tD m)),some (.own (.lst (nL acc))),x,y] =
   .ok [some (.val (rD n ws)),some (.val (tD m)),some (.own (.lst (nL (acc++ts.filter (mayL (nds n ws) m))))),x',y'] .nx
 |[],acc,x,y,_=>⟨x,y,by simp[q1j]⟩
 |t::ts,acc,x,y,hl=>by
  simp only[Qu] at hl;have e1:=qH7 (G:=G) g (q01 m) (some (.own (.lst (nL acc)))) y t;have hm:=qCf (qCh g) m t;have hall:∀s:List Nat,s.all (λ e=>decide (e∈q01 m))=s.all m.testBit:=λ s=>by rw[QE];simp[Qj,q03]
  simp only[hall] at e1;have hn:decide (t∈q01 m)=m.testBit t:=by rw[QE,decide_eq_true_eq,q03]
  generalize hgl:(ws.filter λ w=>decide (w.1=t)&&w.2.all m.testBit)=gl at e1;have hany:(ws.any λ w=>decide (w.1=t)&&w.2.all m.testBit)=!gl.isEmpty:=by
   rw[<-hgl,QE,QQ];cases q:(ws.filter λ w=>decide (w.1=t)&&w.2.all m.testBit) with
   |nil =>
    simp only[List.isEmpty_nil,Bool.not_true,QL,iff_false];rintro⟨w,hw,h⟩;have:=(QF (p:=λ w:Wn=>decide (w.1=t)&&w.2.all m.testBit)).mpr ⟨hw,h⟩;rw[q] at this;cases this
   |cons w l =>
    have:w∈(ws.filter λ w=>decide (w.1=t)&&w.2.all m.testBit):=(by rw[q];exact Qb);have:=QF.mp this;simp only[List.isEmpty_cons,Bool.not_false,iff_true];exact⟨w,this.1,this.2⟩
  rw[hany] at hm;have e2:cmD .ne (.lst (gl.map λ w=>D.tup (nL w.2))) (.lst []) = .ok (.bl (!gl.isEmpty)):=by rw[ne_nil _ (q1V.mpr λ d hd=>by obtain⟨w,_,rfl⟩:=Qg.mp hd;exact qDV _) (λ d hd=>by obtain⟨w,_,rfl⟩:=Qg.mp hd;simp)];cases gl<;>rfl
  have e3:=qCq t (q01 m);rw[hn] at e3;have b1:acc.length<big:=by rw[q0P];lia
  rw[q1J,q0L];cases q:mayL (nds n ws) m t with
  |true =>
   obtain⟨x',y',e⟩:=q8n (G:=G) g m ts (acc++[t]) (some (.val (nI t))) (some (.val (.lst (gl.map λ w=>D.tup (nL w.2))))) (by simp;lia);refine⟨x',y',?_⟩;rw[Q9,if_pos q];have:acc++t::ts.filter (mayL (nds n ws) m)=acc++[t]++ts.filter (mayL (nds n ws) m):=(by simp);rw[this,<-e];rw[q] at hm;have hm1:=hm.symm;rw[Qc] at hm1;unfold tD at *;simp only[qAZ,q0y,q0X,q0O,QZ,Q0,e1,q07,q5b];have hb:(0:Nat)<=big:=QM _;simp[e3,e2,hm1.1,hm1.2,b1]
  |false =>
   obtain⟨x',y',e⟩:=q8n (G:=G) g m ts acc (some (.val (nI t))) (some (.val (.lst (gl.map λ w=>D.tup (nL w.2))))) (by lia);refine⟨x',y',?_⟩;rw[Q9,if_neg (by simp[q]),<-e];rw[q] at hm;have hb:(0:Nat)<=big:=QM _;unfold tD at *;simp only[qAZ,q0y,q0X,q0O,QZ,Q0,e1,q07,q5b];cases q1:m.testBit t with
   |true=>simp[e3,q1]
   |false =>
    have q2:gl.isEmpty=true:=(by rw[q1] at hm;simpa using hm.symm);simp[e3,q1,e2,q2]
theorem q6n:∀{l m:List Nat},l.Pairwise (· < ·)->m.Pairwise (· < ·)->(∀x,x∈l↔x∈m)->l=m
 |[],[],_,_,_=>rfl
 |[],b::m,_,_,h=>absurd ((h b).mpr Qb) Jz
 |a::l,[],_,_,h=>absurd ((h a).mp Qb) Jz
 |a::l,b::m,hl,hm,h=>by
  obtain⟨l1,l2⟩:=QC.mp hl;obtain⟨m1,m2⟩:=QC.mp hm;have e:a=b:=by
   have ha:=(h a).mp Qb;have hb:=(h b).mpr Qb;rcases Qf.mp ha with e|ha
   ·exact e
   ·rcases Qf.mp hb with e|hb
    ·exact e.symm
    ·have:=m1 a ha;have:=l1 b hb;lia
  subst e;rw[q6n l2 m2 λ x=>?_];have hx:=h x;simp only[Qf] at hx;constructor
  ·intro hxl;exact (hx.mp (.inr hxl)).resolve_left λ z=>by have:=l1 x hxl;lia
  ·intro hxm;exact (hx.mpr (.inr hxm)).resolve_left λ z=>by have:=m1 x hxm;lia
theorem q5R {l:List Nat}(h:l.Pairwise (· < ·)):q01 (q04 0 l)=l :=
 q6n (List.Pairwise.filter _ Q5) h λ x=>by rw[q03,q0f,decide_eq_true_eq]
theorem q82 (n:Nat):q01 (2^n-1)=Qk n :=
 q6n (List.Pairwise.filter _ Q5) Q5 λ x=>by rw[q9y,Qw]
theorem qH8 (g:Good n ws) (k m:Nat):Gm (k+1) 31 [rD n ws,tD m] = .ok (.lst (nL (q2O (nds n ws) m (2^n-1)))):=by
 have h5:=g.n5;obtain⟨x',y',e⟩:=q8n (G:=Gm k) g m (Qk n) [] none none (by simp;lia);have h0:=q0i k 31 [rD n ws,tD m] 2 5 [.setO 2 (.lst []),.forr 0 [3] (.rng [(.idx (.var 0) (.con (.int 0)))]) qAZ,.retO 2] rfl rfl;rw[h0];unfold q2O;rw[q82];have e6:idxD (rD n ws) (.int 0) = .ok (nI n):=idx0 _ _;have e7:evi (Gm k) subC (.rng [(.idx (.var 0) (.con (.int 0)))]) [some (.val (rD n ws)),some (.val (tD m)),some (.own (.lst [])),none,none] = .ok (nL (Qk n)):=by
  have:evs (Gm k) subC [(.idx (.var 0) (.con (.int 0)))] [some (.val (rD n ws)),some (.val (tD m)),some (.own (.lst [])),none,none] = .ok [nI n]:=by simp[e6]
  rw[q1T,this,q00,q4T n (by lia)]
 have e8:ex (Gm k) subC (.forr 0 [3] (.rng [(.idx (.var 0) (.con (.int 0)))]) qAZ) [some (.val (rD n ws)),some (.val (tD m)),some (.own (.lst [])),none,none] = .ok [some (.val (rD n ws)),some (.val (tD m)),some (.own (.lst (nL (List.filter (mayL (nds n ws) m) (Qk n))))),x',y'] .nx:=by rw[q1C,e7,q07];exact e
 have e9:vals [rD n ws,tD m]++Qh (5 - [rD n ws,tD m].length) none=[some (.val (rD n ws)),some (.val (tD m)),none,none,none]:=rfl;have hb:([]:List D).length<=big:=QM _;have e10:ex (Gm k) subC (.setO 2 (.lst [])) [some (.val (rD n ws)),some (.val (tD m)),none,none,none] = .ok [some (.val (rD n ws)),some (.val (tD m)),some (.own (.lst [])),none,none] .nx:=by rw[q4t,q7F,q0c,q00,if_pos hb,q07];rfl
 exact q17 e9 (by rw[q06 e10,q06 e8];exact q1G (by rw[q8T];rfl))
end Mk
namespace Mk
open Ev
variable {m:Nat}{G:Nat->List D->R D}
variable {n:Nat}{ws:List Wn}
noncomputable def rB (nd:List (List Nat)) (m:Nat):Bool:=@decide (Rch nd m) (Jy _)
theorem q69 {nd:List (List Nat)}:rB nd m=true↔Rch nd m:=@decide_eq_true_iff _ (Jy _)
noncomputable def due (n:Nat) (ws:List Wn):List Nat:=(q16 n).filter (rB (nds n ws))
def wo (m t:Nat):Nat:=q04 0 ((q01 m).filter λ e=>!decide (e=t))
theorem qH9 (m t:Nat):q01 (wo m t)=(q01 m).filter λ e=>!decide (e=t) :=
 q5R (List.Pairwise.filter _ (List.Pairwise.filter _ Q5))
theorem qFG (m t i:Nat):(wo m t).testBit i=(m.testBit i&&!decide (i=t)):=by rw[wo,q0f,QE,decide_eq_true_eq,QF,q03,Qc]
theorem qHA {t:Nat}(h:m.testBit t=true):wo m t ||| 1 <<< t=m:=QJ λ i=>by
 rw[q15,qFG]
 by_cases e:t=i
 ·subst e;simp[h]
 ·have:¬i=t:=λ z=>e z.symm;simp[e,this]
theorem qLU {k t:Nat}(h:k.testBit t=false):wo (k ||| 1 <<< t) t=k:=QJ λ i=>by
 rw[qFG,q15]
 by_cases e:t=i
 ·subst e;simp[h]
 ·have:¬i=t:=λ z=>e z.symm;simp[e,this]
theorem qLV (l:List Nat) (i:Nat):(l.map tD).any (λ y=>eqb y (tD i))=decide (i∈l):=by
 induction l with
 |nil=>simp
 |cons a l ih =>
  have e:eqb (tD a) (tD i)=decide (a=i):=by unfold tD;rw[q9C];exact decide_eq_decide.mpr ⟨q3k,λ h=>by rw[h]⟩
  rw[Qv,Q3,ih,e]
  by_cases h:a=i
  ·subst h;simp
  ·have:¬i=a:=λ e=>h e.symm;simp[h,this]
theorem pl_t (m:Nat):pl (tD m)=true:=qDV _
theorem qHB (l:List Nat):plL (l.map tD)=true:=q1V.mpr λ d hd=>by obtain⟨a,_,rfl⟩:=Qg.mp hd;exact pl_t a
theorem qFH (i:Nat) (l:List Nat):memD (tD i) (.lst (l.map tD)) = .ok (decide (i∈l)):=by rw[memD,pl_t,qHB,qLV];rfl
theorem qJz (i:Nat) (l:List Nat):cmD .mem (tD i) (.lst (l.map tD)) = .ok (.bl (decide (i∈l))):=by have e2:cmD .mem (tD i) (.lst (l.map tD))=(memD (tD i) (.lst (l.map tD))).bind λ r=> .ok (.bl r):=rfl;rw[e2,qFH];rfl
theorem qCr (i:Nat) (l:List Nat):cmD .nmem (tD i) (.lst (l.map tD)) = .ok (.bl (!decide (i∈l))):=by have e2:cmD .nmem (tD i) (.lst (l.map tD))=(memD (tD i) (.lst (l.map tD))).bind λ r=> .ok (.bl (!r)):=rfl;rw[e2,qFH];rfl
theorem q3l (h:m<2^5):(q01 m).length<=5 :=
 q0g 5 _ ((q3i h).1.imp λ h=>by lia) (q3i h).2
theorem qHC (r f y:Option Sl) (m t:Nat) (hm:m<2^5):ex G subC (.set 4 (.bi .tuple [qCS])) [r,f,some (.val (tD m)),some (.val (nI t)),y] = .ok [r,f,some (.val (tD m)),some (.val (nI t)),some (.val (tD (wo m t)))] .nx:=by
 have e0:evi G subC (.e (.var 2)) [r,f,some (.val (tD m)),some (.val (nI t)),y] = .ok (nL (q01 m)):=rfl;have e1:=q1Z (elt:=ev G subC (.var 0)) (cond:=tsts G subC [(.e (.cm .ne (.var 0) (.var 4)))]) (ρ:=[r,f,some (.val (tD m)),some (.val (nI t)),y]) (p:=λ e=>!decide (e=t)) (l:=q01 m)
  (λ a _=>by by_cases q:a=t<;>simp[q]) (λ a _=>rfl)
 have hb:(nL ((q01 m).filter λ e=>!decide (e=t))).length<=big:=by rw[q0K,q0P];exact Qr (QD _ _) (Qr (q3l hm) (by decide))
 have e2:ev G subC qCS [r,f,some (.val (tD m)),some (.val (nI t)),y] = .ok (.lst (nL ((q01 m).filter λ e=>!decide (e=t)))):=by rw[qCS,q13,e0,q00,e1,q0b,q00,if_pos hb]
 have e3:ev G subC (.bi .tuple [qCS]) [r,f,some (.val (tD m)),some (.val (nI t)),y] = .ok (tD (wo m t)):=by rw[q1S,q0H,e2,q00,q0c,q00,q00,q1w,<-qH9];rfl
 rw[q0O,e3,q07];rfl
theorem qEV (g:Good n ws) (j t:Nat):decide (t∈q2O (nds n ws) j (2^n-1))=mayL (nds n ws) j t:=by rw[QE,decide_eq_true_eq];unfold q2O;rw[QF,q82,Qw];exact⟨λ h=>h.2,λ h=>⟨by have:=q7t h;rwa [q2E] at this,h⟩⟩
theorem qHD (g:Good n ws) (m t:Nat) (fd:List Nat) (j:Nat) (e1:G 31 [rD n ws,tD j] = .ok (.lst (nL (q2O (nds n ws) j (2^n-1))))):tst G subC qGz [some (.val (rD n ws)),some (.own (.lst (fd.map tD))),some (.val (tD m)),some (.val (nI t)),some (.val (tD j))] =
  .ok (!decide (m∈fd)&&(decide (j∈fd)&&mayL (nds n ws) j t)):=by
 have e2:=qJx t (q2O (nds n ws) j (2^n-1));rw[qEV g] at e2;have e3:=qCr m fd;have e4:=qJz j fd;rw[qGz]
 by_cases q1:m∈fd
 ·simp[e3,q1]
 ·by_cases q2:j∈fd
  ·cases q3:mayL (nds n ws) j t<;>rw[q3] at e2<;>simp[e3,q1,e4,q2,e1,e2]
  ·simp[e3,q1,e4,q2]
noncomputable def addS (nd:List (List Nat)) (m:Nat) (ts fd:List Nat):List Nat :=
 if m∈fd then fd else if ts.any (λ t=>decide (wo m t∈fd)&&mayL nd (wo m t) t)=true then fd++[m] else fd
theorem q6o (g:Good n ws) (k m:Nat) (hm:m<2^5):∀(ts fd:List Nat) (x y:Option Sl),(m∉fd->fd.length<1000)->
  ∃x' y',q0z (exs (Gm (k+1)) subC qEM) 0 [3] (nL ts) [some (.val (rD n ws)),some (.own (.lst (fd.map tD))),some (.val (tD m)),x,y] =
   .ok [some (.val (rD n ws)),some (.own (.lst ((addS (nds n ws) m ts fd).map tD))),some (.val (tD m)),x',y'] .nx
 |[],fd,x,y,_=>⟨x,y,by simp[q1j,addS]⟩
 |t::ts,fd,x,y,hl=>by
  rw[q1J,q0L];have e1:=qHC (G:=Gm (k+1)) (some (.val (rD n ws))) (some (.own (.lst (fd.map tD)))) y m t hm;have e2:=qHD g m t fd (wo m t) (qH8 g k (wo m t));simp only[QZ,Q0,qEM] at e1 |-;rw[q06 e1,q0y,q3J,e2,q07];cases q:(!decide (m∈fd)&&(decide (wo m t∈fd)&&mayL (nds n ws) (wo m t) t)) with
  |true =>
   have q0:=q;rw[Qc] at q0;have q1:m∉fd:=(by simpa using q0.1);obtain⟨x',y',e⟩:=q6o g k m hm ts (fd++[m]) (some (.val (nI t))) (some (.val (tD (wo m t)))) (λ h=>absurd (by simp) h);refine⟨x',y',?_⟩;have ea:addS (nds n ws) m (t::ts) fd=fd++[m]:=by unfold addS;rw[if_neg q1,Q3,q0.2];rfl
   have eb:addS (nds n ws) m ts (fd++[m])=fd++[m]:=(by unfold addS;rw[if_pos (by simp)]);rw[eb] at e;rw[ea,<-e];have b1:(fd.map tD).length<big:=(by rw[Qe,q0P];have:=hl q1;lia);have e5:exs (Gm (k+1)) subC [.app 1 (.var 2)] [some (.val (rD n ws)),some (.own (.lst (fd.map tD))),some (.val (tD m)),some (.val (nI t)),some (.val (tD (wo m t)))] = .ok [some (.val (rD n ws)),some (.own (.lst ((fd++[m]).map tD))),some (.val (tD m)),some (.val (nI t)),some (.val (tD (wo m t)))] .nx:=by rw[q06 (ρ':=[some (.val (rD n ws)),some (.own (.lst ((fd++[m]).map tD))),some (.val (tD m)),some (.val (nI t)),some (.val (tD (wo m t)))]),q0X];rw[qBG];show (if (fd.map tD).length<big then _ else _)=_;rw[if_pos b1,Js];rfl
   rw[if_pos rfl,e5,q5b,q0X,q21];rfl
  |false =>
   obtain⟨x',y',e⟩:=q6o g k m hm ts fd (some (.val (nI t))) (some (.val (tD (wo m t)))) hl;refine⟨x',y',?_⟩;have ea:addS (nds n ws) m (t::ts) fd=addS (nds n ws) m ts fd:=by
    unfold addS
    by_cases q1:m∈fd
    ·rw[if_pos q1,if_pos q1]
    ·have q2:(decide (wo m t∈fd)&&mayL (nds n ws) (wo m t) t)=false:=(by simpa[q1] using q);rw[if_neg q1,if_neg q1,Q3,q2,Bool.false_or]
   rw[ea,<-e,if_neg (by simp),q0X,q5b,q0X,q21];rfl
theorem qHE (g:Good n ws) {pre ms:List Nat}(hs:q16 n=pre++m::ms) (h0:0∈pre) :
  addS (nds n ws) m (q01 m) (pre.filter (rB (nds n ws)))=(pre++[m]).filter (rB (nds n ws)):=by
 have hnd:=q1f g.n5;have hord:=qET g.n5;rw[hs] at hnd hord;have hmp:m∉pre:=λ h=>(Qz.mp hnd).2.2 m h m Qb rfl;have hmf:m∉pre.filter (rB (nds n ws)):=λ h=>hmp (QF.mp h).1;unfold addS;rw[if_neg hmf,List.filter_append];have key:(q01 m).any (λ t=>decide (wo m t∈pre.filter (rB (nds n ws)))&&mayL (nds n ws) (wo m t) t)=true↔Rch (nds n ws) m:=by
  rw[QQ];constructor
  ·rintro⟨t,ht,h⟩;rw[Qc,decide_eq_true_eq] at h;have hr:=q69.mp (QF.mp h.1).2;have:=Rch.s hr h.2
   rwa [qHA (q03.mp ht)] at this
  ·intro h;cases h with
   |z=>exact absurd h0 hmp
   |@s j t hj ht =>
    have hjt:=q4F ht;refine⟨t,q03.mpr (by rw[q15];simp),?_⟩;rw[qLU hjt,Qc,decide_eq_true_eq];refine⟨QF.mpr ⟨?_,q69.mpr hj⟩,ht⟩;have hlt:=q5N hj;rw[q2E] at hlt;have hin:=(q2F g.n5 j).mpr hlt;rw[hs] at hin;rcases Qq.mp hin with h|h
    ·exact h
    ·rcases Qf.mp h with h|h
     ·have:(j ||| 1 <<< t).testBit t=true:=(by rw[q15];simp);rw[<-h,hjt] at this;cases this
     ·have h2:=(List.pairwise_append.mp hord).2.1;exact absurd (q2a.mpr (q33 j _)) ((QC.mp h2).1 j h)
 by_cases q:Rch (nds n ws) m
 ·rw[if_pos (key.mpr q)];have:rB (nds n ws) m=true:=q69.mpr q;simp[this]
 ·rw[if_neg λ h=>q (key.mp h)];have:rB (nds n ws) m=false:=by
   cases e:rB (nds n ws) m with
   |false=>rfl
   |true=>exact absurd (q69.mp e) q
  simp[this]
theorem qA3 (g:Good n ws) (k:Nat):∀(ms pre:List Nat) (x y z:Option Sl),q16 n=pre++ms->0∈pre->
  ∃x' y' z',q0z (exs (Gm (k+1)) subC qAa) 0 [2] (ms.map tD) [some (.val (rD n ws)),some (.own (.lst ((pre.filter (rB (nds n ws))).map tD))),x,y,z] =
   .ok [some (.val (rD n ws)),some (.own (.lst ((due n ws).map tD))),x',y',z'] .nx
 |[],pre,x,y,z,hs,_=>⟨x,y,z,by rw[List.map_nil,q1j,due,hs,Q2]⟩
 |m::ms,pre,x,y,z,hs,h0=>by
  have hn:=g.n5;have hm:m<2^n:=(q2F hn m).mp (by rw[hs];simp);have hm5:m<2^5:=Qn hm (QN (by decide) hn);have hlen:(q16 n).length<=32:=Qr (q0g (2^n) _ (q1f hn) λ x hx=>(q2F hn x).mp hx) (Qr (QN (by decide) hn) (by decide));have hl:(pre.filter (rB (nds n ws))).length<1000:=by rw[hs,QA] at hlen;exact Q8 (QD _ _) (by lia)
  obtain⟨x1,y1,e1⟩:=q6o g k m hm5 (q01 m) (pre.filter (rB (nds n ws))) y z λ _=>hl;rw[qHE g hs h0] at e1;obtain⟨x2,y2,z2,e2⟩:=qA3 g k ms (pre++[m]) (some (.val (tD m))) x1 y1 (by rw[hs];simp) (by simp[h0]);refine⟨x2,y2,z2,?_⟩;rw[<-e2,Qv,q0L];have e3:ex (Gm (k+1)) subC (.forr 0 [3] (.e (.var 2)) qEM) [some (.val (rD n ws)),some (.own (.lst ((pre.filter (rB (nds n ws))).map tD))),some (.val (tD m)),y,z] = .ok [some (.val (rD n ws)),some (.own (.lst (((pre++[m]).filter (rB (nds n ws))).map tD))),some (.val (tD m)),x1,y1] .nx:=by have:evi (Gm (k+1)) subC (.e (.var 2)) [some (.val (rD n ws)),some (.own (.lst ((pre.filter (rB (nds n ws))).map tD))),some (.val (tD m)),y,z] = .ok (nL (q01 m)):=rfl;rw[q1C,this,q07,e1]
  have e4:exs (Gm (k+1)) subC qAa [some (.val (rD n ws)),some (.own (.lst ((pre.filter (rB (nds n ws))).map tD))),some (.val (tD m)),y,z] = .ok [some (.val (rD n ws)),some (.own (.lst (((pre++[m]).filter (rB (nds n ws))).map tD))),some (.val (tD m)),x1,y1] .nx:=by rw[qAa,q06 e3,q0X]
  simp only[QZ,Q0];rw[e4,q21]
theorem qLW {y:Option Sl}{d:D}{ms:List Nat}(e1:G 30 [nI n] = .ok (.lst (d::ms.map tD))):evi G subC (.e (.sl 0 (.call 30 [(.idx (.var 0) (.con (.int 0)))]) [(.con (.int 1))] [])) [some (.val (rD n ws)),y,none,none,none] = .ok (ms.map tD):=by have e6:idxD (rD n ws) (.int 0) = .ok (nI n):=idx0 _ _;rw[q2l,qDU];simp[e6,e1,optI,slD,cutL,bnd,Jo]
theorem q5S (g:Good n ws) (k:Nat):Gm (k+2) 32 [rD n ws] = .ok (.lst ((due n ws).map tD)):=by
 have hn:=g.n5;obtain⟨ms,hz⟩:=qCj hn;obtain⟨x,y,z,e⟩:=qA3 g k ms [0] none none none (by rw[hz];rfl) (by simp);have r0:rB (nds n ws) 0=true:=q69.mpr .z;have f0:[0].filter (rB (nds n ws))=[0]:=by simp[r0]
 rw[f0] at e;have e1:=qFE k hn;rw[hz,Qv] at e1;have e6:idxD (rD n ws) (.int 0) = .ok (nI n):=idx0 _ _;refine (q0i (k+1) 32 [rD n ws] 1 5 [.setO 1 (.lst [(.tup [])]),.forr 0 [2] (.e (.sl 0 (.call 30 [(.idx (.var 0) (.con (.int 0)))]) [(.con (.int 1))] [])) qAa,.retO 1] rfl rfl).trans ?_;have e2:ex (Gm (k+1)) subC (.setO 1 (.lst [(.tup [])])) [some (.val (rD n ws)),none,none,none,none] = .ok [some (.val (rD n ws)),some (.own (.lst ([0].map tD))),none,none,none] .nx:=by
  have b0:([]:List D).length<=big:=by decide
  have b1:([D.tup []]:List D).length<=big:=by decide
  rw[q4t,q7F,q0H,qBE,q0c,q00,if_pos b0,q00,q00,q00,if_pos b1,q07];rfl
 have e3:=qLW (G:=Gm (k+1)) (n:=n) (ws:=ws) (y:=some (.own (.lst ([0].map tD)))) e1;have e4:ex (Gm (k+1)) subC (.forr 0 [2] (.e (.sl 0 (.call 30 [(.idx (.var 0) (.con (.int 0)))]) [(.con (.int 1))] [])) qAa) [some (.val (rD n ws)),some (.own (.lst ([0].map tD))),none,none,none] = .ok [some (.val (rD n ws)),some (.own (.lst ((due n ws).map tD))),x,y,z] .nx:=by rw[q1C,e3,q07,e]
 exact q17 (ρ:=[some (.val (rD n ws)),none,none,none,none]) rfl (by rw[q06 e2,q06 e4];exact q1G (by rw[q8T];rfl))
end Mk
namespace Mk
open Ev
variable {n:Nat}{ws:List Wn}
def kD (m:Nat):D:=keyD (q01 m)
def sndD:D->D
 | .tup [_,d]=>d
 |_=> .non
theorem q3m:∀{l:List D},l.Pairwise (λ a b=>eqb a b=false)->dedup l=l
 |[],_=>rfl
 |x::l,h=>by
  obtain⟨h1,h2⟩:=QC.mp h;have:l.any (eqb x)=false:=by rw[List.any_eq_false];intro d hd;simp[h1 d hd]
  rw[dedup,this,q3m h2];rfl
theorem qEW (m:Nat):kD m=wyD (toW ((q01 m).length,q01 m)):=by rw[q34];rfl
theorem qK0 {a b:Nat}(h:kD a=kD b):a=b:=by
 have:sndD (kD a)=sndD (kD b):=by rw[h]
 have h2:D.tup (nL (q01 a))=D.tup (nL (q01 b)):=this;exact q3k (qBJ.mp (D.tup.inj h2))
theorem qEX (m:Nat):q02 (kD m)=true:=by rw[qEW];exact q9z _
theorem qK1 (a b:Nat):q0V (kD a) (kD b)=true:=by rw[qEW,qEW];exact qCd _ _ rfl rfl
theorem sort_k {ks:List Nat}(h:ks.Nodup) (hl:ks.length<64):q1B (ks.map kD)=true:=by
 have h1:q08 (ks.map kD)=true:=q0D.mpr λ d hd=>by obtain⟨a,_,rfl⟩:=Qg.mp hd;exact qEX a
 have h2:plL (ks.map kD)=true:=q1V.mpr λ d hd=>by obtain⟨a,_,rfl⟩:=Qg.mp hd;rw[qEW];exact qCc _
 have h3:q1t q0V (ks.map kD)=true:=by unfold q1t;refine Qj.mpr λ a ha=>Qj.mpr λ b hb=>?_;obtain⟨x,_,rfl⟩:=Qg.mp ha;obtain⟨y,_,rfl⟩:=Qg.mp hb;exact qK1 x y
 have h4:dedup (ks.map kD)=ks.map kD:=q3m (QI.mpr (h.imp λ {a b} hab=>by
  cases q:eqb (kD a) (kD b) with
  |false=>rfl
  |true=>exact absurd (qK0 ((q0T (qEX a) (qEX b)).mp q)) hab))
 have h5:(ks.map kD).all q1g=true:=Qj.mpr λ d hd=>by obtain⟨a,_,rfl⟩:=Qg.mp hd;rfl
 unfold q1B qAM;rw[h1,h2,h3,h4,h5,Qe];simp[hl]
theorem qHF {l m:List Nat}(h1:l.Nodup) (h2:m.Nodup) (h:∀x,x∈l↔x∈m):l.Perm m:=(Jq h1 h2).mpr h
theorem q1p (g:Good n ws) (m:Nat):m∈due n ws↔Rch (nds n ws) m:=by unfold due;rw[QF,q2F g.n5,q69];exact⟨λ h=>h.2,λ h=>⟨by have:=q5N h;rwa [q2E] at this,h⟩⟩
theorem qCs (g:Good n ws) {ks:List Nat}(h:ks.Nodup) (hm:∀x,x∈ks↔Rch (nds n ws) x):q20 (ks.map kD)=(due n ws).map kD:=by
 have hp:ks.Perm (due n ws):=qHF h ((q1f g.n5).filter _) λ x=>by rw[hm,q1p g]
 have hh:∀d∈ks.map kD,q02 d=true:=λ d hd=>by obtain⟨a,_,rfl⟩:=Qg.mp hd;exact qEX a
 have hq:=q0F (ks.map kD);refine q24 (hq.trans (hp.map kD)) (λ d hd=>hh d (hq.mem_iff.mp hd)) (λ a ha b hb=>?_) (q1h hh) ?_
 ·obtain⟨x,_,rfl⟩:=Qg.mp (hq.mem_iff.mp ha);obtain⟨y,_,rfl⟩:=Qg.mp (hq.mem_iff.mp hb);exact qK1 x y
 ·unfold Srt due;rw[QI];exact (qEU g.n5).filter _
end Mk
namespace Mk
open Ev
variable {c:Nat}
theorem num3:D.int 3=nI 3:=rfl
theorem num4:D.int 4=nI 4:=rfl
theorem num5:D.int 5=nI 5:=rfl
theorem qLX:cmD .isN .non .non = .ok (.bl true):=rfl
theorem qLY (c:Nat):cmD .isN (.exc c) .non = .ok (.bl false):=rfl
theorem sub0 (c:Nat):subC c 0=true:=by simp[subC]
section
variable {G:Nat->List D->R D}{r th:D}
def onc (G:Nat->List D->R D) (i:Nat) (x:R D):Nat->List D->R D:=λ f xs=>cond (Nat.beq f i) x (G f xs)
def subD:Nat->Nat->Bool:=λ e c=>cond (Nat.beq c 0) true (subC e c)
theorem sub_eq:subC=subD:=by
 funext e c;cases c with
 |zero=>exact sub0 e
 |succ c=>rfl
theorem run2 {x z d:R D}{s:Nat->Nat->Bool}{n:Nat}{l:List S}{as:List D}(i:Nat) (e:Ev.run G s n l as=Ev.run (onc G i x) s n l as) (h:x=z) (f:Ev.run (onc G i z) s n l as=d):Ev.run G s n l as=d:=by subst h;exact e.trans f
theorem run1 {x z d:R D}{n:Nat}{l:List S}{as:List D}(i:Nat) (e:Ev.run G subC n l as=Ev.run (onc G i x) subC n l as) (h:x=z) (f:Ev.run (onc G i z) subC n l as=d):Ev.run G subC n l as=d:=by subst h;exact e.trans f
theorem e_13 (h:G 11 [r] = .err c):Ev.run G subC 2 q1L [r,th] = .err c:=by simp[Ev.run,q1L,h]
theorem e_18 (h:G 17 [r,th] = .err c):Ev.run G subC 2 q1M [r,th] = .err c:=by simp[Ev.run,q1M,h]
theorem e_20 (h:G 13 [r,th] = .err c):Ev.run G subC 2 q5M [r,th] = .err c:=by simp[Ev.run,q5M,h]
end
theorem q83 (G:Nat->List D->R D):Ev.run G subC 2 q0R [.exc 1] = .ok (.str (PySem.Str.ofString "rules")):=by kernel_rfl
theorem q84 (G:Nat->List D->R D):Ev.run G subC 2 q0R [.exc 2] = .ok (.str (PySem.Str.ofString "state")):=by kernel_rfl
def q0a:D:= .str (PySem.Str.ofString "rules")
def q0w:D:= .str (PySem.Str.ofString "state")
theorem qA4 (k:Nat):Gm (k+1) 33 [.exc 1] = .ok q0a:=(q0i k 33 [.exc 1] 1 2 q0R rfl rfl).trans (q83 _)
theorem qFI (k:Nat):Gm (k+1) 33 [.exc 2] = .ok q0w:=(q0i k 33 [.exc 2] 1 2 q0R rfl rfl).trans (q84 _)
end Mk
namespace Mk
open Ev
variable {ρ:Env}
variable {n:Nat}{ws:List Wn}{G:Nat->List D->R D}
theorem q1H {xs:List L}{ds:List D}(h:evs G subC xs ρ = .ok ds) (hl:ds.length<=1000):ev G subC (.tup xs) ρ = .ok (.tup ds):=by rw[qBE,h,q00,if_pos (by rw[q0P];lia)]
theorem q1N {xs:List L}{ds:List D}(h:evs G subC xs ρ = .ok ds) (hl:ds.length<=1000):ev G subC (.lst xs) ρ = .ok (.lst ds):=by rw[q7F,h,q00,if_pos (by rw[q0P];lia)]
theorem evs2 {a b:L}{x y:D}(h1:ev G subC a ρ = .ok x) (h2:ev G subC b ρ = .ok y):evs G subC [a,b] ρ = .ok [x,y]:=by rw[q0H,h1,q00,q0H,h2,q00,q0c];rfl
theorem evs1 {a:L}{x:D}(h1:ev G subC a ρ = .ok x):evs G subC [a] ρ = .ok [x]:=by rw[q0H,h1,q00,q0c];rfl
def BadR (r:D):Prop:=∃(c:Int) (vs:List Wy),r=rulD c vs/\vs.length<=1300/\¬((0<=c/\c<=10)/\vs.all (wyB c)=true/\Rise vs)
theorem q6p {r:D}(h:BadR r) (k:Nat):Gm (k+4) 11 [r] = .err 1:=by obtain⟨c,vs,rfl,hl,hb⟩:=h;rw[qFD k c vs hl,if_neg hb]
theorem qHG {c:Int}{vs:List Wy}{w:Wy}(hl:vs.length<=1300) (hw:w∈vs) (hb:wyB c w=false):BadR (rulD c vs) :=
 ⟨c,vs,rfl,hl,λ h=>by rw[Qj.mp h.2.1 w hw] at hb;cases hb⟩
end Mk
namespace Mk
open Ev
variable {n:Nat}{ws:List Wn}{G:Nat->List D->R D}
theorem qEY (zs:List Int) (i:Nat):∃c:Int,Ev.run G subC 2 q1d [.lst (iL zs),nI i] = .ok (.int c):=by
 cases zs with
 |nil=>exact⟨0,by simp[Ev.run,q1d]⟩
 |cons z zs =>
  have hl:0<(z::zs).length:=by simp
  have hlt:=Nat.mod_lt i hl;have h1:opD .mod (nI i) (nI (z::zs).length) = .ok (nI (i % (z::zs).length)):=qBL _ _ hl;generalize hA:i % (z::zs).length=A at h1 hlt;refine⟨(z::zs)[A],?_⟩;have h2:idxD (.lst (iL (z::zs))) (nI A) = .ok (.int ((z::zs)[A])):=q7J _ _ _ (by unfold iL;rw[Qt,Ql hlt];rfl)
  have t:tst G subC (.e (.var 0)) [some (.val (.lst (iL (z::zs)))),some (.val (nI i))] = .ok true:=rfl;refine q17 (ρ:=[some (.val (.lst (iL (z::zs)))),some (.val (nI i))]) (ρ':=[some (.val (.lst (iL (z::zs)))),some (.val (nI i))]) rfl ?_;rw[q1d];refine q1G ?_;rw[q3J,t,q07,if_pos rfl];refine q1G ?_;have h3:biD subC .len [.lst (iL (z::zs))] = .ok (nI (z::zs).length):=by rw[q3x,qJs]
  rw[q2q,q3I,q1X,q0h,q1X,q1S,q0H,q1X,q0c];show (((R.ok (D.lst (iL (z::zs)))).bind λ x=>((R.ok (nI i)).bind λ x=>((((R.ok (D.lst (iL (z::zs)))).bind λ x=>(R.ok ([]:List D)).bind λ xs=>R.ok (x::xs)).bind λ ds=>biD subC .len ds).bind λ y=>opD .mod x y)).bind λ y=>idxD x y).go _ _)=_;simp only[q00];rw[h3,q00,h1,q00,h2,q07]
theorem qHH (a b:Int):opD .add (.int a) (.int b) = .ok (.int (a+b)):=rfl
theorem qK2 (a b:Int) (h:-(2^62)<a/\a<2^62):opD .mul (.int a) (.int b) = .ok (.int (a*b)):=by unfold opD;exact if_pos (.inl h)
theorem mul_r (a b:Int) (h:-(2^62)<b/\b<2^62):opD .mul (.int a) (.int b) = .ok (.int (a*b)):=by unfold opD;exact if_pos (.inr h)
theorem qHI (a b:Int) (h:0<b):∃N:Nat,opD .mod (.int a) (.int b) = .ok (.int N):=⟨(a % b).toNat,by have:=Int.emod_nonneg a (Int.ne_of_gt h);unfold opD;dsimp only[intD,opI];rw[if_pos h];congr 2;lia⟩
theorem qK3 (a b:Int) (h:0<b/\b<1073741824):opD .fdiv (.int a) (.int b) = .ok (.int (a / b)):=by unfold opD;exact if_pos h
theorem qHJ (s:D) (i:Nat) (hc:∃c:Int,G 26 [s,nI i] = .ok (.int c)):∃N:Nat,Ev.run G subC 3 q2Z [s,nI i] = .ok (nI N):=by
 obtain⟨c,hc⟩:=hc;obtain⟨N1,e1⟩:=qHI (c+104729*((i:Int)+1)) 4294967291 (by decide);obtain⟨N2,e2⟩:=qHI ((N1:Int)*48271) 4294967279 (by decide);obtain⟨N3,e3⟩:=qHI ((N2:Int) / 64*69621+N2) 4294967231 (by decide);refine⟨N3,?_⟩;have a1:ev G subC (.op .mod (.op .add (.call 26 [(.var 0),(.var 1)]) (.op .mul (.con (.int 104729)) (.op .add (.var 1) (.con (.int 1))))) (.con (.int 4294967291))) [some (.val s),some (.val (nI i)),none] = .ok (nI N1):=by have v0:getV [some (.val s),some (.val (nI i)),none] 0 = .ok s:=rfl;have v1:getV [some (.val s),some (.val (nI i)),none] 1 = .ok (nI i):=rfl;rw[q0h,q0h,q12,evs2 (G:=G) (by rw[q1X,v0]) (by rw[q1X,v1]),q00,hc,q00,q0h,q0M,q00,q0h,q1X,v1,q00,q0M,q00,nI,qHH,q00,qK2 _ _ (by decide),q00,qHH,q00,q0M,q00,e1];rfl
 have a2:ev G subC (.op .mod (.op .mul (.var 2) (.con (.int 48271))) (.con (.int 4294967279))) [some (.val s),some (.val (nI i)),some (.val (nI N1))] = .ok (nI N2):=by have v2:getV [some (.val s),some (.val (nI i)),some (.val (nI N1))] 2 = .ok (.int N1):=rfl;rw[q0h,q0h,q1X,v2,q00,q0M,q00,mul_r _ _ (by decide),q00,q0M,q00,e2];rfl
 have a3:ev G subC (.op .mod (.op .add (.op .mul (.op .fdiv (.var 2) (.con (.int 64))) (.con (.int 69621))) (.var 2)) (.con (.int 4294967231))) [some (.val s),some (.val (nI i)),some (.val (nI N2))] = .ok (nI N3):=by have v2:getV [some (.val s),some (.val (nI i)),some (.val (nI N2))] 2 = .ok (.int N2):=rfl;rw[q0h,q0h,q0h,q0h,q1X,v2,q00,q0M,q00,qK3 _ _ (by decide),q00,q0M,q00,mul_r _ _ (by decide),q00,q00,qHH,q00,q0M,q00,e3];rfl
 refine q17 (ρ:=[some (.val s),some (.val (nI i)),none]) (ρ':=[some (.val s),some (.val (nI i)),some (.val (nI N2))]) rfl ?_;rw[q2Z,q06 (ρ':=[some (.val s),some (.val (nI i)),some (.val (nI N1))]) (by rw[q0O,a1,q07];rfl),q06 (ρ':=[some (.val s),some (.val (nI i)),some (.val (nI N2))]) (by rw[q0O,a2,q07];rfl)];exact q1G (by rw[q2q,a3,q07])
theorem sub_sub (o:List Nat) (p:Nat->Bool):(((Qk o.length).filter p).map λ j=>o.getD j 0).Sublist o:=by
 have h:(Qk o.length).map (λ j=>o.getD j 0)=o:=by refine List.ext_getElem (by simp) λ i h1 h2=>?_;simp at h1;simp[QY,h1]
 have:=(List.filter_sublist (p:=p) (l:=Qk o.length)).map λ j=>o.getD j 0
 rwa [h] at this
theorem qAb (s:D) (i:Nat) (o:List Nat) (ho:o.length<=7) (hm:∃N:Nat,G 27 [s,nI i] = .ok (nI N)):∃l:List Nat,l.Sublist o/\Ev.run G subC 4 q1z [s,nI i,.lst (nL o)] = .ok (.tup (nL l)):=by
 obtain⟨N,hm⟩:=hm;have a1:ev G subC (.op .fdiv (.call 27 [(.var 0),(.var 1)]) (.con (.int 8))) [some (.val s),some (.val (nI i)),some (.val (.lst (nL o))),none] = .ok (nI (N / 8)):=by have:opD .fdiv (nI N) (.int 8) = .ok (nI (N / 8)):=qEw N 8 (by decide) (by decide);rw[q0h,q12,evs2 (G:=G) (x:=s) (y:=nI i) rfl rfl,q00,hm,q00,q0M,q00,this]
 generalize N / 8=M at a1;have pw:∀j,j<7->∀ρ:Env,ρ[0]? = some (some (.val (nI j)))->∃P:Nat,0<P/\P<1073741824/\ev G subC (.idx (.lst q4Y) (.var 0)) ρ = .ok (nI P):=λ j hj ρ hρ=>by
  have h1:ev G subC (.lst q4Y) ρ = .ok (.lst (nL [1,2,4,8,16,32,64])):=q1N rfl (by simp);have h2:ev G subC (.var 0) ρ = .ok (nI j):=by rw[q1X,getV,hρ]
  have h3:∃P:Nat,0<P/\P<1073741824/\[1,2,4,8,16,32,64][j]? = some P:=by
   match j,hj with
   |0,_=>exact⟨1,by decide,by decide,rfl⟩
   |1,_=>exact⟨2,by decide,by decide,rfl⟩
   |2,_=>exact⟨4,by decide,by decide,rfl⟩
   |3,_=>exact⟨8,by decide,by decide,rfl⟩
   |4,_=>exact⟨16,by decide,by decide,rfl⟩
   |5,_=>exact⟨32,by decide,by decide,rfl⟩
   |6,_=>exact⟨64,by decide,by decide,rfl⟩
  obtain⟨P,p1,p2,p3⟩:=h3;refine⟨P,p1,p2,?_⟩;rw[q3I,h1,q00,h2,q00];exact q7J _ _ _ (by unfold nL;rw[Qt,p3];rfl)
 have hp:∀j,j<7->∃b:Bool,tsts G subC [(.e (.cm .eq (.op .mod (.op .fdiv (.var 4) (.idx (.lst q4Y) (.var 0))) (.con (.int 2))) (.con (.int 1))))] [some (.val (nI j)),some (.val s),some (.val (nI i)),some (.val (.lst (nL o))),some (.val (nI M))] = .ok b:=λ j hj=>by obtain⟨P,p1,p2,p3⟩:=pw j hj [some (.val (nI j)),some (.val s),some (.val (nI i)),some (.val (.lst (nL o))),some (.val (nI M))] rfl;have h4:ev G subC (.var 4) [some (.val (nI j)),some (.val s),some (.val (nI i)),some (.val (.lst (nL o))),some (.val (nI M))] = .ok (nI M):=rfl;have h5:opD .mod (nI (M / P)) (.int 2) = .ok (nI (M / P % 2)):=qBL _ 2 (by decide);have h6:cmD .eq (nI (M / P % 2)) (.int 1) = .ok (.bl (decide (M / P % 2=1))):=eq_n _ 1;refine⟨decide (M / P % 2=1),?_⟩;rw[q1Q,q8R,qAN,q0h,q0h,h4,q00,p3,q00,qEw M P p1 p2,q00,q0M,q00,h5,q00,q0M,q00,h6,q00,qBN,q00,q1v];cases decide (M / P % 2=1)<;>rfl
 have hp2:∃p:Nat->Bool,∀j,j<7->tsts G subC [(.e (.cm .eq (.op .mod (.op .fdiv (.var 4) (.idx (.lst q4Y) (.var 0))) (.con (.int 2))) (.con (.int 1))))] [some (.val (nI j)),some (.val s),some (.val (nI i)),some (.val (.lst (nL o))),some (.val (nI M))] = .ok (p j):=by refine⟨λ j=>if h:j<7 then (hp j h).choose else false,λ j hj=>?_⟩;simp only[hj,dif_pos];exact (hp j hj).choose_spec
 obtain⟨p,hp3⟩:=hp2;refine⟨_,sub_sub o p,?_⟩;have a2:q0U (ev G subC (.idx (.var 3) (.var 0))) (tsts G subC [(.e (.cm .eq (.op .mod (.op .fdiv (.var 4) (.idx (.lst q4Y) (.var 0))) (.con (.int 2))) (.con (.int 1))))]) 0 [some (.val s),some (.val (nI i)),some (.val (.lst (nL o))),some (.val (nI M))] ((Qk o.length).map nI) = .ok (((Qk o.length).filter p).map λ j=>nI (o.getD j 0)) :=
  q0Z (us:=λ j=>[nI j]) λ j hj=>by have hj2:=Qw.mp hj;refine⟨rfl,hp3 j (by lia),λ _=>?_⟩;have h1:idxD (.lst (nL o)) (nI j) = .ok (nI (o.getD j 0)):=q7J _ _ _ (by unfold nL;rw[Qt,Ql hj2];simp[QY,hj2]);exact h1
 have b1:(((Qk o.length).filter p).map λ j=>nI (o.getD j 0)).length<=big:=by rw[Qe,q0P];refine Qr (QD _ _) ?_;rw[QK];lia
 have a3:evi G subC (.rng [(.bi .len [(.var 2)])]) [some (.val s),some (.val (nI i)),some (.val (.lst (nL o))),some (.val (nI M))] = .ok ((Qk o.length).map nI):=by
  have h1:evs G subC [(.bi .len [(.var 2)])] [some (.val s),some (.val (nI i)),some (.val (.lst (nL o))),some (.val (nI M))] = .ok [nI o.length]:=evs1 (by have:biD subC .len [.lst (nL o)] = .ok (nI o.length):=(by rw[q3x,q0K]);rw[q1S,evs1 (G:=G) (x:= .lst (nL o)) rfl,q00,this])
  rw[q1T,h1,q00,q4T _ (by lia)];rfl
 have a4:ev G subC (.comp 0 (.idx (.var 3) (.var 0)) (.rng [(.bi .len [(.var 2)])]) [(.e (.cm .eq (.op .mod (.op .fdiv (.var 4) (.idx (.lst q4Y) (.var 0))) (.con (.int 2))) (.con (.int 1))))]) [some (.val s),some (.val (nI i)),some (.val (.lst (nL o))),some (.val (nI M))] = .ok (.lst (nL (((Qk o.length).filter p).map λ j=>o.getD j 0))):=by rw[q13,a3,q00,a2,q0b,q00,if_pos b1];unfold nL;rw[Jg];rfl
 refine q17 (ρ:=[some (.val s),some (.val (nI i)),some (.val (.lst (nL o))),none]) (ρ':=[some (.val s),some (.val (nI i)),some (.val (.lst (nL o))),some (.val (nI M))]) rfl ?_;show exs G subC [.set 3 (.op .fdiv (.call 27 [(.var 0),(.var 1)]) (.con (.int 8))),.ret (.bi .tuple [(.comp 0 (.idx (.var 3) (.var 0)) (.rng [(.bi .len [(.var 2)])]) [(.e (.cm .eq (.op .mod (.op .fdiv (.var 4) (.idx (.lst q4Y) (.var 0))) (.con (.int 2))) (.con (.int 1))))])])] _=_;rw[q06 (ρ':=[some (.val s),some (.val (nI i)),some (.val (.lst (nL o))),some (.val (nI M))]) (by rw[q0O,a1,q07];rfl)];exact q1G (by rw[q2q,q1S,evs1 a4,q00,q1w,q07])
end Mk
namespace Mk
open Ev
variable {s:D}{acc:List Wn}{t:Nat}{y:Option Sl}{ρ:Env}{a:L}
variable {n:Nat}{ws:List Wn}{G:Nat->List D->R D}{K M:Nat}
theorem qLZ (a b:Nat) (h:a<2^62):opD .mul (nI a) (nI b) = .ok (nI (a*b)):=by unfold nI;rw[qK2 _ _ (by lia)];congr 2
def GoodW (n:Nat) (w:Wn):Prop:=w.1<n/\Ris n w.2/\w.1∉w.2
structure Draw (G:Nat->List D->R D) (s:D):Prop where
 mix:∀i:Nat,∃N:Nat,G 27 [s,nI i] = .ok (nI N)
 sub:∀(i:Nat) (o:List Nat),o.length<=7->∃l:List Nat,l.Sublist o/\G 28 [s,nI i,.lst (nL o)] = .ok (.tup (nL l))
noncomputable def ruE (K M:Nat) (s:D) (n:Nat) (acc:List Wn) (t:Nat) (o:List Nat) (x y:Option Sl):Env :=
 [some (.val s),some (.val (nI K)),some (.val (nI M)),some (.val (nI n)),some (.own (.lst (acc.map wD))),some (.val (nI t)),some (.val (.lst (nL o))),x,y]
theorem ev_k (c:Nat) {j:Nat}{o:List Nat}:ev G subC (q4e c) (ruE K M s n acc t o (some (.val (nI j))) y) = .ok (nI (K+c+4*t+j)):=by have h1:opD .mul (.int 4) (nI t) = .ok (nI (4*t)):=qLZ 4 t (by decide);have h2:opD .add (nI K) (.int c) = .ok (nI (K+c)):=add_n K c;have v1:getV (ruE K M s n acc t o (some (.val (nI j))) y) 1 = .ok (nI K):=rfl;have v5:getV (ruE K M s n acc t o (some (.val (nI j))) y) 5 = .ok (nI t):=rfl;have v7:getV (ruE K M s n acc t o (some (.val (nI j))) y) 7 = .ok (nI j):=rfl;rw[q4e,q0h,q0h,q0h,q1X,v1,q00,q0M,q00,h2,q00,q0h,q0M,q00,q1X,v5,q00,h1,q00,add_n,q00,q1X,v7,q00,add_n]
theorem q0u {f:Nat}{b:L}{x y d:D}(h1:ev G subC a ρ = .ok x) (h2:ev G subC b ρ = .ok y) (h:G f [x,y] = .ok d):ev G subC (.call f [a,b]) ρ = .ok d:=by rw[q12,evs2 h1 h2,q00,h]
theorem qA5 {N c:Nat}(hc:0<c) (h:ev G subC a ρ = .ok (nI N)):ev G subC (.op .mod a (.con (.int c))) ρ = .ok (nI (N % c)):=by rw[q0h,h,q00,q0M,q00];exact qBL N c hc
theorem qCt {N:Nat}(h:ev G subC a ρ = .ok (nI N)):tst G subC (.e (.cm .gt a (.con (.int 0)))) ρ = .ok (decide (0<N)):=by rw[q8R,qAN,h,q00,q0M,q00,num0,gt_n,q00,qBN]
theorem qHK (d:Draw G s) {j:Nat}{o:List Nat}(ho:o.length<=7) (hon:∀l:List Nat,l.Sublist o->GoodW n (t,l)) (hl:acc.length<1000) :
  ∃(w:Wn) (y':Option Sl),GoodW n w/\exs G subC q7q (ruE K M s n acc t o (some (.val (nI j))) y) = .ok (ruE K M s n (acc++[w]) t o (some (.val (nI j))) y') .nx:=by
 obtain⟨l,hlo,e23⟩:=d.sub (K+10+4*t+j) o ho;obtain⟨N1,m1⟩:=d.mix (K+40+4*t+j);obtain⟨N2,m2⟩:=d.mix (K+41+4*t+j);obtain⟨N3,m3⟩:=d.mix (K+70+t);have e1:ex G subC qH0 (ruE K M s n acc t o (some (.val (nI j))) y) = .ok (ruE K M s n acc t o (some (.val (nI j))) (some (.val (.tup (nL l))))) .nx:=by
  have h3:evs G subC [(.var 0),q4e 10,(.var 6)] (ruE K M s n acc t o (some (.val (nI j))) y) = .ok [s,nI (K+10+4*t+j),.lst (nL o)]:=by have k10:=ev_k (K:=K) (M:=M) (G:=G) (n:=n) 10 (s:=s) (acc:=acc) (t:=t) (j:=j) (o:=o) (y:=y);have v0:ev G subC (.var 0) (ruE K M s n acc t o (some (.val (nI j))) y) = .ok s:=rfl;have v6:ev G subC (.var 6) (ruE K M s n acc t o (some (.val (nI j))) y) = .ok (.lst (nL o)):=rfl;rw[q0H,v0,q00,q0H];rw[show q4e 10=q4e ((10:Nat):Int) from rfl,k10,q00,evs1 v6];rfl
  rw[qH0,q0O,q12,h3,q00,e23,q07];rfl
 have e2:∃l2:List Nat,l2.Sublist o/\ex G subC qEN (ruE K M s n acc t o (some (.val (nI j))) (some (.val (.tup (nL l))))) = .ok (ruE K M s n acc t o (some (.val (nI j))) (some (.val (.tup (nL l2))))) .nx:=by
  have k40:=ev_k (K:=K) (M:=M) (G:=G) (n:=n) 40 (s:=s) (acc:=acc) (t:=t) (j:=j) (o:=o) (y:=some (.val (.tup (nL l))));have k41:=ev_k (K:=K) (M:=M) (G:=G) (n:=n) 41 (s:=s) (acc:=acc) (t:=t) (j:=j) (o:=o) (y:=some (.val (.tup (nL l))));have v0:ev G subC (.var 0) (ruE K M s n acc t o (some (.val (nI j))) (some (.val (.tup (nL l))))) = .ok s:=rfl;have t1:=qCt (qA5 (c:=3) (by decide) (q0u v0 k40 m1))
  by_cases q:0<N1 % 3
  ·rw[decide_eq_true q] at t1;refine⟨l.take (1+N2 % 2),(List.take_sublist _ _).trans hlo,?_⟩;have c1:=qA5 (c:=2) (by decide) (q0u v0 k41 m2);have c2:ev G subC (.op .add (.con (.int 1)) (.op .mod (.call 27 [(.var 0),q4e 41]) (.con (.int 2)))) (ruE K M s n acc t o (some (.val (nI j))) (some (.val (.tup (nL l))))) = .ok (nI (1+N2 % 2)):=by rw[q0h,q0M,q00];refine (congrArg (λ z:R D=>z.bind λ y=>opD .add (.int 1) y) c1).trans ?_;exact add_n 1 _
   have v8:ev G subC (.var 8) (ruE K M s n acc t o (some (.val (nI j))) (some (.val (.tup (nL l))))) = .ok (.tup (nL l)):=rfl;have a6:optI [nI (1+N2 % 2)] = .ok (some ((1+N2 % 2:Nat):Int)):=rfl;have a8:optI [] = .ok none:=rfl;have a4:slD 0 none (some ((1+N2 % 2:Nat):Int)) (.tup (nL l)) = .ok (.tup (nL (l.take (1+N2 % 2)))):=by
    generalize 1+N2 % 2=A;have:¬((A:Int)<0):=(by lia);simp only[slD,cutL,bnd,if_true,if_neg this,Int.toNat_natCast,List.drop_zero,Nat.sub_zero];congr 2;unfold nL;rw[List.map_take,Qe];rcases Nat.le_total A l.length with h|h
    ·rw[Nat.min_eq_left h]
    ·rw[Nat.min_eq_right h,Jo (by simp),Jo (by simp;lia)]
   have c3:ev G subC (.sl 0 (.var 8) [] [(.op .add (.con (.int 1)) (.op .mod (.call 27 [(.var 0),q4e 41]) (.con (.int 2))))]) (ruE K M s n acc t o (some (.val (nI j))) (some (.val (.tup (nL l))))) = .ok (.tup (nL (l.take (1+N2 % 2)))):=by rw[qDU,v8,q00,q0c,q00,evs1 c2,q00,a8,q00,a6,q00,a4]
   have t1':tst G subC (.e (.cm .gt (.op .mod (.call 27 [(.var 0),q4e 40]) (.con (.int 3))) (.con (.int 0)))) (ruE K M s n acc t o (some (.val (nI j))) (some (.val (.tup (nL l))))) = .ok true:=t1;rw[qEN,q3J,t1',q07,if_pos rfl,q06 (ρ':=ruE K M s n acc t o (some (.val (nI j))) (some (.val (.tup (nL (l.take (1+N2 % 2))))))) (by rw[q0O,c3,q07];rfl),q0X]
  ·rw[decide_eq_false q] at t1;have t1':tst G subC (.e (.cm .gt (.op .mod (.call 27 [(.var 0),q4e 40]) (.con (.int 3))) (.con (.int 0)))) (ruE K M s n acc t o (some (.val (nI j))) (some (.val (.tup (nL l))))) = .ok false:=t1;exact⟨l,hlo,by rw[qEN,q3J,t1',q07,if_neg (by simp),q0X]⟩
 obtain⟨l2,hl2,e2⟩:=e2;have e3:∃l3:List Nat,l3.Sublist o/\ex G subC qH1 (ruE K M s n acc t o (some (.val (nI j))) (some (.val (.tup (nL l2))))) = .ok (ruE K M s n (acc++[(t,l3)]) t o (some (.val (nI j))) (some (.val (.tup (nL l2))))) .nx:=by
  have v0:ev G subC (.var 0) (ruE K M s n acc t o (some (.val (nI j))) (some (.val (.tup (nL l2))))) = .ok s:=rfl;have v5:ev G subC (.var 5) (ruE K M s n acc t o (some (.val (nI j))) (some (.val (.tup (nL l2))))) = .ok (nI t):=rfl;have v1:ev G subC (.var 1) (ruE K M s n acc t o (some (.val (nI j))) (some (.val (.tup (nL l2))))) = .ok (nI K):=rfl;have v8:ev G subC (.var 8) (ruE K M s n acc t o (some (.val (nI j))) (some (.val (.tup (nL l2))))) = .ok (.tup (nL l2)):=rfl;have k70:ev G subC (.op .add (.op .add (.var 1) (.con (.int 70))) (.var 5)) (ruE K M s n acc t o (some (.val (nI j))) (some (.val (.tup (nL l2))))) = .ok (nI (K+70+t)):=by have h2:opD .add (nI K) (.int 70) = .ok (nI (K+70)):=add_n K 70;rw[q0h,q0h,v1,q00,q0M,q00,h2,q00,v5,q00,add_n]
  have t1:=qCt (qA5 (c:=4) (by decide) (q0u v0 k70 m3));have key:∃l3:List Nat,l3.Sublist o/\ev G subC (.ite (.e (.cm .gt (.op .mod (.call 27 [(.var 0),(.op .add (.op .add (.var 1) (.con (.int 70))) (.var 5))]) (.con (.int 4))) (.con (.int 0)))) (.var 8) (.tup [])) (ruE K M s n acc t o (some (.val (nI j))) (some (.val (.tup (nL l2))))) = .ok (.tup (nL l3)):=by
   by_cases q:0<N3 % 4
   ·rw[decide_eq_true q] at t1;have t1':tst G subC (.e (.cm .gt (.op .mod (.call 27 [(.var 0),(.op .add (.op .add (.var 1) (.con (.int 70))) (.var 5))]) (.con (.int 4))) (.con (.int 0)))) (ruE K M s n acc t o (some (.val (nI j))) (some (.val (.tup (nL l2))))) = .ok true:=t1;exact⟨l2,hl2,by rw[qBD,t1',q00,if_pos rfl,v8]⟩
   ·rw[decide_eq_false q] at t1;have t1':tst G subC (.e (.cm .gt (.op .mod (.call 27 [(.var 0),(.op .add (.op .add (.var 1) (.con (.int 70))) (.var 5))]) (.con (.int 4))) (.con (.int 0)))) (ruE K M s n acc t o (some (.val (nI j))) (some (.val (.tup (nL l2))))) = .ok false:=t1;exact⟨[],List.nil_sublist _,by rw[qBD,t1',q00,if_neg (by simp)];exact q1H (q0c _) (by simp)⟩
  obtain⟨l3,hl3,key⟩:=key;refine⟨l3,hl3,?_⟩;have b1:(acc.map wD).length<big:=by rw[Qe,q0P];lia
  rw[qH1,qBG];show (ev G subC _ _).go _ _=_;rw[q1H (evs2 v5 key) (by simp),q07];show (if (acc.map wD).length<big then _ else _)=_;rw[if_pos b1];unfold ruE;rw[Js];rfl
 obtain⟨l3,hl3,e3⟩:=e3;exact⟨(t,l3),_,hon l3 hl3,by rw[q7q,q06 e1,q06 e2,q06 e3,q0X]⟩
theorem qA6 {s:D}(d:Draw G s) {t:Nat}{o:List Nat}(ho:o.length<=7) (hon:∀l:List Nat,l.Sublist o->GoodW n (t,l)):∀(js:List Nat) (acc:List Wn) (x y:Option Sl),acc.length+js.length<=1000->
  ∃(vs:List Wn) (x' y':Option Sl),(∀w∈vs,GoodW n w)/\vs.length=js.length/\q0z (exs G subC q7q) 0 [7] (nL js) (ruE K M s n acc t o x y) = .ok (ruE K M s n (acc++vs) t o x' y') .nx
 |[],acc,x,y,_=>⟨[],x,y,by simp,rfl,by simp[q1j]⟩
 |j::js,acc,x,y,hl=>by simp only[Qu] at hl;obtain⟨w,y1,hw,e1⟩:=qHK d (j:=j) (y:=y) ho hon (acc:=acc) (by lia);obtain⟨vs,x2,y2,hv,hvl,e2⟩:=qA6 d ho hon js (acc++[w]) (some (.val (nI j))) y1 (by simp;lia);refine⟨w::vs,x2,y2,Q1.mpr ⟨hw,hv⟩,by simp[hvl],?_⟩;rw[q1J,q0L];have:List.set (ruE K M s n acc t o x y) 7 (some (.val (nI j)))=ruE K M s n acc t o (some (.val (nI j))) y:=rfl;rw[this,e1,q21,e2];simp
def ruE2 (K M:Nat) (s:D) (n:Nat) (acc:List Wn) (t:Option Sl) (o x y:Option Sl):Env :=
 [some (.val s),some (.val (nI K)),some (.val (nI M)),some (.val (nI n)),some (.own (.lst (acc.map wD))),t,o,x,y]
theorem qHL (d:Draw G s) (hn:n<=5) (ht:t<n) {o x:Option Sl}(hl:acc.length+3<=1000) :
  ∃(vs:List Wn) (o' x' y':Option Sl),(∀w∈vs,GoodW n w)/\vs.length<=3/\exs G subC q4D (ruE2 K M s n acc (some (.val (nI t))) o x y) = .ok (ruE2 K M s n (acc++vs) (some (.val (nI t))) o' x' y') .nx:=by
 generalize ho:(Qk n).filter (λ e=>!decide (e=t))=os;have hol:os.length<=7:=by rw[<-ho];refine Qr (QD _ _) ?_;rw[QK];lia
 have hon:∀l:List Nat,l.Sublist os->GoodW n (t,l):=λ l h=>by
  have hm:∀x∈l,x<n/\¬x=t:=λ x hx=>by have:=h.subset hx;rw[<-ho] at this;simpa using this
  refine⟨ht,⟨?_,λ x hx=>(hm x hx).1⟩,λ h=>(hm t h).2 rfl⟩;refine List.Pairwise.sublist h ?_;rw[<-ho];exact List.Pairwise.filter _ Q5
 have e1:ex G subC (.set 6 qH2) (ruE2 K M s n acc (some (.val (nI t))) o x y) = .ok (ruE K M s n acc t os x y) .nx:=by
  have a1:=q1Z (elt:=ev G subC (.var 0)) (cond:=tsts G subC [(.e (.cm .ne (.var 0) (.var 6)))]) (ρ:=ruE2 K M s n acc (some (.val (nI t))) o x y) (p:=λ e=>!decide (e=t)) (l:=Qk n)
   (λ a _=>by have v0:ev G subC (.var 0) (some (.val (nI a))::ruE2 K M s n acc (some (.val (nI t))) o x y) = .ok (nI a):=rfl;have v6:ev G subC (.var 6) (some (.val (nI a))::ruE2 K M s n acc (some (.val (nI t))) o x y) = .ok (nI t):=rfl;rw[q1Q,q8R,qAN,v0,q00,v6,q00,ne_n,q00,qBN,q00,q1v];cases !decide (a=t)<;>rfl) (λ a _=>rfl)
  have a2:evi G subC (.rng [(.var 3)]) (ruE2 K M s n acc (some (.val (nI t))) o x y) = .ok (nL (Qk n)):=by rw[q1T,evs1 (G:=G) (x:=nI n) rfl,q00,q4T n (by lia)]
  have b1:(nL os).length<=big:=by rw[q0K,q0P];lia
  rw[ho] at a1;rw[qH2,q0O,q13,a2,q00,a1,q0b,q00,if_pos b1,q07];rfl
 obtain⟨N,m⟩:=d.mix (K+1+t);have e2:∃c:Nat,c<=3/\ev G subC qEO (ruE K M s n acc t os x y) = .ok (nI c):=by
  have v0:ev G subC (.var 0) (ruE K M s n acc t os x y) = .ok s:=rfl;have v5:ev G subC (.var 5) (ruE K M s n acc t os x y) = .ok (nI t):=rfl;have v1:ev G subC (.var 1) (ruE K M s n acc t os x y) = .ok (nI K):=rfl;have k1:ev G subC (.op .add (.op .add (.var 1) (.con (.int 1))) (.var 5)) (ruE K M s n acc t os x y) = .ok (nI (K+1+t)):=by have h2:opD .add (nI K) (.int 1) = .ok (nI (K+1)):=add_n K 1;rw[q0h,q0h,v1,q00,q0M,q00,h2,q00,v5,q00,add_n]
  have c1:=qA5 (c:=6) (by decide) (q0u v0 k1 m);have h1:ev G subC (.lst [(.con (.int 1)),(.con (.int 1)),(.con (.int 2)),(.con (.int 2)),(.con (.int 3)),(.con (.int 0))]) (ruE K M s n acc t os x y) = .ok (.lst (nL [1,1,2,2,3,0])):=q1N rfl (by simp);have h3:∃P:Nat,P<=3/\[1,1,2,2,3,0][N % 6]? = some P:=by
   have h6:N % 6<6:=Nat.mod_lt _ (by decide)
   match N % 6,h6 with
   |0,_=>exact⟨1,by decide,rfl⟩
   |1,_=>exact⟨1,by decide,rfl⟩
   |2,_=>exact⟨2,by decide,rfl⟩
   |3,_=>exact⟨2,by decide,rfl⟩
   |4,_=>exact⟨3,by decide,rfl⟩
   |5,_=>exact⟨0,by decide,rfl⟩
  obtain⟨P,p1,p3⟩:=h3;refine⟨P,p1,?_⟩;rw[qEO,q3I,h1,q00];refine (congrArg (λ z:R D=>z.bind λ y=>idxD (.lst (nL [1,1,2,2,3,0])) y) c1).trans ?_;exact q7J _ _ _ (by unfold nL;rw[Qt,p3];rfl)
 obtain⟨c,hc,e2⟩:=e2;obtain⟨vs,x2,y2,hv,hvl,e3⟩:=qA6 d hol hon (Qk c) acc x y (by rw[QK];lia);refine⟨vs,some (.val (.lst (nL os))),x2,y2,hv,by rw[hvl,QK];lia,?_⟩;have e4:ex G subC (.forr 0 [7] (.rng [qEO]) q7q) (ruE K M s n acc t os x y) = .ok (ruE K M s n (acc++vs) t os x2 y2) .nx:=by rw[q1C,q1T,evs1 e2,q00,q4T c (by lia),q07,e3]
 rw[q4D,q06 e1,q06 e4,q0X];rfl
theorem qA7 {s:D}(d:Draw G s) (hn:n<=5):∀(ts:List Nat) (acc:List Wn) (t o x y:Option Sl),(∀u∈ts,u<n)->acc.length+3*ts.length<=1000->
  ∃(vs:List Wn) (t' o' x' y':Option Sl),(∀w∈vs,GoodW n w)/\vs.length<=3*ts.length/\q0z (exs G subC q4D) 0 [5] (nL ts) (ruE2 K M s n acc t o x y) = .ok (ruE2 K M s n (acc++vs) t' o' x' y') .nx
 |[],acc,t,o,x,y,_,_=>⟨[],t,o,x,y,by simp,by simp,by simp[q1j]⟩
 |u::ts,acc,t,o,x,y,hu,hl=>by
  simp only[Qu] at hl;obtain⟨vs,o1,x1,y1,hv,hvl,e1⟩:=qHL d hn (hu u Qb) (acc:=acc) (o:=o) (x:=x) (y:=y) (by lia);obtain⟨vs2,t2,o2,x2,y2,hv2,hvl2,e2⟩:=qA7 d hn ts (acc++vs) (some (.val (nI u))) o1 x1 y1 (λ v hv=>hu v (Qa _ hv)) (by simp;lia);refine⟨vs++vs2,t2,o2,x2,y2,λ w hw=>?_,by simp;lia,?_⟩
  ·rcases Qq.mp hw with h|h
   ·exact hv w h
   ·exact hv2 w h
  ·rw[q1J,q0L];have:List.set (ruE2 K M s n acc t o x y) 5 (some (.val (nI u)))=ruE2 K M s n acc (some (.val (nI u))) o x y:=rfl;rw[this,e1,q21,e2,Jv]
end Mk
namespace Mk
open Ev
variable {n:Nat}{ws:List Wn}{G:Nat->List D->R D}
theorem q3n:∀{l:List D}{d:D},d∈dedup l->d∈l
 |[],_,h=>h
 |x::l,d,h=>by
  rw[dedup] at h;split at h
  ·exact Qa _ (q3n h)
  ·rcases Qf.mp h with rfl|h
   ·exact Qb
   ·exact Qa _ (q3n h)
theorem q6q:∀{l:List D},(dedup l).Pairwise λ a b=>eqb a b=false
 |[]=>List.Pairwise.nil
 |x::l=>by
  rw[dedup];split
  ·exact q6q
  ·rename_i h;refine QC.mpr ⟨λ d hd=>?_,q6q⟩;cases q:eqb x d with
   |false=>rfl
   |true=>exact absurd (QQ.mpr ⟨d,q3n hd,q⟩) h
theorem q85:∀l:List D,(dedup l).length<=l.length
 |[]=>Qi _
 |x::l=>by
  have:=q85 l;rw[dedup];split
  ·simp;lia
  ·simp;lia
theorem qAc (w:Wn):q02 (wD w)=true:=by rw[<-q34];exact q9z _
theorem qFJ {n:Nat}:∀{l:List D},(∀d∈l,∃w,GoodW n w/\d=wD w)->∃ws:List Wn,(∀w∈ws,GoodW n w)/\l=ws.map wD
 |[],_=>⟨[],by simp,rfl⟩
 |d::l,h=>by obtain⟨w,hw,rfl⟩:=h d Qb;obtain⟨ws,hws,rfl⟩:=qFJ λ e he=>h e (Qa _ he);exact⟨w::ws,Q1.mpr ⟨hw,hws⟩,rfl⟩
theorem qFK {α:Type}{R:α->α->Prop}:∀{l:List α},l.Pairwise R->∀(p:Nat) (a b:α),l[p]? = some a->l[p+1]? = some b->R a b
 |[],_,p,a,b,h,_=>by simp at h
 |x::l,h,0,a,b,h1,h2=>by obtain⟨h3,_⟩:=QC.mp h;simp at h1;subst h1;rw[List.getElem?_cons_succ] at h2;exact h3 b (Qm h2)
 |x::l,h,p+1,a,b,h1,h2=>by obtain⟨_,h4⟩:=QC.mp h;rw[List.getElem?_cons_succ] at h1 h2;exact qFK h4 p a b h1 h2
theorem qFL {v w:Wn}(h:wD v=wD w):v=w:=by have h1:[nI v.1,D.tup (nL v.2)]=[nI w.1,D.tup (nL w.2)]:=D.tup.inj h;rw[List.cons.injEq,List.cons.injEq] at h1;exact Prod.ext ((qBI _ _).mp h1.1) (qBJ.mp (D.tup.inj h1.2.1))
def Up (ws:List Wn):Prop:=(ws.map wD).Pairwise λ a b=>ltb a b=true
theorem qCu (hn:n<=5) (hl:ws.length<=60) (h:∀w∈ws,GoodW n w) (u:Up ws):Good n ws :=
 ⟨hn,hl,λ w hw=>q8m.mpr (h w hw),λ p hpl v w h1 h2=>qFK u p (wyD v) (wyD w) (by rw[<-q8l,Qt,h1];rfl) (by rw[<-q8l,Qt,h2];rfl)⟩
theorem qA8 (hn:n<=5) {dd:List D}(hdm:∀d∈dd,∃w,GoodW n w/\d=wD w) (hpw:dd.Pairwise λ a b=>eqb a b=false) (hlen:dd.length<=60):∃ws:List Wn,Good n ws/\Up ws/\q20 dd=ws.map wD/\q1B dd=true:=by
 have hp:=q0F dd;have hhd:∀d∈dd,q02 d=true:=λ d hx=>by obtain⟨w,_,rfl⟩:=hdm d hx;exact qAc w
 have hcd:∀a∈dd,∀b∈dd,q0V a b=true:=λ a ha b hb=>by obtain⟨v,_,rfl⟩:=hdm a ha;obtain⟨w,_,rfl⟩:=hdm b hb;rw[<-q34,<-q34];exact qCd _ _ rfl rfl
 have hnd:dd.Nodup:=by refine List.Pairwise.imp_of_mem (λ {a b} ha hb hab e=>?_) hpw;subst e;rw[(q0T (hhd a ha) (hhd a ha)).mpr rfl] at hab;cases hab
 obtain⟨ws,hws,hwe⟩:=qFJ (l:=q20 dd) λ d hx=>hdm d (hp.mem_iff.mp hx);have hrise:Up ws:=by
  unfold Up;rw[<-hwe];have h1:(q20 dd).Nodup:=hp.nodup_iff.mpr hnd;have h2:=q1h hhd;refine List.Pairwise.imp_of_mem (λ {a b} ha hb hab=>?_) (List.Pairwise.and h1 h2);rcases q8O (hhd a (hp.mem_iff.mp ha)) (hhd b (hp.mem_iff.mp hb)) (hcd a (hp.mem_iff.mp ha) b (hp.mem_iff.mp hb)) with t|t|t
  ·exact t
  ·exact absurd t hab.1
  ·rw[hab.2] at t;cases t
 have hwl:ws.length=dd.length:=by rw[<-hp.length_eq,hwe,Qe]
 refine⟨ws,qCu hn (by lia) hws hrise,hrise,hwe,?_⟩;have t1:q08 dd=true:=q0D.mpr hhd;have t2:plL dd=true:=q1V.mpr λ d hx=>by obtain⟨w,_,rfl⟩:=hdm d hx;rw[<-q34];exact qCc _
 have t3:q1t q0V dd=true:=Qj.mpr λ a ha=>Qj.mpr λ b hb=>hcd a ha b hb;have t5:dd.all q1g=true:=Qj.mpr λ d hx=>by obtain⟨w,_,rfl⟩:=hdm d hx;rfl
 unfold q1B qAM;rw[t1,t2,t3,q3m hpw,t5,decide_eq_true (by lia:dd.length<64)];simp
theorem qEZ (hn:n<=5) {acc:List Wn}(h:∀w∈acc,GoodW n w) (hl:acc.length<=60):∃ws:List Wn,Good n ws/\Up ws/\biD subC .sortedSet [.lst (acc.map wD)] = .ok (.lst (ws.map wD)):=by
 obtain⟨ws,g,u,e,s⟩:=qA8 hn (dd:=dedup (acc.map wD)) (λ d hx=>by obtain⟨w,hw,rfl⟩:=Qg.mp (q3n hx);exact⟨w,h w hw,rfl⟩) q6q (Qr (q85 _) (by rw[Qe];exact hl))
 refine⟨ws,g,u,?_⟩;have s1:q08 (acc.map wD)=true:=q0D.mpr λ d hx=>by obtain⟨w,_,rfl⟩:=Qg.mp hx;exact qAc w
 have s2:plL (acc.map wD)=true:=q1V.mpr λ d hx=>by obtain⟨w,_,rfl⟩:=Qg.mp hx;rw[<-q34];exact qCc _
 have s3:decide ((acc.map wD).length<=1000)=true:=decide_eq_true (by rw[Qe];lia);rw[q4U,q5i,q00,s1,s2,s3,s,e];rfl
theorem qCv (hn:n<=5) {acc:List Wn}(h:∀w∈acc,GoodW n w) (hd:acc.Nodup) (hl:acc.length<=60):∃ws:List Wn,Good n ws/\(∀w,w∈ws↔w∈acc)/\biD subC .sorted [.lst (acc.map wD)] = .ok (.lst (ws.map wD)):=by
 obtain⟨ws,g,_,e,s⟩:=qA8 hn (dd:=acc.map wD) (λ d hx=>by
  obtain⟨w,hw,rfl⟩:=Qg.mp hx;exact⟨w,h w hw,rfl⟩) (QI.mpr (hd.imp λ {a b} hab=>by
   cases q:eqb (wD a) (wD b) with
   |false=>rfl
   |true=>exact absurd (qFL ((q0T (qAc a) (qAc b)).mp q)) hab)) (by rw[Qe];exact hl)
 have mm:∀(w:Wn) (l:List Wn),wD w∈l.map wD↔w∈l:=λ w l=>⟨λ h=>by obtain⟨v,hv,e⟩:=Qg.mp h;exact qFL e▸hv,λ h=>Qg.mpr ⟨w,h,rfl⟩⟩
 refine⟨ws,g,λ w=>by rw[<-mm,<-e,(q0F _).mem_iff,mm],?_⟩;rw[q4v,q1i,q00,s,if_pos rfl,e]
theorem qAd {s:D}{K M:Nat}(hM:M<=5) (d:Draw G s):∃(n:Nat) (ws:List Wn),n<=M/\Good n ws/\Up ws/\Ev.run G subC 9 q1n [s,nI K,nI M] = .ok (rD n ws):=by
 obtain⟨N,m⟩:=d.mix K;have hnM:N % (M+1)<=M:=by have:=Nat.mod_lt N (Nat.succ_pos M);lia
 generalize hN:N % (M+1)=n at hnM;have hn:n<=5:=by lia
 obtain⟨vs,t,o,x,y,hv,hvl,e⟩:=qA7 (K:=K) (M:=M) (n:=n) d hn (Qk n) [] none none none none (λ u hu=>Qw.mp hu) (by simp;lia);rw[QK] at hvl;obtain⟨ws,hg,hu,es⟩:=qEZ hn hv (by lia);refine⟨n,ws,hnM,hg,hu,?_⟩;have e1:ex G subC qEP [some (.val s),some (.val (nI K)),some (.val (nI M)),none,none,none,none,none,none] = .ok [some (.val s),some (.val (nI K)),some (.val (nI M)),some (.val (nI n)),none,none,none,none,none] .nx:=by
  have v0:ev G subC (.var 0) [some (.val s),some (.val (nI K)),some (.val (nI M)),none,none,none,none,none,none] = .ok s:=rfl;have v1:ev G subC (.var 1) [some (.val s),some (.val (nI K)),some (.val (nI M)),none,none,none,none,none,none] = .ok (nI K):=rfl;have v2:ev G subC (.var 2) [some (.val s),some (.val (nI K)),some (.val (nI M)),none,none,none,none,none,none] = .ok (nI M):=rfl;have h2:opD .add (nI M) (.int 1) = .ok (nI (M+1)):=add_n M 1;have h3:opD .mod (nI N) (nI (M+1)) = .ok (nI n):=by rw[qBL N (M+1) (Nat.succ_pos M),hN]
  rw[qEP,q0O,q0h,q0u v0 v1 m,q00,q0h,v2,q00,q0M,q00,h2,q00,h3,q07];rfl
 have e2:ex G subC (.setO 4 (.lst [])) [some (.val s),some (.val (nI K)),some (.val (nI M)),some (.val (nI n)),none,none,none,none,none] = .ok (ruE2 K M s n [] none none none none) .nx:=by rw[q4t,q1N (q0c _) (by simp),q07];rfl
 have e3:ex G subC (.forr 0 [5] (.rng [(.var 3)]) q4D) (ruE2 K M s n [] none none none none) = .ok (ruE2 K M s n vs t o x y) .nx:=by rw[q1C,q1T,evs1 (G:=G) (x:=nI n) rfl,q00,q4T n (by lia),q07,e];rfl
 have e4:ex G subC (.ret (.tup [(.var 3),(.bi .sortedSet [(.bor 4)])])) (ruE2 K M s n vs t o x y) = .ok (ruE2 K M s n vs t o x y) (.ret (rD n ws)):=by have v3:ev G subC (.var 3) (ruE2 K M s n vs t o x y) = .ok (nI n):=rfl;have v4:ev G subC (.bor 4) (ruE2 K M s n vs t o x y) = .ok (.lst (vs.map wD)):=rfl;rw[q2q,q1H (evs2 v3 (by rw[q1S,evs1 v4,q00,es])) (by simp),q07];rfl
 refine q17 (ρ:=[some (.val s),some (.val (nI K)),some (.val (nI M)),none,none,none,none,none,none]) (ρ':=ruE2 K M s n vs t o x y) rfl (l:=q1n) ?_;show exs G subC [qEP,.setO 4 (.lst []),.forr 0 [5] (.rng [(.var 3)]) q4D,.ret (.tup [(.var 3),(.bi .sortedSet [(.bor 4)])])] _=_;rw[q06 e1,q06 e2,q06 e3];exact q1G e4
theorem qHM (k:Nat) (zs:List Int) (i:Nat):∃N:Nat,Gm (k+2) 27 [.lst (iL zs),nI i] = .ok (nI N):=by obtain⟨c,hc⟩:=qEY (G:=Gm k) zs i;obtain⟨N,h⟩:=qHJ (G:=Gm (k+1)) (.lst (iL zs)) i ⟨c,(q0i k 26 _ 2 2 q1d rfl rfl).trans hc⟩;exact⟨N,(q0i (k+1) 27 _ 2 3 q2Z rfl rfl).trans h⟩
theorem qFM (k:Nat) (zs:List Int):Draw (Gm (k+3)) (.lst (iL zs)):=by refine⟨λ i=>qHM (k+1) zs i,λ i o ho=>?_⟩;obtain⟨l,hl,h⟩:=qAb (G:=Gm (k+2)) (.lst (iL zs)) i o ho (qHM k zs i);exact⟨l,hl,(q0i (k+2) 28 _ 3 4 q1z rfl rfl).trans h⟩
theorem qA9 (k K:Nat) {M:Nat}(hM:M<=5) (zs:List Int):∃(n:Nat) (ws:List Wn),n<=M/\Good n ws/\Up ws/\Gm (k+4) 29 [.lst (iL zs),nI K,nI M] = .ok (rD n ws):=by obtain⟨n,ws,h1,hg,hu,h⟩:=qAd (K:=K) hM (qFM k zs);exact⟨n,ws,h1,hg,hu,(q0i (k+3) 29 _ 3 9 q1n rfl rfl).trans h⟩
end Mk
namespace Mk
open Ev
variable {n:Nat}{ws:List Wn}{G:Nat->List D->R D}
def chkU (a b:Nat):Bool:=match biD subC .sortedSet [.tup (nL (q01 a++q01 b))] with
 | .ok (.lst l)=>eqbL l (nL (q01 (a ||| b)))&&q08 l
 |_=>false
theorem qHN:∀a,a<32->∀b,b<32->chkU a b=true:=by decide +kernel
theorem qCw {a b:Nat}(ha:a<32) (hb:b<32):biD subC .sortedSet [.tup (nL (q01 a++q01 b))] = .ok (.lst (nL (q01 (a ||| b)))):=by
 have h:=qHN a ha b hb;unfold chkU at h;split at h
 ·rename_i l e;rw[Qc] at h;rw[e,(qDT h.2 (q9B _)).mp h.1]
 ·cases h
end Mk
namespace Mk
open Ev
variable {d:D}{ρ:Env}{a:L}
variable {n:Nat}{ws:List Wn}{G:Nat->List D->R D}
theorem qHO (h:pl d=true) (h2:eqb d d=true):cmD .ne d d = .ok (.bl false):=by
 have:cmD .ne d d=if pl d&&pl d then .ok (.bl (!eqb d d)) else .stuck:=rfl
 rw[this,h,h2];rfl
theorem q8o (h:pl d=true) (h2:eqb d d=true):cmD .eq d d = .ok (.bl true):=by
 have:cmD .eq d d=if pl d&&pl d then .ok (.bl (eqb d d)) else .stuck:=rfl
 rw[this,h,h2];rfl
theorem q86 {l:List D}(h:∀d∈l,eqb d d=true):eqbL l l=true:=by
 induction l with
 |nil=>simp[eqbL]
 |cons a l ih=>rw[eqbL,h a Qb,ih λ d hd=>h d (Qa _ hd)];rfl
theorem qLa (m:Nat):eqb (tD m) (tD m)=true:=by unfold tD;rw[q9C];simp
theorem qLb (l:List Nat):pl (.lst (l.map tD))=true:=by unfold pl;rw[q2w];exact Qj.mpr λ d hd=>by obtain⟨a,_,rfl⟩:=Qg.mp hd;simp[tD]
theorem qK4 (l:List Nat):eqb (.lst (l.map tD)) (.lst (l.map tD))=true:=by rw[eqb];exact q86 λ d hd=>by obtain⟨a,_,rfl⟩:=Qg.mp hd;exact qLa a
theorem pl_r (n:Nat) (ws:List Wn):pl (rD n ws)=true:=by unfold pl rD;simp[wD]
theorem qLc (w:Wn):eqb (wD w) (wD w)=true:=(q0T (qAc w) (qAc w)).mpr rfl
theorem qLd (n:Nat) (ws:List Wn):eqb (rD n ws) (rD n ws)=true:=by
 have:eqbL (ws.map wD) (ws.map wD)=true:=q86 λ d hd=>by obtain⟨a,_,rfl⟩:=Qg.mp hd;exact qLc a
 simp[rD,eqb,eqbL,this]
theorem qHP (g:Good n ws):(due n ws).length<=32:=by have hn:=g.n5;refine Qr (QD _ _) ?_;exact Qr (q0g (2^n) _ (q1f hn) λ x hx=>(q2F hn x).mp hx) (Qr (QN (by decide) hn) (by decide))
theorem q0v {f:Nat}{b c:L}{x y z:D}(h1:ev G subC a ρ = .ok x) (h2:ev G subC b ρ = .ok y) (h3:ev G subC c ρ = .ok z) (h:G f [x,y,z] = .ok d):ev G subC (.call f [a,b,c]) ρ = .ok d:=by rw[q12,q0H,h1,q00,evs2 h2 h3,q00,q00,h]
theorem q2N {o:Cm}{b:L}{x y:D}{r:R D}(h1:ev G subC a ρ = .ok x) (h2:ev G subC b ρ = .ok y) (h:cmD o x y=r):ev G subC (.cm o a b) ρ=r:=by rw[qAN,h1,q00,h2,q00,h]
theorem q3o {b:Bool}(h:ev G subC a ρ = .ok (.bl b)):tst G subC (.e a) ρ = .ok b:=by rw[q8R,h,q00,qBN]
theorem qK5 {c:T}{l:List S}(h:tst G subC c ρ = .ok false):ex G subC (.ifs c l []) ρ = .ok ρ .nx:=by rw[q3J,h,q07,if_neg (by simp),q0X]
theorem qLe (ρ:Env):ev G subC (.neg (.con (.int 1))) ρ = .ok (.int (-1)):=rfl
def badZ (n:Nat):Nat->List Int
 |0=>[n]
 |1=>[-1]
 |2=>[0,0]
 |_=>[1,0]
theorem qEa (n i:Nat):q0p n (-1) (badZ n i)=false:=by
 match i with
 |0=>simp[badZ,q0p]
 |1=>simp[badZ,q0p]
 |2=>simp[badZ,q0p]
 |i+3=>simp[badZ,q0p]
theorem qCx {α:Type}{l:List α}{f:α->D}{x:L}{it:I}(h1:evi G subC it ρ = .ok (l.map f)) (h2:∀a∈l,ev G subC x (some (.val (f a))::ρ) = .ok d) (hl:l.length<=1000):ev G subC (.comp 0 x it []) ρ = .ok (.lst (l.map λ _=>d)):=by
 have a2:q0U (ev G subC x) (tsts G subC []) 0 ρ (l.map f) = .ok ((l.filter λ _=>true).map λ _=>d) :=
  q0Z (us:=λ a=>[f a]) λ a ha=>⟨rfl,rfl,λ _=>h2 a ha⟩
 rw[filter_tt] at a2;rw[q13,h1,q00,a2,q0b,q00,if_pos (by rw[Qe,q0P];lia)]
end Mk
namespace Mk
open Ev
variable {t:Nat}{ρ:Env}{ks:List Nat}
theorem q3p (m:Nat):(q01 m).Pairwise (· < ·):=(q3i (n:=m) Nat.lt_two_pow_self).1
def opB (F t m:Nat):Bool:=!m.testBit t&&F.testBit (m ||| 1 <<< t)
def lstO (p:Nat->Bool):List Nat->List Nat->List Nat
 |acc,[]=>acc
 |acc,m::ms=>lstO p (if (p m&&!(acc.any λ o=>decide (m &&& o=o)))=true then acc++[m] else acc) ms
theorem q5T {p:Nat->Bool}:∀(ms acc:List Nat),∃l:List Nat,l.Sublist ms/\(∀x∈l,p x=true)/\lstO p acc ms=acc++l
 |[],acc=>⟨[],List.nil_sublist _,nofun,(Q2 _).symm⟩
 |m::ms,acc=>by
  unfold lstO;split
  ·rename_i h;obtain⟨l,h1,h2,h3⟩:=q5T (p:=p) ms (acc++[m]);exact⟨m::l,h1.cons_cons m,Q1.mpr ⟨(Bool.and_eq_true_iff.mp h).1,h2⟩,by rw[h3,Jv];rfl⟩
  ·obtain⟨l,h1,h2,h3⟩:=q5T (p:=p) ms acc;exact⟨l,h1.cons m,h2,h3⟩
theorem qCy {p:Nat->Bool}{ms acc:List Nat}{x:Nat}(h:x∈acc):x∈lstO p acc ms:=by obtain⟨l,_,_,e⟩:=q5T (p:=p) ms acc;rw[e];exact QB _ h
theorem qCz {p:Nat->Bool}{x:Nat}(hp:p x=true):∀(ms acc:List Nat),x∈ms->∃o∈lstO p acc ms,Sm o x
 |m::ms,acc,h=>by
  unfold lstO;rcases Qf.mp h with rfl|h
  ·split
   ·exact⟨x,qCy (by simp),q4E x⟩
   ·rename_i q;rw[hp,Bool.true_and,Jh,Bool.not_eq_false] at q;obtain⟨o,ho,e⟩:=QQ.mp q;refine⟨o,qCy ho,q2a.mp ?_⟩;rw[Nat.and_comm];exact of_decide_eq_true e
  ·exact qCz hp ms _ h
def loL (F t:Nat):List Nat:=lstO (opB F t) [] (q01 F)
theorem qAA {F x:Nat}(h:x∈loL F t):F.testBit x=true/\opB F t x=true:=by obtain⟨l,h1,h2,e⟩:=q5T (p:=opB F t) (q01 F) [];rw[loL,e,List.nil_append] at h;exact⟨q03.mp (h1.subset h),h2 x h⟩
theorem qAB (F t:Nat):(loL F t).Nodup:=by obtain⟨l,h1,h2,e⟩:=q5T (p:=opB F t) (q01 F) [];rw[loL,e,List.nil_append];exact ((q3p F).sublist h1).imp λ h=>Qy h
inductive Gen (F:Nat):Nat->Prop
 |z:Gen F 0
 |s {k t:Nat}:Gen F k->k.testBit t=false->F.testBit (k ||| 1 <<< t)=true->Gen F (k ||| 1 <<< t)
structure Fam (n F:Nat):Prop where
 n4:n<=4
 lt:∀x,F.testBit x=true->x<2^n
 or:∀a b,F.testBit a=true->F.testBit b=true->F.testBit (a ||| b)=true
 zero:F.testBit 0=true
 gen:∀x,F.testBit x=true->Gen F x
variable {n F:Nat}{ws:List Wn}{G:Nat->List D->R D}
def wayL (F t:Nat):List Wn:=(loL F t).map λ m=>(t,q01 m)
def wysL (n F:Nat):List Wn:=(Qk n).flatMap (wayL F)
theorem q8p {w:Wn}:w∈wysL n F↔∃t,t<n/\∃m∈loL F t,w=(t,q01 m):=by
 unfold wysL wayL;simp only[List.mem_flatMap,Qw,Qg];constructor
 ·rintro⟨t,h,m,hm,rfl⟩;exact⟨t,h,m,hm,rfl⟩
 ·rintro⟨t,h,m,hm,rfl⟩;exact⟨t,h,m,hm,rfl⟩
section
variable (f:Fam n F)
include f
theorem p16:2^n<=16:=QN (i:=n) (j:=4) (by decide:0<2) f.n4
theorem qFN (ht:t<n):(loL F t).length<=15:=by refine q0g 15 _ (qAB F t) λ x hx=>?_;obtain⟨h1,h2⟩:=qAA hx;have h3:=f.lt x h1;have h4:=p16 f;have h5:=f.n4;rw[opB,Qc,Jh] at h2;refine Nat.lt_of_le_of_ne (by lia) λ e=>?_;subst e;have:=(q48 (n:=4) (t:=t)).mpr (by lia);rw[show 2^4-1=15 from rfl,h2.1] at this;cases this
theorem qD0:∀ts:List Nat,(∀t∈ts,t<n)->(ts.flatMap (wayL F)).length<=15*ts.length
 |[],_=>by simp
 |t::ts,h=>by have h1:=qD0 ts λ u hu=>h u (Qa _ hu);have h2:=qFN f (h t Qb);rw[List.flatMap_cons,QA,wayL,Qe,Qu];lia
theorem qEb:∀w∈wysL n F,GoodW n w:=λ w hw=>by obtain⟨t,ht,m,hm,rfl⟩:=q8p.mp hw;obtain⟨h1,h2⟩:=qAA hm;rw[opB,Qc,Jh] at h2;exact⟨ht,q3i (f.lt m h1),λ h=>by rw[q03.mp h] at h2;cases h2.1⟩
theorem qD1:(wysL n F).Nodup:=by refine List.pairwise_flatMap.mpr ⟨λ t _=>QI.mpr ((qAB F t).imp λ h e=>h (q3k (Prod.mk.inj e).2)),List.pairwise_lt_range.imp λ {a b} hab x hx y hy e=>?_⟩;obtain⟨m,_,rfl⟩:=Qg.mp hx;obtain⟨k,_,rfl⟩:=Qg.mp hy;exact Qy hab (Prod.mk.inj e).1
theorem qHQ (g:Good n ws) (hw:∀w,w∈ws↔w∈wysL n F) (x:Nat):Rch (nds n ws) x↔F.testBit x=true:=by
 have may:∀k t,mayL (nds n ws) k t=true↔k.testBit t=false/\t<n/\∃m∈loL F t,Sm m k:=λ k t=>by
  rw[qCf (qCh g),Qc,Jh,QQ];refine and_congr_right λ _=>⟨?_,?_⟩
  ·rintro⟨w,h1,h2⟩;obtain⟨u,hu,m,hm,rfl⟩:=q8p.mp ((hw w).mp h1);rw[Qc,decide_eq_true_eq,Qj] at h2;have:=h2.1;subst this;exact⟨hu,m,hm,λ i hi=>h2.2 i (q03.mpr hi)⟩
  ·rintro⟨ht,m,hm,hs⟩;refine⟨(t,q01 m),(hw _).mpr (q8p.mpr ⟨t,ht,m,hm,rfl⟩),?_⟩;rw[Qc,decide_eq_true_eq,Qj];exact⟨rfl,λ i hi=>hs i (q03.mp hi)⟩
 constructor
 ·intro h
  induction h with
  |z=>exact f.zero
  |@s k t hk hm ih =>
   obtain⟨_,ht,m,hm,hs⟩:=(may k t).mp hm;obtain⟨_,h2⟩:=qAA hm;rw[opB,Qc] at h2;have:=f.or k _ ih h2.2;rw[show k ||| (m ||| 1 <<< t)=k ||| 1 <<< t from ?_] at this
   ·exact this
   ·rw[<-Nat.or_assoc];congr 1;exact q32 (qH3 (q4E k) hs) (q33 k m)
 ·intro h;have hg:=f.gen x h;clear h
  induction hg with
  |z=>exact .z
  |@s k t hk hb hF ih =>
   have hkF:F.testBit k=true:=by
    cases hk with
    |z=>exact f.zero
    |s _ _ h=>exact h
   have ht:=qCX (f.lt _ hF) (by rw[q15];simp:(k ||| 1 <<< t).testBit t=true);obtain⟨m,hm,hs⟩:=qCz (p:=opB F t) (x:=k) (by rw[opB,hb,hF];rfl) (q01 F) [] (q03.mpr hkF);exact .s ih ((may k t).mpr ⟨hb,ht,m,hm,hs⟩)
end
theorem comp_map {α:Type}{l:List α}{f g:α->D}{x:L}{it:I}(h1:evi G subC it ρ = .ok (l.map f)) (h2:∀a∈l,ev G subC x (some (.val (f a))::ρ) = .ok (g a)) (hl:l.length<=1000):ev G subC (.comp 0 x it []) ρ = .ok (.lst (l.map g)):=by
 have c:q0U (ev G subC x) (tsts G subC []) 0 ρ (l.map f) = .ok ((l.filter λ _=>true).map g):=q0Z (us:=λ a=>[f a]) λ a ha=>⟨rfl,rfl,λ _=>h2 a ha⟩
 rw[q13,h1,q00,c,q0b,q00,filter_tt,if_pos (by rw[Qe,q0P];lia)]
theorem qHR (l:List Nat) (v:List D) (i:Nat):cmD .mem (nI i) (.dct (nL l) v) = .ok (.bl (decide (i∈l))):=by
 have:=q6k l v i;unfold cmD at this |-;dsimp only at this |-;cases q:memD (nI i) (.dct (nL l) v) with
 |ok b =>
  rw[q,q00] at this;have h:(!b)=!decide (i∈l):=D.bl.inj (R.ok.inj this);rw[q00,Bool.not_inj h]
 |err c=>rw[q] at this;cases this
 |stuck=>rw[q] at this;cases this
theorem qHS {a:L}{x:Bool}(h:ev G subC a ρ = .ok (.bl x)):ev G subC (.not a) ρ = .ok (.bl (!x)):=by rw[qEs,h,q00,qBN,q00]
theorem q6r {a b:L}{x y:Bool}(h:ev G subC a ρ = .ok (.bl x)) (h2:ev G subC b ρ = .ok (.bl y)):ev G subC (.and a b) ρ = .ok (.bl (x&&y)):=by
 rw[qEt,h,q00];cases x
 ·rfl
 ·exact h2
theorem qHT (k:Nat) {v:List D}(ht:t<=1000) (m:Nat):Gm (k+2) 21 [.dct (nL ks) v,nI m,nI t] = .ok (.bl (opB (q04 0 ks) t m)):=by
 refine (q0i (k+1) 21 _ 3 3 q8h rfl rfl).trans ?_;have e:=q8i k m t;have b:ev (Gm (k+1)) subC (.op .bor (.var 1) (.op .shl (.con (.int 1)) (.var 2))) [some (.val (.dct (nL ks) v)),some (.val (nI m)),some (.val (nI t))] = .ok (nI (m ||| 1 <<< t)):=by have:opD .shl (.int 1) (nI t) = .ok (nI (1 <<< t)):=qKq 1 t (by decide) ht;rw[q0h,show ev (Gm (k+1)) subC (.var 1) _ = .ok (nI m) from rfl,q00,q0h,q0M,q00,show ev (Gm (k+1)) subC (.var 2) _ = .ok (nI t) from rfl,q00,this,q00,qIU]
 refine q17 (ρ:=[some (.val (.dct (nL ks) v)),some (.val (nI m)),some (.val (nI t))]) (ρ':=[some (.val (.dct (nL ks) v)),some (.val (nI m)),some (.val (nI t))]) rfl (q1G ?_);have a:=qHS (q0u (G:=Gm (k+1)) (ρ:=[some (.val (.dct (nL ks) v)),some (.val (nI m)),some (.val (nI t))]) (a:= .var 1) (b:= .var 2) (x:=nI m) (y:=nI t) rfl rfl e);rw[q2q,q6r a (q2N b (y:= .dct (nL ks) v) rfl (qHR ks v _)),q07,opB,q0f]
def lo_c:L:= .comp 0 (.cm .eq (.op .band (.var 4) (.var 0)) (.var 0)) (.b 2) []
def lo_b:List S:=[.ifs (.and (.e (.call 21 [(.var 0),(.var 3),(.var 1)])) (.not (.e (.bi .any [lo_c])))) [.app 2 (.var 3)] []]
def loE (f:D) (t:Nat) (acc:List Nat) (x:Option Sl):Env:=[some (.val f),some (.val (nI t)),some (.own (.lst (nL acc))),x]
theorem qD2 {f:D}{t:Nat}{p:Nat->Bool}(e21:∀m,G 21 [f,nI m,nI t] = .ok (.bl (p m))):∀(ms acc:List Nat) (x:Option Sl),acc.length+ms.length<=1000->
  ∃x',q0z (exs G subC lo_b) 0 [3] (nL ms) (loE f t acc x) = .ok (loE f t (lstO p acc ms) x') .nx
 |[],acc,x,_=>⟨x,rfl⟩
 |m::ms,acc,x,h=>by
  rw[Qu] at h;generalize hρ:loE f t acc (some (.val (nI m)))=ρ;have c:ev G subC lo_c ρ = .ok (.lst (acc.map λ o=>D.bl (decide (m &&& o=o)))):=comp_map (f:=nI) (by rw[qIR,<-hρ];rfl) (λ o _=>by
   have:ev G subC (.op .band (.var 4) (.var 0)) (some (.val (nI o))::ρ) = .ok (nI (m &&& o)):=by rw[q0h,show ev G subC (.var 4) (some (.val (nI o))::ρ) = .ok (nI m) by rw[<-hρ];rfl,q00,show ev G subC (.var 0) (some (.val (nI o))::ρ) = .ok (nI o) from rfl,q00,qBK]
   exact q2N this (y:=nI o) rfl (eq_n _ _)) (by lia)
  have a:tst G subC (.e (.bi .any [lo_c])) ρ = .ok (acc.any λ o=>decide (m &&& o=o)):=q3o (by rw[q1S,evs1 c,q00,qIc,q5Q];show R.ok (D.bl ((acc.map _).any id))=_;rw[List.any_map];rfl);have b:tst G subC (.and (.e (.call 21 [(.var 0),(.var 3),(.var 1)])) (.not (.e (.bi .any [lo_c])))) ρ = .ok (p m&&!(acc.any λ o=>decide (m &&& o=o))):=by rw[q8P,q3o (q0v (x:=f) (y:=nI m) (z:=nI t) (by rw[<-hρ];rfl) (by rw[<-hρ];rfl) (by rw[<-hρ];rfl) (e21 m)),q00,q8Q,a,q00];cases p m<;>rfl
  obtain⟨x',e⟩:=qD2 e21 ms (if (p m&&!(acc.any λ o=>decide (m &&& o=o)))=true then acc++[m] else acc) (some (.val (nI m))) (by split<;>(try rw[QA,Jd])<;>lia);refine⟨x',?_⟩;rw[q1J,q0L,show List.set (loE f t acc x) 3 (some (.val (nI m)))=ρ from hρ,lstO,<-e];have s:exs G subC lo_b ρ = .ok (loE f t (if (p m&&!(acc.any λ o=>decide (m &&& o=o)))=true then acc++[m] else acc) (some (.val (nI m)))) .nx:=by
   rw[lo_b,q0y,q3J,b,q07];split
   ·rw[q06 (ρ':=loE f t (acc++[m]) (some (.val (nI m)))) (by rw[qBG,<-hρ];show (R.ok (nI m)).go _ _=_;rw[q07,if_pos (by rw[q0K,q0P];lia)];unfold loE;rw[q7G];rfl),q0X];rfl
   ·rw[q0X,<-hρ];rfl
  rw[s,q21]
theorem qK6 (h:ks.Nodup) (hl:ks.length<64):q1B (nL ks)=true:=by
 have h3:q1t q0V (nL ks)=true:=by unfold q1t;refine Qj.mpr λ a ha=>Qj.mpr λ b hb=>?_;obtain⟨x,_,rfl⟩:=Qg.mp ha;obtain⟨y,_,rfl⟩:=Qg.mp hb;simp[nI,q0V]
 have h4:dedup (nL ks)=nL ks:=q3m (QI.mpr (h.imp λ {a b} hab=>by
  cases q:eqb (nI a) (nI b) with
  |false=>rfl
  |true=>exact absurd ((qBI a b).mp ((q0T (qFx a) (qFx b)).mp q)) hab))
 have h5:(nL ks).all q4S=true:=Qj.mpr λ d hd=>by obtain⟨a,_,rfl⟩:=Qg.mp hd;rfl
 unfold q1B qAM;rw[q9B,qKv,h3,h4,h5,q0K];simp[hl]
theorem qD3 (h:ks.Nodup):q20 (nL ks)=nL (q01 (q04 0 ks)):=by
 refine q24 ?_ (λ d hd=>?_) (λ a ha b hb=>?_) (q1h λ d hd=>q0D.mp (q9B ks) d hd) ?_
 ·refine (q0F _).trans (List.Perm.map _ ((Jq h ((q3p _).imp λ h=>Qy h)).mpr λ x=>?_));rw[q03,q0f,decide_eq_true_eq]
 ·exact q0D.mp (q9B ks) d ((q0F _).mem_iff.mp hd)
 ·obtain⟨x,_,rfl⟩:=Qg.mp ((q0F _).mem_iff.mp ha);obtain⟨y,_,rfl⟩:=Qg.mp ((q0F _).mem_iff.mp hb);simp[nI,q0V]
 ·refine QI.mpr ((q3p _).imp λ {a b} hab=>?_);have e:ltb (nI b) (nI a)=decide ((b:Int)<a):=by simp[nI,ltb]
  rw[e];exact decide_eq_false (by lia)
theorem g_lo (k:Nat) {v:List D}(hd:ks.Nodup) (hl:ks.length<=16) (ht:t<=1000):Gm (k+3) 20 [.dct (nL ks) v,nI t] = .ok (.lst (nL (loL (q04 0 ks) t))):=by
 have hb:(q01 (q04 0 ks)).length<=16:=by
  have:(nL (q01 (q04 0 ks))).length=(nL ks).length:=by rw[<-qD3 hd];exact (q0F _).length_eq
  rw[q0K,q0K] at this;lia
 obtain⟨x',e⟩:=qD2 (G:=Gm (k+2)) (λ m=>qHT k (ks:=ks) (v:=v) ht m) (q01 (q04 0 ks)) [] none (by simp;lia);refine (q0i (k+2) 20 _ 2 4 [.setO 2 (.lst []),.forr 0 [3] (.e (.bi .sorted [(.var 0)])) lo_b,.retO 2] rfl rfl).trans ?_;refine q17 (ρ:=[some (.val (.dct (nL ks) v)),some (.val (nI t)),none,none]) (ρ':=List.set (loE (.dct (nL ks) v) t (loL (q04 0 ks) t) x') 2 none) rfl ?_;refine (q06 (ρ':=loE (.dct (nL ks) v) t [] none) (by rw[q4t,q1N (q0c _) (by simp),q07];rfl)).trans ?_;refine (q06 (ρ':=loE (.dct (nL ks) v) t (loL (q04 0 ks) t) x') (by rw[q1C,q2l,q1S,evs1 (x:= .dct (nL ks) v) rfl,q00,q4v,q2R,q00,qK6 hd (by lia),if_pos rfl,q00,q1i,q07,qD3 hd,e];rfl)).trans ?_
 exact q1G (by rw[q8T];rfl)
end Mk
namespace Mk
open Ev
variable {ks:List Nat}
variable {n F:Nat}{ws:List Wn}{G:Nat->List D->R D}
def po_c:L:= .comp 0 (.tup [(.var 4),(.call 1 [(.var 0)])]) (.e (.call 20 [(.var 1),(.var 3)])) []
def poE (n:Nat) (f:D) (acc:List Wn) (x:Option Sl):Env:=[some (.val (nI n)),some (.val f),some (.own (.lst (acc.map wD))),x]
theorem qD4 {f:D}(fm:Fam n F) (e20:∀t,t<n->G 20 [f,nI t] = .ok (.lst (nL (loL F t)))) (e1:∀m,m<16->G 1 [nI m] = .ok (tD m)):∀(ts:List Nat) (acc:List Wn) (x:Option Sl),(∀t∈ts,t<n)->acc.length+15*ts.length<=1000->
  ∃x',q0z (exs G subC [.ext 2 po_c]) 0 [3] (nL ts) (poE n f acc x) = .ok (poE n f (acc++ts.flatMap (wayL F)) x') .nx
 |[],acc,x,_,_=>⟨x,by rw[List.flatMap_nil,Q2];rfl⟩
 |t::ts,acc,x,ht,h=>by
  rw[Qu] at h;have h1:=ht t Qb;have h2:=qFN fm h1;have hw:(wayL F t).length<=15:=by rw[wayL,Qe];exact h2
  obtain⟨x',e⟩:=qD4 fm e20 e1 ts (acc++wayL F t) (some (.val (nI t))) (λ u hu=>ht u (Qa _ hu)) (by rw[QA];lia);refine⟨x',?_⟩;generalize hρ:poE n f acc (some (.val (nI t)))=ρ;have c:ev G subC po_c ρ = .ok (.lst ((loL F t).map λ m=>wD (t,q01 m))):=comp_map (f:=nI) (by rw[q2l,q0u (x:=f) (y:=nI t) (by rw[<-hρ];rfl) (by rw[<-hρ];rfl) (e20 t h1),q00];rfl) (λ m hm=>by have hm:=Qn (fm.lt m (qAA hm).1) (p16 fm);exact q1H (evs2 (x:=nI t) (by rw[<-hρ];rfl) (show ev G subC (.call 1 [(.var 0)]) (some (.val (nI m))::ρ) = .ok (tD m) by rw[q12,evs1 (x:=nI m) rfl,q00,e1 m hm])) (by simp)) (by lia)
  have s:exs G subC [.ext 2 po_c] ρ = .ok (poE n f (acc++wayL F t) (some (.val (nI t)))) .nx:=by refine q06 (l:=[]) ?_;rw[qEu,show ρ[2]? = some (some (.own (.lst (acc.map wD)))) by rw[<-hρ];rfl];dsimp only;rw[c,q07];dsimp only;rw[if_pos (by rw[Qe,Qe,q0P];lia),<-hρ];unfold poE wayL;rw[Js,Jg];rfl
  rw[q1J,q0L,show List.set (poE n f acc x) 3 (some (.val (nI t)))=ρ from hρ,s,q21,e,List.flatMap_cons,Jv]
theorem qHU (h:∀x,x∈ks↔F.testBit x=true):q04 0 ks=F:=QJ λ i=>by rw[q0f,QE,decide_eq_true_eq,h]
structure Own (n F:Nat) (ws:List Wn):Prop where
 fam:Fam n F
 good:Good n ws
 rch:∀x,Rch (nds n ws) x↔F.testBit x=true
 po:∀k ks v,ks.Nodup->(∀x,x∈ks↔F.testBit x=true)->Gm (k+4) 19 [nI n,.dct (nL ks) v] = .ok (rD n ws)
theorem g_po (fm:Fam n F):∃ws,Own n F ws:=by
 have hn:=fm.n4;obtain⟨ws,g,hm,es⟩:=qCv (by lia:n<=5) (qEb fm) (qD1 fm) (by have:=qD0 fm (Qk n) λ t h=>Qw.mp h;rw[QK] at this;unfold wysL;lia);refine⟨ws,fm,g,qHQ fm g hm,λ k ks v hd hk=>?_⟩;have hF:=qHU hk;have hl:ks.length<=16:=q0g 16 ks hd λ x hx=>Qn (fm.lt x ((hk x).mp hx)) (p16 fm);obtain⟨x',e⟩:=qD4 (G:=Gm (k+3)) (f:= .dct (nL ks) v) fm (λ t ht=>by rw[<-hF];exact g_lo k hd hl (by lia)) (λ m hm=>q6j (k+1) m (by lia)) (Qk n) [] none (λ t h=>Qw.mp h) (by rw[QK,Q4];lia);refine (q0i (k+3) 19 _ 2 4 [.setO 2 (.lst []),.forr 0 [3] (.rng [(.var 0)]) [.ext 2 po_c],.ret (.tup [(.var 0),(.bi .sorted [(.bor 2)])])] rfl rfl).trans ?_;refine q17 (ρ:=[some (.val (nI n)),some (.val (.dct (nL ks) v)),none,none]) (ρ':=poE n (.dct (nL ks) v) (wysL n F) x') rfl ?_;refine (q06 (ρ':=poE n (.dct (nL ks) v) [] none) (by rw[q4t,q1N (q0c _) (by simp),q07];rfl)).trans ?_;refine (q06 (ρ':=poE n (.dct (nL ks) v) (wysL n F) x') (by rw[q1C,q1T,evs1 (x:=nI n) rfl,q00,q4T n (by lia),q07,e];rfl)).trans ?_
 have v2:ev (Gm (k+3)) subC (.bor 2) (poE n (.dct (nL ks) v) (wysL n F) x') = .ok (.lst ((wysL n F).map wD)):=rfl;exact q1G (by rw[q2q,q1H (evs2 (x:=nI n) rfl (by rw[q1S,evs1 v2,q00,es])) (by simp),q07];rfl)
theorem idxr (n:Nat) (ws:List Wn):idxD (rD n ws) (.int 0) = .ok (nI n):=idx0 _ _
theorem qHV (o:Own n F ws) (k:Nat):Gm (k+6) 18 [rD n ws] = .ok (rD n ws):=by obtain⟨ks,hd,hk,e⟩:=q29 o.good k;refine (q0i (k+5) 18 _ 1 2 q8g rfl rfl).trans ?_;refine q17 (ρ:=[some (.val (rD n ws)),none]) (ρ':=[some (.val (rD n ws)),some (.val (.dct (nL ks) (trs ks.length)))]) rfl ?_;refine (q06 (ρ':=[some (.val (rD n ws)),some (.val (.dct (nL ks) (trs ks.length)))]) (by rw[q0O,q12,evs1 (x:=rD n ws) rfl,q00,e,q07];rfl)).trans ?_;exact q1G (by rw[q2q,q0u (a:= .idx (.var 0) (.con (.int 0))) (ρ:=[some (.val (rD n ws)),some (.val (.dct (nL ks) (trs ks.length)))]) (x:=nI n) (y:= .dct (nL ks) (trs ks.length)) (idxr n ws) rfl (o.po (k+1) ks _ hd λ x=>(hk x).trans (o.rch x)),q07])
theorem qD5 (i:Nat):∀(ks:List Nat),i∈ks->put (i:Int) (.bl true) (nL ks) (trs ks.length) = .ok (nL ks,trs ks.length)
 |k::ks,h=>by
  show put (i:Int) (.bl true) (nI k::nL ks) (.bl true::trs ks.length)=_;unfold nI put;split
  ·rfl
  ·rename_i q;rw[qD5 i ks ((Qf.mp h).resolve_left λ e=>q (by rw[e]))];rfl
def q5U (ks:List Nat):Prop:=ks.Nodup/\∀x∈ks,x<16
def dctN (ks:List Nat):D:= .dct (nL ks) (trs ks.length)
theorem q8q {ρ:Env}{i x:Nat}{a:L}(I:q5U ks) (h:ρ[i]? = some (some (.own (dctN ks)))) (e:ev G subC a ρ = .ok (nI x)) (hx:x<16) :
  ∃ks',q5U ks'/\(∀z,z∈ks'↔z∈ks\/z=x)/\ex G subC (.put i a (.con (.bl true))) ρ = .ok (ρ.set i (some (.own (dctN ks')))) .nx:=by
 have hl:=q0g 16 ks I.1 I.2;have key:∀ks',put (x:Int) (.bl true) (nL ks) (trs ks.length) = .ok (nL ks',trs ks'.length)->ex G subC (.put i a (.con (.bl true))) ρ = .ok (ρ.set i (some (.own (dctN ks')))) .nx:=λ ks' p=>by rw[qBH,h];show R.go (ev G subC (.con (.bl true)) ρ) ρ _=_;rw[q0M,q07,e,q07];show (if (nL ks).length<big then _ else _)=_;rw[if_pos (by rw[q0K,q0P];lia),p,q07];rfl
 by_cases q:x∈ks
 ·exact⟨ks,I,λ z=>⟨.inl,λ h=>h.elim id λ e=>e▸q⟩,key ks (qD5 x ks q)⟩
 ·refine⟨ks++[x],⟨Qz.mpr ⟨I.1,by simp,λ a ha b hb ee=>q ?_⟩,λ z hz=>?_⟩,λ z=>by rw[Qq,Qs],key _ (q8j x ks q)⟩
  ·rw[Qs] at hb;subst hb;exact ee▸ha
  ·rcases Qq.mp hz with h|h
   ·exact I.2 z h
   ·rw[Qs.mp h];exact hx
theorem q3q {E:List Nat->Option Sl->Option Sl->Env}{body:List S}{i:Nat}{Q:Nat->Nat->Prop}{ok:Nat->Prop}(hs:∀ks x y m,(E ks x y).set i (some (.val (nI m)))=E ks (some (.val (nI m))) y)
  (hb:∀m,ok m->∀ks y,q5U ks->∃ks' y',q5U ks'/\(∀x,x∈ks'↔x∈ks\/Q m x)/\exs G subC body (E ks (some (.val (nI m))) y) = .ok (E ks' (some (.val (nI m))) y') .nx) :
  ∀(ms ks:List Nat) (x y:Option Sl),(∀m∈ms,ok m)->q5U ks->∃ks' x' y',q5U ks'/\(∀z,z∈ks'↔z∈ks\/∃m∈ms,Q m z)/\q0z (exs G subC body) 0 [i] (nL ms) (E ks x y) = .ok (E ks' x' y') .nx
 |[],ks,x,y,_,I=>⟨ks,x,y,I,λ z=>by simp,rfl⟩
 |m::ms,ks,x,y,h,I=>by
  obtain⟨k1,y1,I1,h1,e1⟩:=hb m (h m Qb) ks y I;obtain⟨k2,x2,y2,I2,h2,e2⟩:=q3q hs hb ms k1 (some (.val (nI m))) y1 (λ u hu=>h u (Qa _ hu)) I1;refine⟨k2,x2,y2,I2,λ z=>?_,by rw[q1J,q0L,hs,e1,q21,e2]⟩;rw[h2,h1,or_assoc];refine or_congr_right ⟨λ h=>?_,λ h=>?_⟩
  ·rcases h with h|⟨u,hu,h⟩
   ·exact⟨m,Qb,h⟩
   ·exact⟨u,Qa _ hu,h⟩
  ·obtain⟨u,hu,hq⟩:=h;rcases Qf.mp hu with rfl|hu
   ·exact .inl hq
   ·exact .inr ⟨u,hu,hq⟩
theorem q8r:q5U []:=⟨Jp,nofun⟩
theorem qD6 {ρ ρ':Env}{d:D}(h:ρ[3]? = some (some (.own (dctN ks)))) (h':ρ.set 3 (some (.val (dctN ks)))=ρ') (h0:ev G subC (.idx (.var 0) (.con (.int 0))) ρ' = .ok (nI n)) (h3:ev G subC (.var 3) ρ' = .ok (dctN ks)) (e:G 19 [nI n,dctN ks] = .ok d) :
  exs G subC [.fz 3 (.ret (.call 19 [(.idx (.var 0) (.con (.int 0))),(.var 3)]))] ρ = .ok ρ' (.ret d):=by
 refine q1G ?_;rw[qIT,h];show ex G subC _ (ρ.set 3 (some (.val (dctN ks))))=_;rw[h',q2q,q0u h0 h3 e,q07]
section
variable {th:D}{ms:List Nat}{v:List D}{B:Nat}
theorem qHW (h13:G 13 [rD n ws,th] = .ok .non) (h0:G 0 [th] = .ok (nI B)) (h15:G 15 [rD n ws] = .ok (.dct (nL ms) v)) (hm:∀m∈ms,m<16) :
  ∃ks,q5U ks/\(∀z,z∈ks↔∃m∈ms,z=m &&& B)/\∀d,G 19 [nI n,dctN ks] = .ok d->Ev.run G subC 5 q7s [rD n ws,th] = .ok d:=by
 obtain⟨ks,x,y,I,hk,e⟩:=q3q (G:=G) (E:=λ ks x _=>[some (.val (rD n ws)),some (.val th),some (.val (nI B)),some (.own (dctN ks)),x]) (body:=[.put 3 (.op .band (.var 4) (.var 2)) (.con (.bl true))]) (i:=4) (Q:=λ m z=>z=m &&& B) (ok:=λ m=>m<16) (λ _ _ _ _=>rfl)
  (λ m hm ks y I=>by obtain⟨ks',I',h,e⟩:=q8q (G:=G) (ρ:=[some (.val (rD n ws)),some (.val th),some (.val (nI B)),some (.own (dctN ks)),some (.val (nI m))]) (i:=3) (a:= .op .band (.var 4) (.var 2)) (x:=m &&& B) I rfl (qBK m B) (Q8 Nat.and_le_left hm);exact⟨ks',y,I',h,q06 (l:=[]) e⟩) ms [] none none hm q8r
 refine⟨ks,I,λ z=>by rw[hk];simp,λ d h19=>?_⟩;refine q17 (ρ:=[some (.val (rD n ws)),some (.val th),none,none,none]) (ρ':=[some (.val (rD n ws)),some (.val th),some (.val (nI B)),some (.val (dctN ks)),x]) rfl ?_;refine (q06 (by rw[q8S,q0u (x:=rD n ws) (y:=th) rfl rfl h13,q07])).trans ?_;refine (q06 (ρ':=[some (.val (rD n ws)),some (.val th),some (.val (nI B)),none,none]) (by rw[q0O,q12,evs1 (x:=th) rfl,q00,h0,q07];rfl)).trans ?_;refine (q06 (ρ':=[some (.val (rD n ws)),some (.val th),some (.val (nI B)),some (.own (dctN [])),none]) rfl).trans ?_;refine (q06 (by rw[q1C,q2l,q12,evs1 (x:=rD n ws) rfl,q00,h15,q00,q2R,q07];exact e)).trans ?_;exact qD6 rfl rfl (idxr n ws) rfl h19
theorem qAe (h14:G 14 [rD n ws,th] = .ok .non) (h0:G 0 [th] = .ok (nI B)) (h15:G 15 [rD n ws] = .ok (.dct (nL ms) v)) (hm:∀m∈ms,m<16) (hB:B<16) :
  ∃ks,q5U ks/\(∀z,z∈ks↔∃m∈ms,Sm B m/\z=m ^^^ B)/\∀d,G 19 [nI n,dctN ks] = .ok d->Ev.run G subC 5 q1y [rD n ws,th] = .ok d:=by
 obtain⟨ks,x,y,I,hk,e⟩:=q3q (G:=G) (E:=λ ks x _=>[some (.val (rD n ws)),some (.val th),some (.val (nI B)),some (.own (dctN ks)),x]) (body:=[.ifs (.e (.cm .eq (.op .band (.var 4) (.var 2)) (.var 2))) [.put 3 (.op .bxor (.var 4) (.var 2)) (.con (.bl true))] []]) (i:=4) (Q:=λ m z=>Sm B m/\z=m ^^^ B) (ok:=λ m=>m<16) (λ _ _ _ _=>rfl)
  (λ m hm ks y I=>by
   obtain⟨ks',I',h,e⟩:=q8q (G:=G) (ρ:=[some (.val (rD n ws)),some (.val th),some (.val (nI B)),some (.own (dctN ks)),some (.val (nI m))]) (i:=3) (a:= .op .bxor (.var 4) (.var 2)) (x:=m ^^^ B) I rfl (qIV m B) (Nat.xor_lt_two_pow (n:=4) hm hB);have t:tst G subC (.e (.cm .eq (.op .band (.var 4) (.var 2)) (.var 2))) [some (.val (rD n ws)),some (.val th),some (.val (nI B)),some (.own (dctN ks)),some (.val (nI m))] = .ok (decide (m &&& B=B)):=q3o (q2N (x:=nI (m &&& B)) (y:=nI B) (qBK m B) rfl (eq_n _ _));have hiff:m &&& B=B↔Sm B m:=by rw[Nat.and_comm];exact q2a
   by_cases q:Sm B m
   ·refine⟨ks',y,I',λ z=>by rw[h];simp[q],q06 (l:=[]) ?_⟩;rw[q3J,t,q07,decide_eq_true (hiff.mpr q),if_pos rfl];exact q06 (l:=[]) e
   ·refine⟨ks,y,I,λ z=>by simp[q],q06 (l:=[]) ?_⟩;rw[q3J,t,q07,decide_eq_false λ h=>q (hiff.mp h),if_neg (by simp)];rfl) ms [] none none hm q8r
 refine⟨ks,I,λ z=>by rw[hk];simp,λ d h19=>?_⟩;refine q17 (ρ:=[some (.val (rD n ws)),some (.val th),none,none,none]) (ρ':=[some (.val (rD n ws)),some (.val th),some (.val (nI B)),some (.val (dctN ks)),x]) rfl ?_;refine (q06 (by rw[q8S,q0u (x:=rD n ws) (y:=th) rfl rfl h14,q07])).trans ?_;refine (q06 (ρ':=[some (.val (rD n ws)),some (.val th),some (.val (nI B)),none,none]) (by rw[q0O,q12,evs1 (x:=th) rfl,q00,h0,q07];rfl)).trans ?_;refine (q06 (ρ':=[some (.val (rD n ws)),some (.val th),some (.val (nI B)),some (.own (dctN [])),none]) rfl).trans ?_;refine (q06 (by rw[q1C,q2l,q12,evs1 (x:=rD n ws) rfl,q00,h15,q00,q2R,q07];exact e)).trans ?_;exact qD6 rfl rfl (idxr n ws) rfl h19
theorem qAf {vs:List Wn}{ns:List Nat}{u:List D}(h22:G 22 [rD n ws,rD n vs] = .ok .non) (h15':G 15 [rD n vs] = .ok (.dct (nL ns) u)) (h15:G 15 [rD n ws] = .ok (.dct (nL ms) v)) (hm:∀m∈ms,m<16) (hn:∀m∈ns,m<16) :
  ∃ks,q5U ks/\(∀z,z∈ks↔∃m∈ms,∃b∈ns,z=m ||| b)/\∀d,G 19 [nI n,dctN ks] = .ok d->Ev.run G subC 6 q1b [rD n ws,rD n vs] = .ok d:=by
 have inner:=λ (m:Nat) (hm:m<16) (ks:List Nat) (y:Option Sl) (I:q5U ks)=>q3q (G:=G) (E:=λ ks y _=>[some (.val (rD n ws)),some (.val (rD n vs)),some (.val (.dct (nL ns) u)),some (.own (dctN ks)),some (.val (nI m)),y]) (body:=[.put 3 (.op .bor (.var 4) (.var 5)) (.con (.bl true))]) (i:=5) (Q:=λ b z=>z=m ||| b) (ok:=λ m=>m<16) (λ _ _ _ _=>rfl)
  (λ b hb ks y I=>by obtain⟨ks',I',h,e⟩:=q8q (G:=G) (ρ:=[some (.val (rD n ws)),some (.val (rD n vs)),some (.val (.dct (nL ns) u)),some (.own (dctN ks)),some (.val (nI m)),some (.val (nI b))]) (i:=3) (a:= .op .bor (.var 4) (.var 5)) (x:=m ||| b) I rfl (qIU m b) (Nat.or_lt_two_pow (n:=4) hm hb);exact⟨ks',y,I',h,q06 (l:=[]) e⟩) ns ks y none hn I
 obtain⟨ks,x,y,I,hk,e⟩:=q3q (G:=G) (E:=λ ks x y=>[some (.val (rD n ws)),some (.val (rD n vs)),some (.val (.dct (nL ns) u)),some (.own (dctN ks)),x,y]) (body:=[.forr 0 [5] (.e (.var 2)) [.put 3 (.op .bor (.var 4) (.var 5)) (.con (.bl true))]]) (i:=4) (Q:=λ m z=>∃b∈ns,z=m ||| b) (ok:=λ m=>m<16) (λ _ _ _ _=>rfl)
  (λ m hm ks y I=>by obtain⟨ks',y',_,I',h,e⟩:=inner m hm ks y I;refine⟨ks',y',I',h,q06 (l:=[]) ?_⟩;rw[q1C,q2l,show ev G subC (.var 2) _ = .ok (.dct (nL ns) u) from rfl,q00,q2R,q07];exact e) ms [] none none hm q8r
 refine⟨ks,I,λ z=>by rw[hk];simp,λ d h19=>?_⟩;refine q17 (ρ:=[some (.val (rD n ws)),some (.val (rD n vs)),none,none,none,none]) (ρ':=[some (.val (rD n ws)),some (.val (rD n vs)),some (.val (.dct (nL ns) u)),some (.val (dctN ks)),x,y]) rfl ?_;refine (q06 (by rw[q8S,q0u (x:=rD n ws) (y:=rD n vs) rfl rfl h22,q07])).trans ?_;refine (q06 (ρ':=[some (.val (rD n ws)),some (.val (rD n vs)),some (.val (.dct (nL ns) u)),none,none,none]) (by rw[q0O,q12,evs1 (x:=rD n vs) rfl,q00,h15',q07];rfl)).trans ?_;refine (q06 (ρ':=[some (.val (rD n ws)),some (.val (rD n vs)),some (.val (.dct (nL ns) u)),some (.own (dctN [])),none,none]) rfl).trans ?_;refine (q06 (by rw[q1C,q2l,q12,evs1 (x:=rD n ws) rfl,q00,h15,q00,q2R,q07];exact e)).trans ?_;exact qD6 rfl rfl (idxr n ws) rfl h19
end
end Mk
namespace Mk
open Ev
variable {B m w:Nat}{d:D}
variable {n F:Nat}{ws vs:List Wn}{G:Nat->List D->R D}
theorem qK7 (a b t:Nat) (h:a.testBit t=true):a ||| (b ||| 1 <<< t)=a ||| b:=QJ λ i=>by
 rw[QV,q15,QV]
 by_cases e:t=i
 ·subst e;simp[h]
 ·simp[e]
theorem q2b {k:Nat}(h:Rch (nds n ws) k):k<2^n:=by have:=q5N h;rwa [q2E] at this
def SJ (n:Nat) (ws vs:List Wn) (z:Nat):Prop:=∃a,Rch (nds n ws) a/\∃b,Rch (nds n vs) b/\z=a ||| b
def SC (n:Nat) (ws:List Wn) (B z:Nat):Prop:=∃a,Rch (nds n ws) a/\z=a &&& B
def SB (n:Nat) (ws:List Wn) (B z:Nat):Prop:=∃a,Rch (nds n ws) a/\Sm B a/\z=a ^^^ B
theorem qEc (hn:n<=4) (h:∀z,F.testBit z=true↔SJ n ws vs z):Fam n F:=by
 refine⟨hn,λ x hx=>?_,λ x y hx hy=>?_,(h 0).mpr ⟨0,.z,0,.z,rfl⟩,λ x hx=>?_⟩
 ·obtain⟨a,ha,b,hb,rfl⟩:=(h x).mp hx;exact Nat.or_lt_two_pow (q2b ha) (q2b hb)
 ·obtain⟨a,ha,b,hb,rfl⟩:=(h x).mp hx;obtain⟨c,hc,d,hd,rfl⟩:=(h y).mp hy;refine (h _).mpr ⟨a ||| c,q7u ha hc,b ||| d,q7u hb hd,QJ λ i=>?_⟩;simp only[QV];cases a.testBit i<;>cases b.testBit i<;>cases c.testBit i<;>rfl
 ·obtain⟨a,ha,b,hb,rfl⟩:=(h x).mp hx;clear hx
  induction hb with
  |z =>
   rw[Nat.or_zero]
   induction ha with
   |z=>exact .z
   |s hk hm ih=>exact .s ih (q4F hm) ((h _).mpr ⟨_,.s hk hm,0,.z,(Nat.or_zero _).symm⟩)
  |@s k t hk hm ih =>
   cases q:a.testBit t with
   |true=>rw[qK7 a k t q];exact ih
   |false =>
    rw[<-Nat.or_assoc];exact .s ih (by rw[QV,q,q4F hm];rfl) ((h _).mpr ⟨a,ha,_,.s hk hm,Nat.or_assoc _ _ _⟩)
theorem qHX (hn:n<=4) (h:∀z,F.testBit z=true↔SC n ws B z):Fam n F:=by
 refine⟨hn,λ x hx=>?_,λ x y hx hy=>?_,(h 0).mpr ⟨0,.z,(Nat.zero_and B).symm⟩,λ x hx=>?_⟩
 ·obtain⟨a,ha,rfl⟩:=(h x).mp hx;exact Q8 Nat.and_le_left (q2b ha)
 ·obtain⟨a,ha,rfl⟩:=(h x).mp hx;obtain⟨c,hc,rfl⟩:=(h y).mp hy;exact (h _).mpr ⟨a ||| c,q7u ha hc,(Nat.and_or_distrib_right a c B).symm⟩
 ·obtain⟨a,ha,rfl⟩:=(h x).mp hx;clear hx
  induction ha with
  |z=>rw[Nat.zero_and];exact .z
  |@s k t hk hm ih =>
   have e:(k ||| 1 <<< t) &&& B=if B.testBit t=true then (k &&& B) ||| 1 <<< t else k &&& B:=QJ λ i=>by
    split
    ·rename_i q;rw[Jj,q15,q15,Jj]
     by_cases z:t=i
     ·subst z;simp[q]
     ·simp[z]
    ·rename_i q;rw[Jj,q15,Jj]
     by_cases z:t=i
     ·subst z;simp[q]
     ·simp[z]
   have e2:=(h _).mpr ⟨_,Rch.s hk hm,rfl⟩;rw[e] at e2 |-;split
   ·rename_i q;rw[if_pos q] at e2;exact .s ih (by rw[Jj,q4F hm];rfl) e2
   ·exact ih
theorem q5V {a b:Nat}(h:Sm b a) (i:Nat):(a ^^^ b).testBit i=(a.testBit i&&!b.testBit i):=by
 rw[Nat.testBit_xor];have:=h i;cases q:a.testBit i<;>cases r:b.testBit i
 ·rfl
 ·rw[this r] at q;cases q
 ·rfl
 ·rfl
theorem qAg (hn:n<=4) (hB:Rch (nds n ws) B) (h:∀z,F.testBit z=true↔SB n ws B z):Fam n F:=by
 refine⟨hn,λ x hx=>?_,λ x y hx hy=>?_,(h 0).mpr ⟨B,hB,q4E B,(Nat.xor_self B).symm⟩,λ x hx=>?_⟩
 ·obtain⟨a,ha,_,rfl⟩:=(h x).mp hx;exact Nat.xor_lt_two_pow (q2b ha) (q2b hB)
 ·obtain⟨a,ha,sa,rfl⟩:=(h x).mp hx;obtain⟨c,hc,sc,rfl⟩:=(h y).mp hy;refine (h _).mpr ⟨a ||| c,q7u ha hc,q3f sa (q33 a c),QJ λ i=>?_⟩;rw[QV,q5V sa,q5V sc,q5V (q3f sa (q33 a c)),QV];cases a.testBit i<;>cases c.testBit i<;>cases B.testBit i<;>rfl
 ·obtain⟨a,ha,sa,rfl⟩:=(h x).mp hx;have key:∀a,Rch (nds n ws) a->Gen F ((a ||| B) ^^^ B):=λ a ha=>by
   induction ha with
   |z=>rw[Nat.zero_or,Nat.xor_self];exact .z
   |@s k t hk hm ih =>
    cases q:B.testBit t with
    |true =>
     have:(k ||| 1 <<< t) ||| B=k ||| B:=by rw[Nat.or_comm,qK7 B k t q,Nat.or_comm]
     rw[this];exact ih
    |false =>
     have e:((k ||| 1 <<< t) ||| B) ^^^ B=((k ||| B) ^^^ B) ||| 1 <<< t:=QJ λ i=>by
      rw[q15,q5V (q3h _ _),q5V (q3h _ _),QV,q15,QV]
      by_cases z:t=i
      ·subst z;simp[q]
      ·simp[z]
     rw[e];refine .s ih (by rw[q5V (q3h _ _),QV,q4F hm,q];rfl) ?_;rw[<-e];exact (h _).mpr ⟨_,q7u (.s hk hm) hB,q3h _ _,rfl⟩
  have:=key a ha
  rwa [show a ||| B=a from q32 (qH3 (q4E a) sa) (q33 a B)] at this
section
variable (g:Good n ws) (hn:n<=4)
include g
theorem qD7 (k:Nat) (hB:B<2^n):Gm (k+1) 0 [tD B] = .ok (nI B):=by
 have:=q9u k (q01 B) (q68 g hB) (tD B) (.inl rfl)
 rwa [q3j] at this
include hn
theorem qAh (h:Rch (nds n ws) m):m<16:=Qn (q2b h) (QN (i:=n) (j:=4) (by decide:0<2) hn)
theorem qLf (k:Nat) (hB:B<2^n):∃F us,Own n F us/\(∀z,F.testBit z=true↔SC n ws B z)/\Gm (k+6) 24 [rD n ws,tD B] = .ok (rD n us):=by
 obtain⟨ms,hd,hm,e⟩:=q29 g k;obtain⟨ks,I,hk,r⟩:=qHW (G:=Gm (k+5)) (qA1 g k B hB) (qD7 g (k+4) hB) e λ m h=>qAh g hn ((hm m).mp h);have hF:∀z,(q04 0 ks).testBit z=true↔SC n ws B z:=λ z=>by rw[q0f,decide_eq_true_eq,hk];exact⟨λ⟨m,h,e⟩=>⟨m,(hm m).mp h,e⟩,λ⟨m,h,e⟩=>⟨m,(hm m).mpr h,e⟩⟩
 obtain⟨us,o⟩:=g_po (qHX hn hF);exact⟨_,us,o,hF,(q0i (k+5) 24 _ 2 5 q7s rfl rfl).trans (r _ (o.po (k+1) ks _ I.1 λ x=>by rw[q0f,decide_eq_true_eq]))⟩
theorem qK8 (g':Good n vs) (k:Nat) (e22:Gm (k+5) 22 [rD n ws,rD n vs] = .ok .non):∃F us,Own n F us/\(∀z,F.testBit z=true↔SJ n ws vs z)/\Gm (k+6) 23 [rD n ws,rD n vs] = .ok (rD n us):=by
 obtain⟨ms,hd,hm,e⟩:=q29 g k;obtain⟨ns,hd',hm',e'⟩:=q29 g' k;obtain⟨ks,I,hk,r⟩:=qAf (G:=Gm (k+5)) e22 e' e (λ m h=>qAh g hn ((hm m).mp h)) λ m h=>qAh g' hn ((hm' m).mp h);have hF:∀z,(q04 0 ks).testBit z=true↔SJ n ws vs z:=λ z=>by rw[q0f,decide_eq_true_eq,hk];exact⟨λ⟨m,h,b,hb,e⟩=>⟨m,(hm m).mp h,b,(hm' b).mp hb,e⟩,λ⟨m,h,b,hb,e⟩=>⟨m,(hm m).mpr h,b,(hm' b).mpr hb,e⟩⟩
 obtain⟨us,o⟩:=g_po (qEc hn hF);exact⟨_,us,o,hF,(q0i (k+5) 23 _ 2 6 q1b rfl rfl).trans (r _ (o.po (k+1) ks _ I.1 λ x=>by rw[q0f,decide_eq_true_eq]))⟩
theorem qEd (k:Nat) (hB:Rch (nds n ws) B) (e14:Gm (k+8) 14 [rD n ws,tD B] = .ok .non):∃F us,Own n F us/\(∀z,F.testBit z=true↔SB n ws B z)/\Gm (k+9) 25 [rD n ws,tD B] = .ok (rD n us):=by
 obtain⟨ms,hd,hm,e⟩:=q29 g (k+3);obtain⟨ks,I,hk,r⟩:=qAe (G:=Gm (k+8)) e14 (qD7 g (k+7) (q2b hB)) e (λ m h=>qAh g hn ((hm m).mp h)) (qAh g hn hB);have hF:∀z,(q04 0 ks).testBit z=true↔SB n ws B z:=λ z=>by rw[q0f,decide_eq_true_eq,hk];exact⟨λ⟨m,h,e⟩=>⟨m,(hm m).mp h,e⟩,λ⟨m,h,e⟩=>⟨m,(hm m).mpr h,e⟩⟩
 obtain⟨us,o⟩:=g_po (qAg hn hB hF);exact⟨_,us,o,hF,(q0i (k+8) 25 _ 2 5 q1y rfl rfl).trans (r _ (o.po (k+4) ks _ I.1 λ x=>by rw[q0f,decide_eq_true_eq]))⟩
end
section
variable {r o th:D}{c:Nat}
theorem qK9 {a b:Nat}{us:List Wn}{ts:List Wn}(h1:G 11 [rD a us] = .ok .non) (h2:G 11 [rD b ts] = .ok .non):Ev.run G subC 2 q0G [rD a us,rD b ts]=if a=b then .ok .non else .err 3:=by
 have i1:=idxr a us;have i2:=idxr b ts
 by_cases q:a=b
 ·subst q;simp[Ev.run,q0G,h1,h2,i1,i2]
 ·simp[Ev.run,q0G,h1,h2,i1,i2,q]
theorem qHY (h:G 11 [r] = .err c):Ev.run G subC 2 q0G [r,o] = .err c:=by simp[Ev.run,q0G,h]
theorem qHZ (h1:G 11 [r] = .ok .non) (h:G 11 [o] = .err c):Ev.run G subC 2 q0G [r,o] = .err c:=by simp[Ev.run,q0G,h,h1]
theorem qKA {t:Bool}(e:G 16 [r,th] = .ok (.bl t)):Ev.run G subC 2 q0Q [r,th]=if t=true then .ok .non else .err 2:=by cases t<;>simp[Ev.run,q0Q,e]
theorem qKB (e:G 16 [r,th] = .err c):Ev.run G subC 2 q0Q [r,th] = .err c:=by simp[Ev.run,q0Q,e]
theorem e_23 (h:G 22 [r,o] = .err c):Ev.run G subC 6 q1b [r,o] = .err c:=by simp[Ev.run,q1b,h]
theorem e_24 (h:G 13 [r,o] = .err c):Ev.run G subC 5 q7s [r,o] = .err c:=by simp[Ev.run,q7s,h]
theorem e_25 (h:G 14 [r,o] = .err c):Ev.run G subC 5 q1y [r,o] = .err c:=by simp[Ev.run,q1y,h]
def qEe (G:Nat->List D->R D) (r o:D):Nat->R D
 |0=>G 23 [r,o]
 |1=>G 24 [r,o]
 |_=>G 25 [r,o]
theorem qHa (hw:w<=2) (h:qEe G r o w = .ok d):Ev.run G subC 6 q1e [nI w,r,o] = .ok d:=by
 match w,hw with
 |0,_=>exact run1 23 (by kernel_rfl) h (by kernel_rfl)
 |1,_=>exact run1 24 (by kernel_rfl) h (by kernel_rfl)
 |2,_=>exact run1 25 (by kernel_rfl) h (by kernel_rfl)
theorem qEf (hw:w<=2) (h:qEe G r o w = .err c) (h2:G 33 [.exc c] = .ok d):Ev.run G subC 6 q1e [nI w,r,o] = .ok d:=by
 rw[sub_eq]
 match w,hw with
 |0,_=>exact run2 23 (by kernel_rfl) h (run2 33 (by kernel_rfl) h2 (by kernel_rfl))
 |1,_=>exact run2 24 (by kernel_rfl) h (run2 33 (by kernel_rfl) h2 (by kernel_rfl))
 |2,_=>exact run2 25 (by kernel_rfl) h (run2 33 (by kernel_rfl) h2 (by kernel_rfl))
end
theorem qD8 (k:Nat) {r o:D}(hw:w<=2) (h:qEe (Gm (k+1)) r o w = .ok d):Gm (k+2) 34 [nI w,r,o] = .ok d:=(q0i (k+1) 34 _ 3 6 q1e rfl rfl).trans (qHa hw h)
theorem q35 (k:Nat) {r o:D}{c:Nat}(hw:w<=2) (h:qEe (Gm (k+1)) r o w = .err c) (h2:Gm (k+1) 33 [.exc c] = .ok d):Gm (k+2) 34 [nI w,r,o] = .ok d:=(q0i (k+1) 34 _ 3 6 q1e rfl rfl).trans (qEf hw h h2)
section
variable (g:Good n ws)
include g
theorem qD9 (k:Nat) (hr:Rch (nds n ws) m):Gm (k+8) 14 [rD n ws,tD m] = .ok .non:=by obtain⟨c,hc,e⟩:=q4c g k m (q2b hr);have:c=m:=q32 hc.2.1 (hc.2.2 m hr (q4E m));rw[this,decide_eq_true rfl] at e;exact (q0i (k+7) 14 _ 2 2 q0Q rfl rfl).trans ((qKA e).trans (if_pos rfl))
theorem qEg (k:Nat) (hlt:m<2^n) (hm:m∉due n ws):Gm (k+8) 14 [rD n ws,tD m] = .err 2:=by obtain⟨c,hc,e⟩:=q4c g k m hlt;have:¬c=m:=λ z=>hm ((q1p g m).mpr (z▸hc.1));rw[decide_eq_false this] at e;exact (q0i (k+7) 14 _ 2 2 q0Q rfl rfl).trans ((qKA e).trans (if_neg (by simp)))
end
theorem qFO (k:Nat) {r th:D}{c:Nat}(h:Gm (k+5) 13 [r,th] = .err c):Gm (k+8) 14 [r,th] = .err c :=
 (q0i (k+7) 14 _ 2 2 q0Q rfl rfl).trans (qKB ((q0i (k+6) 16 _ 2 2 q1M rfl rfl).trans (e_18 ((q0i (k+5) 17 _ 2 2 q5M rfl rfl).trans (e_20 h)))))
def sUn:D:= .str (PySem.Str.ofString "unlike")
theorem q87 (G:Nat->List D->R D):Ev.run G subC 2 q0R [.exc 3] = .ok sUn:=by kernel_rfl
theorem qKC (k:Nat):Gm (k+1) 33 [.exc 3] = .ok sUn:=(q0i k 33 [.exc 3] 1 2 q0R rfl rfl).trans (q87 _)
end Mk
namespace Mk
open Ev
variable {Lx:List Nat}
variable {n F:Nat}{ws vs:List Wn}{G:Nat->List D->R D}
def ddN:List Nat->List Nat
 |[]=>[]
 |x::l=>if x∈l then ddN l else x::ddN l
theorem q5W:∀{l:List Nat}{x:Nat},x∈ddN l↔x∈l
 |[],x=>Iff.rfl
 |y::l,x=>by
  unfold ddN
  by_cases h:y∈l
  ·rw[if_pos h,q5W,Qf];exact⟨.inr,λ g=>g.elim (λ e=>e▸h) id⟩
  ·rw[if_neg h,Qf,Qf,q5W]
theorem q5X:∀l:List Nat,(ddN l).Nodup
 |[]=>Jp
 |y::l=>by
  unfold ddN
  by_cases h:y∈l
  ·rw[if_pos h];exact q5X l
  ·rw[if_neg h];exact QG.mpr ⟨λ g=>h (q5W.mp g),q5X l⟩
theorem qAC (a b:Nat):eqb (tD a) (tD b)=decide (a=b):=by rw[tD,tD,q9C,QE,decide_eq_true_eq,decide_eq_true_eq];exact⟨q3k,λ h=>h▸rfl⟩
theorem qHb (a:Nat):q02 (tD a)=true:=qBM _
theorem qFP {a b:Nat}(h:tD a=tD b):a=b:=of_decide_eq_true ((qAC a b).symm.trans ((q0T (qHb a) (qHb b)).mpr h))
theorem qHc (x:Nat) (l:List Nat):tD x∈l.map tD↔x∈l:=⟨λ h=>by obtain⟨v,hv,e⟩:=Qg.mp h;exact qFP e▸hv,λ h=>Qg.mpr ⟨x,h,rfl⟩⟩
theorem q8s:∀l:List Nat,dedup (l.map tD)=(ddN l).map tD
 |[]=>rfl
 |y::l=>by
  have e:(l.map tD).any (eqb (tD y))=decide (y∈l):=by rw[QE,QQ,decide_eq_true_eq,<-qHc];exact⟨λ⟨d,hd,he⟩=>by obtain⟨a,_,rfl⟩:=Qg.mp hd;rw[qAC] at he;exact of_decide_eq_true he▸hd,λ h=>⟨_,h,by rw[qAC];exact decide_eq_true rfl⟩⟩
  rw[Qv,dedup,e,ddN]
  by_cases h:y∈l
  ·rw[decide_eq_true h,if_pos rfl,if_pos h];exact q8s l
  ·rw[decide_eq_false h,if_neg (by simp),if_neg h,Qv,q8s l]
theorem liftT:∀(l:List D),(∀d∈l,∃a:Nat,d=tD a)->∃ss:List Nat,l=ss.map tD
 |[],_=>⟨[],rfl⟩
 |d::l,h=>by obtain⟨a,rfl⟩:=h d Qb;obtain⟨ss,rfl⟩:=liftT l λ d hd=>h d (Qa _ hd);exact⟨a::ss,rfl⟩
theorem qKD (hL:Lx.length<=1000) (h16:∀x∈Lx,x<16):∃l:List Nat,l.Nodup/\(∀x,x∈l↔x∈Lx)/\biD subC .sortedSet [.lst (Lx.map tD)] = .ok (.lst (l.map tD)):=by
 have hd:=q5X Lx;have hl:(ddN Lx).length<=16:=q0g 16 _ hd λ x hx=>h16 x (q5W.mp hx);have hp:=q0F ((ddN Lx).map tD);obtain⟨l,e⟩:=liftT (q20 ((ddN Lx).map tD)) λ d hd=>by obtain⟨a,_,rfl⟩:=Qg.mp (hp.mem_iff.mp hd);exact⟨a,rfl⟩
 rw[e] at hp;have hm:∀x,x∈l↔x∈Lx:=λ x=>by rw[<-qHc,hp.mem_iff,qHc,q5W]
 refine⟨l,?_,hm,?_⟩
 ·have:(l.map tD).Nodup:=hp.nodup_iff.mpr (QI.mpr (hd.imp λ h e=>h (qFP e)));exact (QI.mp this).imp λ {a b} h ee=>h (congrArg tD ee)
 ·have s1:∀l:List Nat,q08 (l.map tD)=true:=λ l=>q0D.mpr λ d hx=>by obtain⟨w,_,rfl⟩:=Qg.mp hx;exact qHb w
  have s3:decide ((Lx.map tD).length<=1000)=true:=decide_eq_true (by rw[Qe];exact hL);have t3:q1t q0V ((ddN Lx).map tD)=true:=Qj.mpr λ a ha=>Qj.mpr λ b hb=>by obtain⟨x,_,rfl⟩:=Qg.mp ha;obtain⟨y,_,rfl⟩:=Qg.mp hb;rw[tD,tD,qES,qES,q0V];exact qCb _ _
  have t4:dedup ((ddN Lx).map tD)=(ddN Lx).map tD:=q3m (QI.mpr (hd.imp λ {a b} h=>by rw[qAC];exact decide_eq_false h));have t5:((ddN Lx).map tD).all q1g=true:=Qj.mpr λ d hx=>by obtain⟨x,_,rfl⟩:=Qg.mp hx;rw[tD];cases q01 x<;>rfl
  have t6:decide (((ddN Lx).map tD).length<64)=true:=decide_eq_true (by rw[Qe];lia);have s4:q1B ((ddN Lx).map tD)=true:=by unfold q1B qAM;rw[s1,qHB,t3,t4,t5,t6];simp
  rw[q4U,q5i,q00,s1,qHB,s3,q8s,s4,<-e];rfl
def is_c:L:= .comp 0 (.tup [(.bi .len [(.var 0)]),(.var 0)]) (.e (.bi .sortedSet [(.var 2)])) []
def is_d:L:= .comp 2 (.var 1) (.e (.bi .sorted [is_c])) []
def is_r:L:= .and (.bi .isTup [(.var 0)]) (.and (.cm .eq (.idx (.var 0) (.con (.int 0))) (.var 1)) (.and (.cm .eq (.call 32 [(.var 0)]) (.var 3)) (.cm .eq (.call 18 [(.var 0)]) (.var 0))))
theorem q3r {f:Nat}{ρ:Env}{a:L}{x d:D}(h1:ev G subC a ρ = .ok x) (h:G f [x] = .ok d):ev G subC (.call f [a]) ρ = .ok d:=by rw[q12,evs1 h1,q00,h]
theorem qKE (g:Good n ws) (hL:Lx.length<=1000) (h16:∀x∈Lx,x<16) (hx:∀x,x∈Lx↔Rch (nds n ws) x) (e32:G 32 [rD n ws] = .ok (.lst ((due n ws).map tD))) (e18:G 18 [rD n ws] = .ok (rD n ws)):Ev.run G subC 4 q4o [rD n ws,nI n,.lst (Lx.map tD)] = .ok (.bl true):=by
 obtain⟨l,hd,hm,es⟩:=qKD hL h16;have hl:l.length<=16:=q0g 16 l hd λ x h=>h16 x ((hm x).mp h);have c:ev G subC is_c [some (.val (rD n ws)),some (.val (nI n)),some (.val (.lst (Lx.map tD))),none] = .ok (.lst (l.map kD)):=comp_map (f:=tD) (by rw[q2l,q1S,evs1 (x:= .lst (Lx.map tD)) rfl,q00,es];rfl) (λ m _=>q1H (evs2 (x:=nI (q01 m).length) (y:=tD m) (by rw[q1S,evs1 (x:=tD m) rfl,q00,tD,qAO,q0K]) rfl) (by simp)) (by lia);have i:=qCs g hd λ x=>(hm x).trans (hx x);have hdl:=qHP g;have c2:q0U (ev G subC (.var 1)) (tsts G subC []) 2 [some (.val (rD n ws)),some (.val (nI n)),some (.val (.lst (Lx.map tD))),none] ((due n ws).map kD) = .ok (((due n ws).filter λ _=>true).map tD):=q0Z (us:=λ m=>[nI (q01 m).length,tD m]) λ m _=>⟨rfl,rfl,λ _=>rfl⟩
 have d:ev G subC is_d [some (.val (rD n ws)),some (.val (nI n)),some (.val (.lst (Lx.map tD))),none] = .ok (.lst ((due n ws).map tD)):=by rw[is_d,q13,q2l,q1S,evs1 c,q00,q4v,q1i,q00,sort_k hd (by lia),if_pos rfl,i,q00,q1i,q00,c2,q0b,q00,filter_tt,if_pos (by rw[Qe,q0P];lia)]
 refine q17 (ρ:=[some (.val (rD n ws)),some (.val (nI n)),some (.val (.lst (Lx.map tD))),none]) (ρ':=[some (.val (rD n ws)),some (.val (nI n)),some (.val (.lst (Lx.map tD))),some (.val (.lst ((due n ws).map tD)))]) rfl ?_;show exs G subC [.set 3 is_d,.ret is_r] _=_;refine (q06 (ρ':=[some (.val (rD n ws)),some (.val (nI n)),some (.val (.lst (Lx.map tD))),some (.val (.lst ((due n ws).map tD)))]) (by rw[q0O,d,q07];rfl)).trans ?_;refine q1G ?_;have q:=q6r (G:=G) (ρ:=[some (.val (rD n ws)),some (.val (nI n)),some (.val (.lst (Lx.map tD))),some (.val (.lst ((due n ws).map tD)))]) (a:= .bi .isTup [(.var 0)]) (x:=true) rfl (q6r (a:= .cm .eq (.idx (.var 0) (.con (.int 0))) (.var 1)) (x:=true) (q2N (x:=nI n) (y:=nI n) (idxr n ws) rfl (by rw[eq_n,decide_eq_true rfl]))
  (q6r (a:= .cm .eq (.call 32 [(.var 0)]) (.var 3)) (x:=true) (q2N (q3r (x:=rD n ws) rfl e32) (y:= .lst ((due n ws).map tD)) rfl (q8o (qLb _) (qK4 _))) (q2N (b:= .var 0) (q3r (a:= .var 0) (x:=rD n ws) rfl e18) (y:=rD n ws) rfl (q8o (pl_r n ws) (qLd n ws)))))
 rw[q2q,is_r,q,q07];rfl
theorem g_is (o:Own n F ws) (k:Nat) (hL:Lx.length<=1000) (hx:∀x,x∈Lx↔F.testBit x=true):Gm (k+7) 35 [rD n ws,nI n,.lst (Lx.map tD)] = .ok (.bl true) :=
 (q0i (k+6) 35 _ 3 4 q4o rfl rfl).trans (qKE o.good hL (λ x h=>Qn (o.fam.lt x ((hx x).mp h)) (p16 o.fam)) (λ x=>(hx x).trans (o.rch x).symm) (q5S o.good (k+4)) (qHV o k))
end Mk
namespace Mk
open Ev
variable {n F:Nat}{ws vs:List Wn}{G:Nat->List D->R D}
def okW (n:Nat) (w:Wn):Bool:=decide (w.1<n)&&w.2.all λ e=>decide (e<n)
def BadS (n:Nat) (ws:List Wn) (d:D):Prop:=(∃m,m<2^n/\m∉due n ws/\d=tD m)\/d = .tup [nI n]
structure LawJ (G:Nat->List D->R D) (s:D) (n:Nat) (ws vs:List Wn):Prop where
 good:Good n ws
 good':Good n vs
 n4:n<=4
 h1:G 29 [s,nI 0,nI 4] = .ok (rD n ws)
 h2:∃m us,us.length<=60/\(∀w∈us,w.2.length<=1000)/\G 29 [s,nI 110,nI 4] = .ok (rD m us)/\us.filter (okW n)=vs
 h27:∀i:Nat,∃N:Nat,G 27 [s,nI i] = .ok (nI N)
 h28:∀(i:Nat) (o:List Nat),o.length<=7->∃l:List Nat,l.Sublist o/\G 28 [s,nI i,.lst (nL o)] = .ok (.tup (nL l))
 h30:G 30 [nI n] = .ok (.lst ((q16 n).map tD))
 h32:G 32 [rD n ws] = .ok (.lst ((due n ws).map tD))
 h32':G 32 [rD n vs] = .ok (.lst ((due n vs).map tD))
 j:∃F us,Own n F us/\(∀z,F.testBit z=true↔SJ n ws vs z)/\G 34 [nI 0,rD n ws,rD n vs] = .ok (rD n us)
 c:∀B,B<2^n->∃F us,Own n F us/\(∀z,F.testBit z=true↔SC n ws B z)/\G 34 [nI 1,rD n ws,tD B] = .ok (rD n us)
 b:∀B,Rch (nds n ws) B->∃F us,Own n F us/\(∀z,F.testBit z=true↔SB n ws B z)/\G 34 [nI 2,rD n ws,tD B] = .ok (rD n us)
 is:∀F us (L:List Nat),Own n F us->L.length<=1000->(∀x,x∈L↔F.testBit x=true)->G 35 [rD n us,nI n,.lst (L.map tD)] = .ok (.bl true)
 r1:G 34 [nI 0,rD n ws,rD (n+1) []] = .ok sUn
 r2:G 34 [nI 1,rD n ws,.tup [nI n]] = .ok q0w
 r3:∀d,BadS n ws d->G 34 [nI 2,rD n ws,d] = .ok q0w
 w1:G 34 [nI 0,rD n [(n,[])],rD n ws] = .ok q0a
 w2:G 34 [nI 0,rD n ws,rD n [(n,[])]] = .ok q0a
 w3:∀d,G 34 [nI 1,rD n [(n,[])],d] = .ok q0a
 w4:∀d,G 34 [nI 2,rD n [(n,[])],d] = .ok q0a
theorem qHd {m:Nat}{us:List Wn}(hn:n<=4) (g:Good m us) (u:Up us):Good n (us.filter (okW n)):=by refine qCu (by lia) (Qr (QD _ _) g.len) (λ w hw=>?_) (QI.mpr ((QI.mp u).filter _));obtain⟨h1,h2⟩:=QF.mp hw;obtain⟨_,h4,h5⟩:=q8m.mp (g.ok w h1);rw[okW,Qc,decide_eq_true_eq,Qj] at h2;exact⟨h2.1,⟨h4.1,λ x hx=>of_decide_eq_true (h2.2 x hx)⟩,h5⟩
theorem qLg (zs:List Int):∃n ws vs,LawJ (Gm 11) (.lst (iL zs)) n ws vs:=by
 obtain⟨n,ws,hn,g,_,h1⟩:=qA9 7 0 (M:=4) (by decide) zs;obtain⟨m,us,_,g2,u2,h2⟩:=qA9 7 110 (M:=4) (by decide) zs;have g':=qHd hn g2 u2;have bad:BadR (rD n [(n,[])]):=by rw[qJw];exact qHG (w:=toW (n,[])) (by simp) (by simp) (Bool.eq_false_iff.mpr λ h=>Ja _ (q8m.mp h).1)
 have gn:Good (n+1) []:=⟨by lia,by simp,nofun,λ p h=>absurd h (by simp)⟩
 have w13:∀k d,Gm (k+5) 13 [rD n [(n,[])],d] = .err 1:=λ k d=>(q0i (k+4) 13 _ 2 2 q1L rfl rfl).trans (e_13 (q6p bad k));have s13:∀k,Gm (k+5) 13 [rD n ws,.tup [nI n]] = .err 2:=λ k=>(q4b g k [(n:Int)]).trans (if_neg (by rw[show q0p n (-1) [(n:Int)]=false from qEa n 0];simp));refine⟨n,ws,us.filter (okW n),g,g',hn,h1,⟨m,us,g2.len,λ w hw=>by obtain⟨_,h4,_⟩:=q8m.mp (g2.ok w hw);have:=q0g m w.2 (h4.1.imp λ h=>Qy h) h4.2;have:=g2.n5;lia,h2,rfl⟩,λ i=>qHM 9 zs i,(qFM 8 zs).sub,qFE 10 (by lia),q5S g 9,q5S g' 9,?_,λ B hB=>?_,λ B hB=>?_,λ F us L o hL hx=>g_is o 4 hL hx,?_,?_,λ d hd=>?_,?_,?_,λ d=>?_,λ d=>?_⟩
 ·obtain⟨F,us,o,hF,e⟩:=qK8 g hn g' 4 ((q0i 8 22 _ 2 2 q0G rfl rfl).trans ((qK9 (q1o g 4) (q1o g' 4)).trans (if_pos rfl)));exact⟨F,us,o,hF,qD8 9 (w:=0) (by decide) e⟩
 ·obtain⟨F,us,o,hF,e⟩:=qLf g hn 4 hB;exact⟨F,us,o,hF,qD8 9 (w:=1) (by decide) e⟩
 ·obtain⟨F,us,o,hF,e⟩:=qEd g hn 1 hB (qD9 g 1 hB);exact⟨F,us,o,hF,qD8 9 (w:=2) (by decide) e⟩
 ·exact q35 9 (w:=0) (by decide) ((q0i 9 23 _ 2 6 q1b rfl rfl).trans (e_23 ((q0i 8 22 _ 2 2 q0G rfl rfl).trans ((qK9 (q1o g 4) (q1o gn 4)).trans (if_neg (by lia)))))) (qKC 9)
 ·exact q35 9 (w:=1) (by decide) ((q0i 9 24 _ 2 5 q7s rfl rfl).trans (e_24 (s13 4))) (qFI 9)
 ·refine q35 9 (w:=2) (by decide) ((q0i 9 25 _ 2 5 q1y rfl rfl).trans (e_25 ?_)) (qFI 9);rcases hd with ⟨x,hx,hxd,rfl⟩|rfl
  ·exact qEg g 1 hx hxd
  ·exact qFO 1 (s13 1)
 ·exact q35 9 (w:=0) (by decide) ((q0i 9 23 _ 2 6 q1b rfl rfl).trans (e_23 ((q0i 8 22 _ 2 2 q0G rfl rfl).trans (qHY (q6p bad 4))))) (qA4 9)
 ·exact q35 9 (w:=0) (by decide) ((q0i 9 23 _ 2 6 q1b rfl rfl).trans (e_23 ((q0i 8 22 _ 2 2 q0G rfl rfl).trans (qHZ (q1o g 4) (q6p bad 4))))) (qA4 9)
 ·exact q35 9 (w:=1) (by decide) ((q0i 9 24 _ 2 5 q7s rfl rfl).trans (e_24 (w13 4 d))) (qA4 9)
 ·exact q35 9 (w:=2) (by decide) ((q0i 9 25 _ 2 5 q1y rfl rfl).trans (e_25 (qFO 1 (w13 1 d)))) (qA4 9)
end Mk
namespace Mk
open Ev
variable {n:Nat}{ws vs:List Wn}{G:Nat->List D->R D}
def lj_m:L:= .bi .maxT [(.op .add (.sl 0 (.var 0) [] [(.con (.int 1))]) (.idx (.var 0) (.con (.int 1))))]
def lj_o:L:= .comp 0 (.var 0) (.e (.idx (.call 29 [(.var 0),(.con (.int 110)),(.con (.int 4))]) (.con (.int 1)))) [(.e (.cm .lt lj_m (.var 3)))]
def lj_u:L:= .comp 0 (.bi .tuple [(.bi .sortedSet [(.op .add (.var 8) (.var 0))])]) (.e (.var 5)) []
def lj_b:List S:=[.set 6 (.op .add (.var 6) lj_u)]
def lj_f:List S:=[.ret (.con (.bl false))]
def lj_i (w:Int) (a b:L):S:= .ifs (.not (.e (.call 35 [(.call 34 [(.con (.int w)),(.var 1),a]),(.var 2),b]))) lj_f []
def lj_c:L:= .comp 0 (.bi .tuple [(.comp 0 (.var 0) (.e (.var 0)) [(.e (.cm .mem (.var 0) (.var 10)))])]) (.e (.var 4)) []
def lj_p (c:Int) (j:Nat):L:= .idx (.var j) (.op .mod (.call 27 [(.var 0),(.con (.int c))]) (.bi .len [(.var j)]))
def lj_l:L:= .comp 0 (.bi .tuple [(.comp 0 (.var 0) (.e (.var 0)) [(.e (.cm .nmem (.var 0) (.var 9)))])]) (.e (.var 4)) [(.e (.bi .all [(.comp 0 (.cm .mem (.var 0) (.var 1)) (.e (.var 8)) [])]))]
def lj_n:L:= .comp 0 (.var 0) (.e (.call 30 [(.var 2)])) [(.e (.cm .nmem (.var 0) (.var 5)))]
def qHe:L:= .lst [(.call 34 [(.con (.int 0)),(.var 1),(.tup [(.op .add (.var 2) (.con (.int 1))),(.lst [])])]),(.call 34 [(.con (.int 1)),(.var 1),(.tup [(.var 2)])]),(.call 34 [(.con (.int 2)),(.var 1),(.var 11)])]
def lj_d:L:= .lst [(.con (.str "unlike")),(.con (.str "state")),(.con (.str "state"))]
def lj_w:L:= .tup [(.var 2),(.lst [(.tup [(.var 2),(.tup [])])])]
def lj_x:L:= .lst [(.call 34 [(.con (.int 0)),(.var 13),(.var 1)]),(.call 34 [(.con (.int 0)),(.var 1),(.var 13)])]
def lj_y:L:= .comp 0 (.call 34 [(.var 0),(.var 14),(.var 12)]) (.e (.tup [(.con (.int 1)),(.con (.int 2))])) []
def lj_z:L:= .op .mul (.lst [(.con (.str "rules"))]) (.con (.int 4))
theorem qLh:qCU=[.set 1 (.call 29 [(.var 0),(.con (.int 0)),(.con (.int 4))]),.set 2 (.idx (.var 1) (.con (.int 0))),.set 3 (.tup [(.var 2),lj_o]),.set 4 (.call 32 [(.var 1)]),.set 5 (.call 32 [(.var 3)]),.set 6 (.lst []),.forr 0 [7] (.e (.var 4)) lj_b,lj_i 0 (.var 3) (.var 6),
 .set 8 (.call 28 [(.var 0),(.con (.int 200)),(.lrng [(.var 2)])]),lj_i 1 (.var 8) lj_c,.set 7 (lj_p 201 4),.set 9 lj_l,lj_i 2 (.var 7) (.var 9),.set 10 (.op .add lj_n (.lst [(.tup [(.var 2)])])),.set 11 (lj_p 202 10),.set 12 qHe,.ifs (.e (.cm .ne (.var 12) lj_d)) lj_f [],.set 13 lj_w,.set 12 lj_x,.ret (.cm .eq (.op .add (.var 12) lj_y) lj_z)]:=rfl
noncomputable def ljE (s:D) (n:Nat) (ws vs:List Wn) (a b c d e f g h:Option Sl):Env:=[some (.val s),some (.val (rD n ws)),some (.val (nI n)),some (.val (rD n vs)),some (.val (.lst ((due n ws).map tD))),some (.val (.lst ((due n vs).map tD))),a,b,c,d,e,f,g,h]
theorem q8t {x y:List D}(h:x.length+y.length<=1000000):opD .add (.lst x) (.lst y) = .ok (.lst (x++y)):=by unfold opD;dsimp only[addD,lstD];rw[if_pos (show x.length+y.length<=big by rw[q0P];exact h)]
theorem q6h {x y:List D}(h:x.length+y.length<=1000000):opD .add (.tup x) (.tup y) = .ok (.tup (x++y)):=by unfold opD;dsimp only[addD,tupD];rw[if_pos (show x.length+y.length<=big by rw[q0P];exact h)]
theorem qDA (m:Int):∀(l:List Int) (b:Int),q4d l b<m↔b<m/\∀x∈l,x<m
 |[],b=>by simp[q4d]
 |x::l,b=>by rw[q4d,qDA m l,Q1,<-and_assoc];refine and_congr_left λ _=>?_;split<;>lia
theorem qHf {ρ:Env}{w:Wn}(hw:w.2.length<=1000):ev G subC lj_m (some (.val (wD w))::ρ) = .ok (.int (q4d (w.2.map λ (a:Nat)=>(a:Int)) w.1)):=by
 have v0:ev G subC (.var 0) (some (.val (wD w))::ρ) = .ok (wD w):=rfl;have a1:ev G subC (.sl 0 (.var 0) [] [(.con (.int 1))]) (some (.val (wD w))::ρ) = .ok (.tup [nI w.1]):=by rw[qDU,v0,q00,q0c,q00,evs1 (x:= .int 1) rfl,q00];rfl
 have a2:ev G subC (.idx (.var 0) (.con (.int 1))) (some (.val (wD w))::ρ) = .ok (.tup (nL w.2)):=by rw[q3I,v0,q00,q0M,q00];exact idx1 _ _ _
 have a3:ev G subC (.op .add (.sl 0 (.var 0) [] [(.con (.int 1))]) (.idx (.var 0) (.con (.int 1)))) (some (.val (wD w))::ρ) = .ok (.tup (nL (w.1::w.2))):=by rw[q0h,a1,q00,a2,q00,q6h (by rw[q0K,Jd];lia)];rfl
 rw[lj_m,q1S,evs1 a3,q00];show maxD (nL (w.1::w.2))=_;rw[maxD,qBO];rfl
end Mk
namespace Mk
open Ev
variable {ρ:Env}
variable {n:Nat}{ws vs:List Wn}{G:Nat->List D->R D}{s:D}
section
variable (g:Good n ws) (hn:n<=4)
include g hn
theorem qAi {m:Nat}(h:m∈due n ws):m<16:=qAh g hn ((q1p g m).mp h)
theorem q8u:(due n ws).length<=16:=q0g 16 _ ((q1f g.n5).filter _) λ m h=>qAi g hn h
end
theorem qFQ {o:Cm}{j m r:Nat}{p:Nat->Bool}(hm:ev G subC (.var 0) ρ = .ok (tD m)) (h16:m<16) (hc:∀t,ev G subC (.cm o (.var 0) (.var j)) (some (.val (nI t))::ρ) = .ok (.bl (p t))) (hb:∀t,r.testBit t=(m.testBit t&&p t)) :
  ev G subC (.bi .tuple [(.comp 0 (.var 0) (.e (.var 0)) [(.e (.cm o (.var 0) (.var j)))])]) ρ = .ok (tD r):=by
 have it:evi G subC (.e (.var 0)) ρ = .ok ((q01 m).map nI):=by rw[q2l,hm,q00];rfl
 have c:q0U (ev G subC (.var 0)) (tsts G subC [(.e (.cm o (.var 0) (.var j)))]) 0 ρ ((q01 m).map nI) = .ok (((q01 m).filter p).map nI):=q0Z (us:=λ x=>[nI x]) λ t ht=>by refine⟨rfl,?_,λ _=>rfl⟩;show tsts G subC _ (some (.val (nI t))::ρ)=_;rw[q1Q,q3o (hc t),q00,q1v];cases p t<;>rfl
 have hl:((q01 m).filter p).length<=5:=Qr (QD _ _) (q3l (by lia));have e:(q01 m).filter p=q01 r:=q6n ((q3p m).filter _) (q3p r) λ t=>by rw[QF,q03,q03,hb,Qc]
 rw[q1S,evs1 (x:= .lst (nL (q01 r))) (by rw[q13,it,q00,c,q0b,q00,if_pos (by rw[Qe,q0P];lia),e];rfl),q00,q1w];rfl
theorem qDB (t m:Nat):decide (t∈q01 m)=m.testBit t:=by rw[QE,decide_eq_true_eq,q03]
theorem qDC (g':Good n vs) (hn:n<=4):∀(l acc:List Nat) (x:Option Sl),(∀a∈l,a<16)->acc.length+16*l.length<=1000->
  ∃x',q0z (exs G subC lj_b) 0 [7] (l.map tD) (ljE s n ws vs (some (.val (.lst (acc.map tD)))) x none none none none none none) = .ok (ljE s n ws vs (some (.val (.lst ((acc++l.flatMap λ a=>(due n vs).map (a ||| ·)).map tD)))) x' none none none none none none) .nx
 |[],acc,x,_,_=>⟨x,by rw[List.flatMap_nil,Q2];rfl⟩
 |a::l,acc,x,h,hl=>by
  rw[Qu] at hl;have ha:=h a Qb;have hd:=q8u g' hn;obtain⟨x',e⟩:=qDC g' hn l (acc++(due n vs).map (a ||| ·)) (some (.val (tD a))) (λ b hb=>h b (Qa _ hb)) (by rw[QA,Qe];lia);refine⟨x',?_⟩;generalize hρ:ljE s n ws vs (some (.val (.lst (acc.map tD)))) (some (.val (tD a))) none none none none none none=ρ;have c:ev G subC lj_u ρ = .ok (.lst ((due n vs).map λ b=>tD (a ||| b))):=comp_map (f:=tD) (by rw[q2l,<-hρ];rfl) (λ b hb=>by
   have hb:=qAi g' hn hb;have q:ev G subC (.op .add (.var 8) (.var 0)) (some (.val (tD b))::ρ) = .ok (.tup (nL (q01 a++q01 b))):=by have:=q3l (m:=a) (by lia);have:=q3l (m:=b) (by lia);rw[q0h,show ev G subC (.var 8) (some (.val (tD b))::ρ) = .ok (tD a) by rw[<-hρ];rfl,q00,show ev G subC (.var 0) (some (.val (tD b))::ρ) = .ok (tD b) from rfl,q00,tD,tD,q6h (by rw[q0K,q0K];lia),q7G]
   rw[q1S,evs1 (x:= .lst (nL (q01 (a ||| b)))) (by rw[q1S,evs1 q,q00,qCw (by lia) (by lia)]),q00,q1w];rfl) (by lia)
  have st:exs G subC lj_b ρ = .ok (ljE s n ws vs (some (.val (.lst ((acc++(due n vs).map (a ||| ·)).map tD)))) (some (.val (tD a))) none none none none none none) .nx:=by refine q06 (l:=[]) ?_;rw[q0O,q0h,show ev G subC (.var 6) ρ = .ok (.lst (acc.map tD)) by rw[<-hρ];rfl,q00,c,q00,q8t (by rw[Qe,Qe];lia),q07,Js,Jg,<-hρ];rfl
  rw[Qv,q0L,show List.set (ljE s n ws vs (some (.val (.lst (acc.map tD)))) x none none none none none none) 7 (some (.val (tD a)))=ρ from hρ,st,q21,e,List.flatMap_cons,Jv]
theorem qHg {w:Nat}{a b:L}{x:D}{us:List Wn}{Lx:List D}(h1:ev G subC (.var 1) ρ = .ok (rD n ws)) (h2:ev G subC (.var 2) ρ = .ok (nI n)) (ha:ev G subC a ρ = .ok x) (hb:ev G subC b ρ = .ok (.lst Lx)) (e:G 34 [nI w,rD n ws,x] = .ok (rD n us)) (q:G 35 [rD n us,nI n,.lst Lx] = .ok (.bl true)):ex G subC (lj_i w a b) ρ = .ok ρ .nx :=
 qK5 (by rw[q8Q,q3o (q0v (q0v (x:=nI w) rfl h1 ha e) h2 hb q),q00];rfl)
theorem qDD {j c:Nat}{l:List D}(hs:ev G subC (.var 0) ρ = .ok s) (hl:ev G subC (.var j) ρ = .ok (.lst l)) (hne:l≠[]) (hm:∃N:Nat,G 27 [s,nI c] = .ok (nI N)):∃d∈l,ev G subC (lj_p c j) ρ = .ok d:=by
 obtain⟨N,hm⟩:=hm;have hlen:0<l.length:=List.length_pos_iff.mpr hne;have hlt:=Nat.mod_lt N hlen;refine⟨l[N % l.length],QT _,?_⟩;have e1:ev G subC (.call 27 [(.var 0),(.con (.int c))]) ρ = .ok (nI N):=q0u hs (y:=nI c) rfl hm;have e2:ev G subC (.bi .len [(.var j)]) ρ = .ok (nI l.length):=by rw[q1S,evs1 hl,q00,q3x]
 rw[lj_p,q3I,hl,q00,q0h,e1,q00,e2,q00,qBL N _ hlen,q00];exact q7J _ _ _ (Ql hlt)
theorem qEh (H:LawJ G s n ws vs):Ev.run G subC 14 qCU [s] = .ok (.bl true):=by
 have g:=H.good;have g':=H.good';have hn:=H.n4;have hd:=q8u g hn;obtain⟨m2,us2,hul,huw,h2,hvs⟩:=H.h2;have s1:ex G subC (.set 1 (.call 29 [(.var 0),(.con (.int 0)),(.con (.int 4))])) [some (.val s),none,none,none,none,none,none,none,none,none,none,none,none,none] = .ok [some (.val s),some (.val (rD n ws)),none,none,none,none,none,none,none,none,none,none,none,none] .nx:=by rw[q0O,q0v (x:=s) (y:=nI 0) (z:=nI 4) rfl rfl rfl H.h1,q07];rfl
 have s2:ex G subC (.set 2 (.idx (.var 1) (.con (.int 0)))) [some (.val s),some (.val (rD n ws)),none,none,none,none,none,none,none,none,none,none,none,none] = .ok [some (.val s),some (.val (rD n ws)),some (.val (nI n)),none,none,none,none,none,none,none,none,none,none,none] .nx:=by rw[q0O,q3I,show ev G subC (.var 1) _ = .ok (rD n ws) from rfl,q00,q0M,q00,idxr,q07];rfl
 have s3:ex G subC (.set 3 (.tup [(.var 2),lj_o])) [some (.val s),some (.val (rD n ws)),some (.val (nI n)),none,none,none,none,none,none,none,none,none,none,none] = .ok [some (.val s),some (.val (rD n ws)),some (.val (nI n)),some (.val (rD n vs)),none,none,none,none,none,none,none,none,none,none] .nx:=by
  generalize hρ:([some (.val s),some (.val (rD n ws)),some (.val (nI n)),none,none,none,none,none,none,none,none,none,none,none]:Env)=ρ;have i1:idxD (rD m2 us2) (.int 1) = .ok (.lst (us2.map wD)):=idx1 _ _ _;have it:evi G subC (.e (.idx (.call 29 [(.var 0),(.con (.int 110)),(.con (.int 4))]) (.con (.int 1)))) ρ = .ok (us2.map wD):=by rw[q2l,q3I,q0v (x:=s) (y:=nI 110) (z:=nI 4) (by rw[<-hρ];rfl) rfl rfl h2,q00,q0M,q00,i1,q00,q1i]
  have c:q0U (ev G subC (.var 0)) (tsts G subC [(.e (.cm .lt lj_m (.var 3)))]) 0 ρ (us2.map wD) = .ok ((us2.filter (okW n)).map wD):=q0Z (us:=λ w=>[wD w]) λ w hw=>by
   refine⟨rfl,?_,λ _=>rfl⟩;show tsts G subC _ (some (.val (wD w))::ρ)=_;have e:decide (q4d (w.2.map λ (a:Nat)=>(a:Int)) w.1<n)=okW n w:=by rw[okW,QE,decide_eq_true_eq,qDA,Qc,decide_eq_true_eq,Qj,List.forall_mem_map];refine and_congr (by lia) (forall_congr' λ x=>forall_congr' λ _=>by rw[decide_eq_true_eq];lia)
   rw[q1Q,q3o (q2N (qHf (huw w hw)) (y:= .int n) (by rw[<-hρ];rfl) (lt_i _ _)),q00,q1v,e];cases okW n w<;>rfl
  have e:ev G subC lj_o ρ = .ok (.lst (vs.map wD)):=by rw[lj_o,q13,it,q00,c,q0b,q00,hvs,if_pos (by rw[Qe,q0P,<-hvs];have:=QD (okW n) us2;lia)]
  rw[q0O,q1H (evs2 (x:=nI n) (by rw[<-hρ];rfl) e) (by simp),q07,<-hρ];rfl
 have s4:ex G subC (.set 4 (.call 32 [(.var 1)])) [some (.val s),some (.val (rD n ws)),some (.val (nI n)),some (.val (rD n vs)),none,none,none,none,none,none,none,none,none,none] = .ok [some (.val s),some (.val (rD n ws)),some (.val (nI n)),some (.val (rD n vs)),some (.val (.lst ((due n ws).map tD))),none,none,none,none,none,none,none,none,none] .nx:=by rw[q0O,q3r (x:=rD n ws) rfl H.h32,q07];rfl
 have s5:ex G subC (.set 5 (.call 32 [(.var 3)])) [some (.val s),some (.val (rD n ws)),some (.val (nI n)),some (.val (rD n vs)),some (.val (.lst ((due n ws).map tD))),none,none,none,none,none,none,none,none,none] = .ok (ljE s n ws vs none none none none none none none none) .nx:=by rw[q0O,q3r (x:=rD n vs) rfl H.h32',q07];rfl
 have s6:ex G subC (.set 6 (.lst [])) (ljE s n ws vs none none none none none none none none) = .ok (ljE s n ws vs (some (.val (.lst (List.map tD [])))) none none none none none none none) .nx:=by rw[q0O,q1N (q0c _) (by simp),q07];rfl
 obtain⟨x7,e7⟩:=qDC (G:=G) (s:=s) (ws:=ws) g' hn (due n ws) [] none (λ a h=>qAi g hn h) (by rw[Q4];lia);rw[List.nil_append] at e7;generalize hL:((due n ws).flatMap λ a=>(due n vs).map (a ||| ·))=L at e7;have s7:ex G subC (.forr 0 [7] (.e (.var 4)) lj_b) (ljE s n ws vs (some (.val (.lst (List.map tD [])))) none none none none none none none) = .ok (ljE s n ws vs (some (.val (.lst (L.map tD)))) x7 none none none none none none) .nx:=by rw[q1C,q2l,show ev G subC (.var 4) _ = .ok (.lst ((due n ws).map tD)) from rfl,q00,q1i,q07,e7]
 have hLl:L.length<=256:=by
  have:∀l:List Nat,(l.flatMap λ a=>(due n vs).map (a ||| ·)).length<=16*l.length:=λ l=>by
   induction l with
   |nil=>simp
   |cons a l ih =>
    have:=q8u g' hn;rw[List.flatMap_cons,QA,Qe,Qu];lia
  have:=this (due n ws);rw[hL] at this;lia
 obtain⟨F,us,o,hF,e34⟩:=H.j;have s8:ex G subC (lj_i 0 (.var 3) (.var 6)) (ljE s n ws vs (some (.val (.lst (L.map tD)))) x7 none none none none none none) = .ok (ljE s n ws vs (some (.val (.lst (L.map tD)))) x7 none none none none none none) .nx :=
  qHg (w:=0) rfl rfl rfl rfl e34 (H.is F us L o (by lia) λ x=>by rw[hF,<-hL];simp only[List.mem_flatMap,Qg,q1p g,q1p g'];exact⟨λ⟨a,ha,b,hb,e⟩=>⟨a,ha,b,hb,e.symm⟩,λ⟨a,ha,b,hb,e⟩=>⟨a,ha,b,hb,e.symm⟩⟩)
 generalize hx6:some (Sl.val (.lst (L.map tD)))=x6 at s7 s8;obtain⟨l,hl,e28⟩:=H.h28 200 (Qk n) (by rw[QK];lia);have hli:l.Pairwise (· < ·):=List.pairwise_lt_range.sublist hl;generalize hB:q04 0 l=B;have hlB:q01 B=l:=by rw[<-hB,q5R hli]
 have hBn:B<2^n:=q66 λ i hi=>Qw.mp (hl.subset (by rw[<-hlB];exact q03.mpr hi));have s9:ex G subC (.set 8 (.call 28 [(.var 0),(.con (.int 200)),(.lrng [(.var 2)])])) (ljE s n ws vs x6 x7 none none none none none none) = .ok (ljE s n ws vs x6 x7 (some (.val (tD B))) none none none none none) .nx:=by
  have a2:ev G subC (.lrng [(.var 2)]) (ljE s n ws vs x6 x7 none none none none none none) = .ok (.lst (nL (Qk n))):=by rw[qBF,evs1 (x:=nI n) rfl,q00,q4T n (by lia),q00,if_pos (by rw[q0K,QK,q0P];lia)]
  rw[q0O,q0v (x:=s) (y:=nI 200) rfl rfl a2 e28,q07,tD,hlB];rfl
 have c10:ev G subC lj_c (ljE s n ws vs x6 x7 (some (.val (tD B))) none none none none none) = .ok (.lst (((due n ws).map (· &&& B)).map tD)):=by rw[Jg];exact comp_map (f:=tD) rfl (λ m hm=>qFQ (p:=λ t=>decide (t∈q01 B)) rfl (qAi g hn hm) (λ t=>q2N (x:=nI t) (y:=tD B) rfl rfl (qFF t _)) λ t=>by rw[Jj,qDB]) (by lia)
 obtain⟨F2,us2',o2,hF2,e34b⟩:=H.c B hBn;have s10:ex G subC (lj_i 1 (.var 8) lj_c) (ljE s n ws vs x6 x7 (some (.val (tD B))) none none none none none) = .ok (ljE s n ws vs x6 x7 (some (.val (tD B))) none none none none none) .nx :=
  qHg (w:=1) rfl rfl rfl c10 e34b (H.is F2 us2' _ o2 (by rw[Qe];lia) λ x=>by rw[hF2,Qg];exact⟨λ⟨a,ha,e⟩=>⟨a,(q1p g a).mp ha,e.symm⟩,λ⟨a,ha,e⟩=>⟨a,(q1p g a).mpr ha,e.symm⟩⟩)
 generalize hx8:some (Sl.val (tD B))=x8 at s9 s10;have hd0:(due n ws).map tD≠[]:=by have:=(q1p g 0).mpr .z;intro z;rw[List.map_eq_nil_iff.mp z] at this;cases this
 obtain⟨d,hd11,e11⟩:=qDD (G:=G) (ρ:=ljE s n ws vs x6 x7 x8 none none none none none) (j:=4) (c:=201) rfl rfl hd0 (H.h27 201);obtain⟨K,hK,rfl⟩:=Qg.mp hd11;have rK:=(q1p g K).mp hK;have s11:ex G subC (.set 7 (lj_p 201 4)) (ljE s n ws vs x6 x7 x8 none none none none none) = .ok (ljE s n ws vs x6 (some (.val (tD K))) x8 none none none none none) .nx:=by rw[q0O];refine (congrArg (λ z:R D=>z.go _ _) e11).trans ?_;rfl
 have s12:ex G subC (.set 9 lj_l) (ljE s n ws vs x6 (some (.val (tD K))) x8 none none none none none) = .ok (ljE s n ws vs x6 (some (.val (tD K))) x8 (some (.val (.lst ((((due n ws).filter λ a=>(q01 K).all λ e=>decide (e∈q01 a)).map (· ^^^ K)).map tD)))) none none none none) .nx:=by
  generalize hρ:ljE s n ws vs x6 (some (.val (tD K))) x8 none none none none none=ρ;have c:q0U (ev G subC (.bi .tuple [(.comp 0 (.var 0) (.e (.var 0)) [(.e (.cm .nmem (.var 0) (.var 9)))])])) (tsts G subC [(.e (.bi .all [(.comp 0 (.cm .mem (.var 0) (.var 1)) (.e (.var 8)) [])]))]) 0 ρ ((due n ws).map tD) = .ok (((due n ws).filter λ a=>(q01 K).all λ e=>decide (e∈q01 a)).map λ a=>tD (a ^^^ K)):=q0Z (us:=λ a=>[tD a]) λ a ha=>by
   refine⟨rfl,?_,λ q=>?_⟩
   ·show tsts G subC _ (some (.val (tD a))::ρ)=_;rw[q1Q,q3o (qA2 8 0 (q01 K) (q01 a) (by have:=q3l (m:=K) (by have:=qAi g hn hK;lia);lia) (by rw[<-hρ];rfl) rfl),q00,q1v];cases (q01 K).all λ e=>decide (e∈q01 a)<;>rfl
   ·have sK:Sm K a:=λ i hi=>q03.mp (of_decide_eq_true (Qj.mp q i (q03.mpr hi)));exact qFQ (p:=λ t=>!decide (t∈q01 K)) rfl (qAi g hn ha) (λ t=>q2N (x:=nI t) (y:=tD K) rfl (by rw[<-hρ];rfl) (qCq t _)) λ t=>by rw[q5V sK,qDB]
  have it:evi G subC (.e (.var 4)) ρ = .ok ((due n ws).map tD):=by rw[<-hρ];rfl
  rw[q0O,lj_l,q13,it,q00,c,q0b,q00,if_pos (by rw[Qe,q0P];have:=QD (λ a=>(q01 K).all λ e=>decide (e∈q01 a)) (due n ws);lia),q07,<-hρ,Jg];rfl
 obtain⟨F3,us3,o3,hF3,e34c⟩:=H.b K rK;have s13:ex G subC (lj_i 2 (.var 7) (.var 9)) (ljE s n ws vs x6 (some (.val (tD K))) x8 (some (.val (.lst ((((due n ws).filter λ a=>(q01 K).all λ e=>decide (e∈q01 a)).map (· ^^^ K)).map tD)))) none none none none) = .ok (ljE s n ws vs x6 (some (.val (tD K))) x8 (some (.val (.lst ((((due n ws).filter λ a=>(q01 K).all λ e=>decide (e∈q01 a)).map (· ^^^ K)).map tD)))) none none none none) .nx :=
  qHg (w:=2) rfl rfl rfl rfl e34c (H.is F3 us3 _ o3 (by rw[Qe];have:=QD (λ a=>(q01 K).all λ e=>decide (e∈q01 a)) (due n ws);lia) λ x=>by
   rw[hF3,Qg];constructor
   ·rintro⟨a,ha,e⟩;obtain⟨h1,h2⟩:=QF.mp ha;exact⟨a,(q1p g a).mp h1,λ i hi=>q03.mp (of_decide_eq_true (Qj.mp h2 i (q03.mpr hi))),e.symm⟩
   ·rintro⟨a,ha,sa,e⟩;exact⟨a,QF.mpr ⟨(q1p g a).mpr ha,Qj.mpr λ i hi=>decide_eq_true (q03.mpr (sa i (q03.mp hi)))⟩,e.symm⟩)
 generalize hx7:some (Sl.val (tD K))=x7' at s11 s12 s13;generalize hx9:some (Sl.val (.lst ((((due n ws).filter λ a=>(q01 K).all λ e=>decide (e∈q01 a)).map (· ^^^ K)).map tD)))=x9 at s12 s13;generalize hbl:((q16 n).filter (λ x=>!decide (x∈due n ws))).map tD++[.tup [nI n]]=bl;have hslen:(q16 n).length<=32:=Qr (q0g (2^n) _ (q1f g.n5) λ x hx=>(q2F g.n5 x).mp hx) (Qr (QN (by decide) g.n5) (by decide));have s14:ex G subC (.set 10 (.op .add lj_n (.lst [(.tup [(.var 2)])]))) (ljE s n ws vs x6 x7' x8 x9 none none none none) = .ok (ljE s n ws vs x6 x7' x8 x9 (some (.val (.lst bl))) none none none) .nx:=by
  generalize hρ:ljE s n ws vs x6 x7' x8 x9 none none none none=ρ;have v2:ev G subC (.var 2) ρ = .ok (nI n):=by rw[<-hρ];rfl
  have c1:evi G subC (.e (.call 30 [(.var 2)])) ρ = .ok ((q16 n).map tD):=by rw[q2l,q3r v2 H.h30,q00,q1i]
  have c2:q0U (ev G subC (.var 0)) (tsts G subC [(.e (.cm .nmem (.var 0) (.var 5)))]) 0 ρ ((q16 n).map tD) = .ok (((q16 n).filter λ x=>!decide (x∈due n ws)).map tD) :=
   q0Z (us:=λ x=>[tD x]) λ x hx=>by refine⟨rfl,?_,λ _=>rfl⟩;show tsts G subC _ (some (.val (tD x))::ρ)=_;rw[q1Q,q3o (q2N (x:=tD x) (y:= .lst ((due n ws).map tD)) rfl (by rw[<-hρ];rfl) (qCr x (due n ws))),q00,q1v];cases (!decide (x∈due n ws))<;>rfl
  have b1:(((q16 n).filter λ x=>!decide (x∈due n ws)).map tD).length<=32:=by rw[Qe];exact Qr (QD _ _) hslen
  rw[q0O,q0h,lj_n,q13,c1,q00,c2,q0b,q00,if_pos (by rw[q0P];lia),q00,q1N (evs1 (q1H (evs1 v2) (by simp))) (by simp),q00,q8t (by rw[Jd];lia),hbl,q07,<-hρ];rfl
 obtain⟨bad,hbad,e15⟩:=qDD (G:=G) (ρ:=ljE s n ws vs x6 x7' x8 x9 (some (.val (.lst bl))) none none none) (j:=10) (c:=202) rfl rfl (by rw[<-hbl];simp) (H.h27 202);have s15:ex G subC (.set 11 (lj_p 202 10)) (ljE s n ws vs x6 x7' x8 x9 (some (.val (.lst bl))) none none none) = .ok (ljE s n ws vs x6 x7' x8 x9 (some (.val (.lst bl))) (some (.val bad)) none none) .nx:=by rw[q0O];refine (congrArg (λ z:R D=>z.go _ _) e15).trans ?_;rfl
 have hbs:BadS n ws bad:=by
  rw[<-hbl] at hbad;rcases Qq.mp hbad with h|h
  ·obtain⟨y,hy,rfl⟩:=Qg.mp h;obtain⟨hy1,hy2⟩:=QF.mp hy;exact .inl ⟨y,(q2F g.n5 y).mp hy1,by simpa using hy2,rfl⟩
  ·exact .inr (Qs.mp h)
 generalize hx10:some (Sl.val (.lst bl))=x10 at s14 s15;have s16:ex G subC (.set 12 qHe) (ljE s n ws vs x6 x7' x8 x9 x10 (some (.val bad)) none none) = .ok (ljE s n ws vs x6 x7' x8 x9 x10 (some (.val bad)) (some (.val (.lst [sUn,q0w,q0w]))) none) .nx:=by
  generalize hρ:ljE s n ws vs x6 x7' x8 x9 x10 (some (.val bad)) none none=ρ;have v1:ev G subC (.var 1) ρ = .ok (rD n ws):=by rw[<-hρ];rfl
  have v2:ev G subC (.var 2) ρ = .ok (nI n):=by rw[<-hρ];rfl
  have a1:ev G subC (.tup [(.op .add (.var 2) (.con (.int 1))),(.lst [])]) ρ = .ok (rD (n+1) []):=q1H (evs2 (x:=nI (n+1)) (by rw[q0h,v2,q00,q0M,q00];exact add_n n 1) (q1N (q0c _) (by simp))) (by simp);have c1:=q0v (a:= .con (.int 0)) (x:=nI 0) rfl v1 a1 H.r1;have c2:=q0v (a:= .con (.int 1)) (x:=nI 1) rfl v1 (q1H (evs1 v2) (by simp)) H.r2;have c3:=q0v (a:= .con (.int 2)) (x:=nI 2) (c:= .var 11) rfl v1 (by rw[<-hρ];rfl) (H.r3 bad hbs);rw[q0O,qHe,q1N (by rw[q0H,c1,q00,evs2 c2 c3,q00]) (by simp),q07,<-hρ];rfl
 have s17:ex G subC (.ifs (.e (.cm .ne (.var 12) lj_d)) lj_f []) (ljE s n ws vs x6 x7' x8 x9 x10 (some (.val bad)) (some (.val (.lst [sUn,q0w,q0w]))) none) = .ok (ljE s n ws vs x6 x7' x8 x9 x10 (some (.val bad)) (some (.val (.lst [sUn,q0w,q0w]))) none) .nx :=
  qK5 (q3o (q2N (x:= .lst [sUn,q0w,q0w]) (y:= .lst [sUn,q0w,q0w]) rfl (q1N (by rw[q0H,q0M,q00,evs2 (x:=q0w) (y:=q0w) rfl rfl,q00];rfl) (by simp)) (qHO rfl (by simp[eqb,eqbL,sUn,q0w]))))
 have s18:ex G subC (.set 13 lj_w) (ljE s n ws vs x6 x7' x8 x9 x10 (some (.val bad)) (some (.val (.lst [sUn,q0w,q0w]))) none) = .ok (ljE s n ws vs x6 x7' x8 x9 x10 (some (.val bad)) (some (.val (.lst [sUn,q0w,q0w]))) (some (.val (rD n [(n,[])])))) .nx:=by rw[q0O,lj_w,q1H (evs2 (x:=nI n) rfl (q1N (evs1 (q1H (evs2 (x:=nI n) rfl (q1H (q0c _) (by simp))) (by simp))) (by simp))) (by simp),q07];rfl
 have s19:ex G subC (.set 12 lj_x) (ljE s n ws vs x6 x7' x8 x9 x10 (some (.val bad)) (some (.val (.lst [sUn,q0w,q0w]))) (some (.val (rD n [(n,[])])))) = .ok (ljE s n ws vs x6 x7' x8 x9 x10 (some (.val bad)) (some (.val (.lst [q0a,q0a]))) (some (.val (rD n [(n,[])])))) .nx:=by rw[q0O,lj_x,q1N (evs2 (q0v (x:=nI 0) (y:=rD n [(n,[])]) (z:=rD n ws) rfl rfl rfl H.w1) (q0v (x:=nI 0) (y:=rD n ws) (z:=rD n [(n,[])]) rfl rfl rfl H.w2)) (by simp),q07];rfl
 generalize hρ:ljE s n ws vs x6 x7' x8 x9 x10 (some (.val bad)) (some (.val (.lst [q0a,q0a]))) (some (.val (rD n [(n,[])])))=ρ at s19;have s20:ex G subC (.ret (.cm .eq (.op .add (.var 12) lj_y) lj_z)) ρ = .ok ρ (.ret (.bl true)):=by
  have cy:ev G subC lj_y ρ = .ok (.lst ([1,2].map λ (_:Nat)=>q0a)):=qCx (f:=nI) (by rw[q2l,q1H (ds:=nL [1,2]) rfl (by simp),q00];rfl) (λ w hw=>by
   have v14:ev G subC (.var 14) (some (.val (nI w))::ρ) = .ok (rD n [(n,[])]):=(by rw[<-hρ];rfl);have v12:ev G subC (.var 12) (some (.val (nI w))::ρ) = .ok bad:=(by rw[<-hρ];rfl);rcases Qf.mp hw with rfl|hw
   ·exact q0v (x:=nI 1) rfl v14 v12 (H.w3 bad)
   ·rw[Qs.mp hw];exact q0v (x:=nI 2) rfl v14 v12 (H.w4 bad)) (by simp)
  have c1:ev G subC (.op .add (.var 12) lj_y) ρ = .ok (.lst [q0a,q0a,q0a,q0a]):=by rw[q0h,show ev G subC (.var 12) ρ = .ok (.lst [q0a,q0a]) by rw[<-hρ];rfl,q00,cy,q00,q8t (by simp)];rfl
  have m3:opD .mul (.lst [q0a]) (.int 4) = .ok (.lst [q0a,q0a,q0a,q0a]):=by unfold opD mulD;dsimp only[intD];rw[if_pos (by decide)];rfl
  have c2:ev G subC lj_z ρ = .ok (.lst [q0a,q0a,q0a,q0a]):=by have h1:ev G subC (.lst [(.con (.str "rules"))]) ρ = .ok (.lst [q0a]):=q1N (evs1 rfl) (by simp);rw[lj_z,q0h,h1,q00,q0M,q00,m3]
  rw[q2q,q2N c1 c2 (q8o rfl (by simp[eqb,eqbL,q0a])),q07]
 refine q17 (ρ:=[some (.val s),none,none,none,none,none,none,none,none,none,none,none,none,none]) (ρ':=ρ) rfl ?_;rw[qLh,q06 s1,q06 s2,q06 s3,q06 s4,q06 s5,q06 s6,q06 s7,q06 s8,q06 s9,q06 s10,q06 s11,q06 s12,q06 s13,q06 s14,q06 s15,q06 s16,q06 s17,q06 s18,q06 s19];exact q1G s20
theorem qKF (zs:List Int):Gm 12 36 [.lst (zs.map D.int)] = .ok (.bl true):=by obtain⟨n,ws,vs,H⟩:=qLg zs;exact (q0i 11 36 _ 1 14 qCU rfl rfl).trans (qEh H)
end Mk
namespace Tk
open PySem PySem.W L2 Ev Snd
def top (i:Nat):Stmt:=PySem.Challenge.pw_learnyard_k40_whole_joined.main.body.getD i (.Pass ⟨0,0,0,0⟩)
def q5Y:DefI:=⟨"mask_of",top 1,["things", "mask", "thing"],["things"],[],[],Mk.q7r⟩
def q36:DefI:=⟨"things_of",top 2,["mask"],["mask"],[],[],Mk.q5K⟩
def q8v:DefI:=⟨"holds",top 3,["mask", "thing"],["mask", "thing"],[],[],Mk.qCT⟩
def q2G:DefI:=⟨"mask_of_all",top 4,["count"],["count"],[],[],Mk.q3c⟩
def q4I:DefI:=⟨"needs_of",top 5,["rules", "needs", "way"],["rules"],["needs"],["needs"],Mk.q63⟩
def q37:DefI:=⟨"may_learn",top 6,["needs", "known", "thing", "needed"],["needs", "known", "thing"],[],[],Mk.q5L⟩
def q2H:DefI:=⟨"next_within",top 7,["needs", "known", "bounds"],["needs", "known", "bounds"],[],[],Mk.q3d⟩
def q2I:DefI:=⟨"core_within",top 8,["needs", "bounds", "known", "later"],["needs", "bounds"],[],[],Mk.q3e⟩
def q1q:DefI:=⟨"states_within",top 9,["needs", "bounds", "found", "waiting", "known", "thing", "larger"],["needs", "bounds"],["waiting", "found"],[],Mk.q2Y⟩
def q4J:DefI:=⟨"is_whole",top 20,["value"],["value"],[],[],Mk.q2k⟩
def q6s:DefI:=⟨"is_set",top 21,["count", "things", "ahead", "thing"],["count", "things"],[],[],Mk.q9t⟩
def q2c:DefI:=⟨"look_rules",top 22,["rules", "count", "ways", "way", "place"],["rules"],[],[],Mk.q4Z⟩
def q4K:DefI:=⟨"look_way",top 23,["count", "way", "thing", "needed"],["count", "way"],[],[],Mk.q19⟩
def q4L:DefI:=⟨"look_set",top 24,["rules", "things"],["rules", "things"],[],[],Mk.q1L⟩
def q2d:DefI:=⟨"look_state",top 25,["rules", "state"],["rules", "state"],[],[],Mk.q0Q⟩
def q1O:DefI:=⟨"masks_of_states",top 26,["rules"],["rules"],[],[],Mk.q0s⟩
def q4M:DefI:=⟨"is_state",top 27,["rules", "things"],["rules", "things"],[],[],Mk.q1M⟩
def qDE:DefI:=⟨"core",top 28,["rules", "things"],["rules", "things"],[],[],Mk.q5M⟩
def q8w:DefI:=⟨"paths",top 30,["rules", "found"],["rules"],[],[],Mk.q8g⟩
def q4N:DefI:=⟨"paths_of",top 31,["count", "found", "ways", "thing"],["count", "found"],["ways"],[],Mk.q64⟩
def q1W:DefI:=⟨"least_openings",top 32,["found", "thing", "least", "mask"],["found", "thing"],["least"],[],Mk.q2M⟩
def q8x:DefI:=⟨"opens",top 33,["found", "mask", "thing"],["found", "mask", "thing"],[],[],Mk.q8h⟩
def q38:DefI:=⟨"look_both",top 34,["one", "other"],["one", "other"],[],[],Mk.q0G⟩
def q6t:DefI:=⟨"joined",top 36,["one", "other", "others", "found", "mask", "added"],["one", "other"],["found"],[],Mk.q1b⟩
def qHh:DefI:=⟨"cut",top 37,["rules", "things", "bounds", "found", "mask"],["rules", "things"],["found"],[],Mk.q7s⟩
def q6u:DefI:=⟨"behind",top 38,["rules", "state", "known", "found", "mask"],["rules", "state"],["found"],[],Mk.q1y⟩
def q39:DefI:=⟨"_law_cell",top 40,["_law_script", "_law_k"],["_law_script", "_law_k"],[],[],Mk.q1d⟩
def q4O:DefI:=⟨"_law_mix",top 41,["_law_script", "_law_k", "_law_number"],["_law_script", "_law_k"],[],[],Mk.q2Z⟩
def q2J:DefI:=⟨"_law_subset",top 42,["_law_script", "_law_k", "_law_things", "_law_number"],["_law_script", "_law_k", "_law_things"],[],[],Mk.q1z⟩
def q2e:DefI:=⟨"_law_rules",top 43,["_law_script", "_law_k", "_law_most", "_law_many", "_law_found", "_law_thing", "_law_others", "_law_j", "_law_needed"],["_law_script", "_law_k", "_law_most"],["_law_found"],[],Mk.q1n⟩
def q3A:DefI:=⟨"_law_sets",top 44,["_law_many", "_law_found", "_law_thing"],["_law_many"],[],[],Mk.q0t⟩
def q3B:DefI:=⟨"_law_next",top 45,["_law_rules_here", "_law_things", "_law_found", "_law_thing", "_law_good"],["_law_rules_here", "_law_things"],["_law_found"],[],Mk.q65⟩
def q2K:DefI:=⟨"_law_states",top 46,["_law_rules_here", "_law_found", "_law_things", "_law_thing", "_law_less"],["_law_rules_here"],["_law_found"],[],Mk.q4a⟩
def q22:DefI:=⟨"_law_refusal",top 47,["_law_kept", "_law_kinds"],["_law_kept"],[],[],Mk.q0R⟩
def q3C:DefI:=⟨"_law_told",top 48,["_law_way", "_law_one", "_law_other", "_law_kept", "_law_found", "e"],["_law_way", "_law_one", "_law_other"],[],[],Mk.q1e⟩
def q5Z:DefI:=⟨"_law_is",top 49,["_law_found", "_law_many", "_law_some", "_law_due"],["_law_found", "_law_many", "_law_some"],[],[],Mk.q4o⟩
noncomputable def qEi:DefI:=⟨"law",top 50,["_law_script", "_law_one", "_law_many", "_law_other", "_law_first", "_law_second", "_law_both", "_law_state", "_law_things", "_law_later", "_law_none", "_law_bad", "_law_found", "_law_wrong"],["_law_script"],[],[],Mk.qCU⟩
noncomputable def tx:TxtI:={ds:=[q5Y,q36,q8v,q2G,q4I,q37,q2H,q2I,q1q,q4J,q6s,q2c,q4K,q4L,q2d,q1O,q4M,qDE,q8w,q4N,q1W,q8x,q38,q6t,qHh,q6u,q39,q4O,q2J,q2e,q3A,q3B,q2K,q22,q3C,q5Z,qEi],consts:=[("MOST_THINGS",.int 10),("MOST_WAYS",.int 1300)],excs:=["LearnError", "BadRules", "BadState", "Unlike", "BadNumber", "BadText"],sub:=Mk.subC}
local macro_rules|`(tactic| k_data)=>`(tactic| exact⟨⟨rfl,rfl,rfl,by decide +kernel,rfl,by decide +kernel,by decide +kernel⟩,by kernel_rfl,λ _ _ _ _ _ _ us hl=>by first|(obtain⟨a,e⟩:=qLH hl;subst e;rfl)|(obtain⟨a,b,e⟩:=qLI hl;subst e;rfl)|(obtain⟨a,b,c,e⟩:=qLJ hl;subst e;rfl)|(obtain⟨a,b,c,d,e⟩:=len_4 hl;subst e;rfl)⟩)
theorem qDF:DefOk tx q5Y:=by k_data
theorem q8y:DefOk tx q36:=by k_data
theorem qHi:DefOk tx q8v:=by k_data
theorem q6v:DefOk tx q2G:=by k_data
theorem qAj:DefOk tx q4I:=by k_data
theorem q8z:DefOk tx q37:=by k_data
theorem q6w:DefOk tx q2H:=by k_data
theorem q6x:DefOk tx q2I:=by k_data
theorem q5a:DefOk tx q1q:=by k_data
theorem qAk:DefOk tx q4J:=by k_data
theorem qEj:DefOk tx q6s:=by k_data
theorem q88:DefOk tx q2c:=by k_data
theorem qAl:DefOk tx q4K:=by k_data
theorem qAm:DefOk tx q4L:=by k_data
theorem q89:DefOk tx q2d:=by k_data
theorem q4P:DefOk tx q1O:=by k_data
theorem qAn:DefOk tx q4M:=by k_data
theorem qKG:DefOk tx qDE:=by k_data
theorem qHj:DefOk tx q8w:=by k_data
theorem qAo:DefOk tx q4N:=by k_data
theorem q4f:DefOk tx q1W:=by k_data
theorem qHk:DefOk tx q8x:=by k_data
theorem q90:DefOk tx q38:=by k_data
theorem qEk:DefOk tx q6t:=by k_data
theorem qLi:DefOk tx qHh:=by k_data
theorem qEl:DefOk tx q6u:=by k_data
theorem q91:DefOk tx q39:=by k_data
theorem qAp:DefOk tx q4O:=by k_data
theorem q6y:DefOk tx q2J:=by k_data
theorem q8A:DefOk tx q2e:=by k_data
theorem q92:DefOk tx q3A:=by k_data
theorem q93:DefOk tx q3B:=by k_data
theorem q6z:DefOk tx q2K:=by k_data
theorem q5d:DefOk tx q22:=by k_data
theorem q94:DefOk tx q3C:=by k_data
theorem qDG:DefOk tx q5Z:=by k_data
theorem o_law:DefOk tx qEi:=by k_data
theorem qHl:∀d∈tx.ds,DefOk tx d:=by simp only[tx,Q1];exact⟨qDF,q8y,qHi,q6v,qAj,q8z,q6w,q6x,q5a,qAk,qEj,q88,qAl,qAm,q89,q4P,qAn,qKG,qHj,qAo,q4f,qHk,q90,qEk,qLi,qEl,q91,qAp,q6y,q8A,q92,q93,q6z,q5d,q94,qDG,o_law,λ _ h=>absurd h Jz⟩
theorem qLj:Mk.dsM=tx.ds.map λ d=>(d.ps.length,d.N.length,d.l):=rfl
theorem qKH:∀k:Nat,Snd.Gk tx k=Mk.Gm k
 |0=>rfl
 |k+1=>by
  funext f xs;rw[Snd.Gk,Mk.Gm,qLj,Qt,qKH k];cases tx.ds[f]? with
  |none=>rfl
  |some d=>rfl
theorem qLk (ns:List Int) (_:ns.length<=63):Snd.Gk tx 12 36 [.lst (ns.map Ev.D.int)] = .ok (.bl true):=by rw[qKH];exact Mk.qKF ns
end Tk
namespace Tk
open PySem PySem.W L2 Ev Snd
theorem q3s {α:Type}{P:Nat->Prop}{l:List α}{x:α}{c:Nat}(h:l[c]? = some x) (hl:l.length=6) (h0:c=0->P 0) (h1:c=1->P 1) (h2:c=2->P 2) (h3:c=3->P 3) (h4:c=4->P 4) (h5:c=5->P 5):P c:=by
 have hc:c<6:=by rw[<-hl];exact (Qd.mp h).1
 match c,hc with
 |0,_=>exact h0 rfl
 |1,_=>exact h1 rfl
 |2,_=>exact h2 rfl
 |3,_=>exact h3 rfl
 |4,_=>exact h4 rfl
 |5,_=>exact h5 rfl
theorem txt {K:PySem.W.Frag}{C0 C1 C2 C3 C4 C5:Addr}{t0 t1:Tok}(hf:∀d∈tx.ds,FnIn K d.name d.st) (hb:∀x∈q09,nsIn K mainGlobals x=some none)
  (k0:nsIn K mainGlobals "MOST_THINGS" = some (some (.int 10 t0)))
  (k1:nsIn K mainGlobals "MOST_WAYS" = some (some (.int 1300 t1)))
  (e0:ExcI K "LearnError" C0)
  (e1:ExcI K "BadRules" C1)
  (e2:ExcI K "BadState" C2)
  (e3:ExcI K "Unlike" C3)
  (e4:ExcI K "BadNumber" C4)
  (e5:ExcI K "BadText" C5)
  (hs:∀(e c:Nat) (Ce Cc:Addr),[C0,C1,C2,C3,C4,C5][e]? = some Ce->[C0,C1,C2,C3,C4,C5][c]? = some Cc->exmOne K (.ref Ce) (.ref Cc)=some (Mk.subC e c)/\kitOne K (.ref Ce) (.ref Cc)=some (Mk.subC e c)):TxtOk K tx ⟨K,[C0,C1,C2,C3,C4,C5]⟩:=by
 refine⟨rfl,λ j d h=>⟨qHl d (Qm h),hf d (Qm h)⟩,hb,λ x d h=>?_,λ c x h=>?_,λ c C h=>?_,hs⟩
 ·have h:List.lookup x [(("MOST_THINGS":Str),(D.int 10)),(("MOST_WAYS":Str),(D.int 1300))]=some d:=h;rw[QP] at h;split at h
  ·rename_i hx;cases h;cases beq_iff_eq.mp hx;exact⟨_,_,rfl,k0⟩
  rw[QP] at h;split at h
  ·rename_i hx;cases h;cases beq_iff_eq.mp hx;exact⟨_,_,rfl,k1⟩
  cases h
 ·refine q3s (P:=λ c=>∃C,[C0,C1,C2,C3,C4,C5][c]? = some C/\ExcI K x C) h rfl (λ z=>by subst z;cases h;exact⟨_,rfl,e0⟩) (λ z=>by subst z;cases h;exact⟨_,rfl,e1⟩) (λ z=>by subst z;cases h;exact⟨_,rfl,e2⟩) (λ z=>by subst z;cases h;exact⟨_,rfl,e3⟩) (λ z=>by subst z;cases h;exact⟨_,rfl,e4⟩) (λ z=>by subst z;cases h;exact⟨_,rfl,e5⟩)
 ·refine q3s (P:=λ c=>∃x,tx.excs[c]? = some x/\ExcI K x C) h rfl (λ z=>by subst z;cases h;exact⟨_,rfl,e0⟩) (λ z=>by subst z;cases h;exact⟨_,rfl,e1⟩) (λ z=>by subst z;cases h;exact⟨_,rfl,e2⟩) (λ z=>by subst z;cases h;exact⟨_,rfl,e3⟩) (λ z=>by subst z;cases h;exact⟨_,rfl,e4⟩) (λ z=>by subst z;cases h;exact⟨_,rfl,e5⟩)
end Tk
open PySem PySem.W PyProof.Rows L2 Ev Snd
namespace Tk
theorem qHm {p q:Program}{loose:List Str}{Xt:Shared->Bool}{α:Type}{Yf:Shared->α}{Ya:World->α}{N:Nat}{g0:Bool}{H₀:Params->Heap}{gs₀:Array GenState}{d₀:Drawn}{k₀:Nat}(op:∀w:World,(fencedOpening treeTable p w N).map (λ s=>(s.heap,s.gens,s.drawn,s.toks))=some (H₀ w.params,gs₀,d₀,k₀))
  (run:∀(w:World) (os:OsState),(topFrom treeTable p w N ⟨H₀ w.params,gs₀,d₀,k₀,os⟩).map (λ s=>(openSeen q loose (importedModules p.main.body) Xt g0 s,Yf s))=some (openGood q loose,Ya w)):LeftO p q loose Xt Yf Ya N g0:=λ w=>by
 obtain⟨⟨h,gs,d,k,os⟩,e,e'⟩:=Jm.mp (op w);obtain⟨rfl,rfl,rfl,rfl⟩:h=H₀ w.params/\gs=gs₀/\d=d₀/\k=k₀:=by simpa using e'
 unfold openEnds;rw[e];exact run w os
def qKI:List Str:=(PySem.Challenge.pw_learnyard_k40_whole_joined.main.scope.names.map (·.1)).filter (· != "law")
def qP:Program:=view PySem.Challenge.pw_learnyard_k40_whole_joined [PySem.Challenge.pw_learnyard_k40_whole_joined.main.body.length-1]
set_option maxRecDepth 100000 in
theorem qLl:PySem.Challenge.rw_learnyard_k40_whole_joined.wellSaid=true:=by rw[Fast.te9446332074065402090];kernel_rfl
end Tk
local macro_rules|`(tactic| o_head $H)=>`(tactic| refine holds_open (q:=Tk.qP) (loose:=Tk.qKI) (Xt:=λ s=>xlAt Tk.qP [] s&&recOk (RowW.records (OpenRow.toRowW (OpenLaw.row PySem.Challenge.rw_learnyard_k40_whole_joined))) s) (XP:=XL Tk.qP []) (Yf:=Hook.obs $H) (Ya:=Hook.val $H) (YP:=Hook.says $H) (N:=9000) ?hl (Hook.of $H) (Hook.keeps $H) (λ s e=>xl_of s (Bool.and_eq_true_iff.mp e).1) XL.keeps (by rfl) (by rfl) (by rfl) (λ s e=>recFacts_of (Bool.and_eq_true_iff.mp e).2) (by rfl) (by assumption) (by decide +kernel) ⟨rfl,rfl,rfl,rfl,rfl,by decide +kernel⟩ ?hw ?hc)
set_option maxRecDepth 100000 in
set_option maxHeartbeats 0 in
theorem PySem.Challenge.cw_learnyard_k40_whole_joined_holds : PySem.Challenge.rw_learnyard_k40_whole_joined.Holds := by
 w_on
 refine holds_law Tk.qLl λ said=>?_
 k_head
 case hl =>
  refine Tk.qHm (boot_open (by kernel_rfl) (by kernel_rfl) (λ s=>by kernel_rfl)) λ w os=>?_
  unfold topFrom
  rw[Fast.te14082659384304107361,Fast.te14364793385576792824,Fast.te4187177175401517315]
  kernel_rfl
 (case hw=>w_witness2)
 k_fill
 refine Snd.walk (l:=PySem.Challenge.rw_learnyard_k40_whole_joined) (x := "_law_script") 12 rfl rfl ⟨rfl,by decide,by decide⟩ (λ w h Y=>PySem.W.kIn_of Y) ?F
 case F =>
  intro w mg fa h KX G hmg
  have b_len:nsIn (L2.KOf KX) mainGlobals "len" = some none:=by dsimp only[L2.KOf];k_is
  have b_sorted:nsIn (L2.KOf KX) mainGlobals "sorted" = some none:=by dsimp only[L2.KOf];k_is
  have b_tuple:nsIn (L2.KOf KX) mainGlobals "tuple" = some none:=by dsimp only[L2.KOf];k_is
  have b_list:nsIn (L2.KOf KX) mainGlobals "list" = some none:=by dsimp only[L2.KOf];k_is
  have b_sum:nsIn (L2.KOf KX) mainGlobals "sum" = some none:=by dsimp only[L2.KOf];k_is
  have b_all:nsIn (L2.KOf KX) mainGlobals "all" = some none:=by dsimp only[L2.KOf];k_is
  have b_int:nsIn (L2.KOf KX) mainGlobals "int" = some none:=by dsimp only[L2.KOf];k_is
  have b_abs:nsIn (L2.KOf KX) mainGlobals "abs" = some none:=by dsimp only[L2.KOf];k_is
  have b_range:nsIn (L2.KOf KX) mainGlobals "range" = some none:=by dsimp only[L2.KOf];k_is
  have b_isinstance:nsIn (L2.KOf KX) mainGlobals "isinstance" = some none:=by dsimp only[L2.KOf];k_is
  have b_set:nsIn (L2.KOf KX) mainGlobals "set" = some none:=by dsimp only[L2.KOf];k_is
  have b_bool:nsIn (L2.KOf KX) mainGlobals "bool" = some none:=by dsimp only[L2.KOf];k_is
  have b_ValueError:nsIn (L2.KOf KX) mainGlobals "ValueError" = some none:=by dsimp only[L2.KOf];k_is
  have b_min:nsIn (L2.KOf KX) mainGlobals "min" = some none:=by dsimp only[L2.KOf];k_is
  have b_max:nsIn (L2.KOf KX) mainGlobals "max" = some none:=by dsimp only[L2.KOf];k_is
  have b_any:nsIn (L2.KOf KX) mainGlobals "any" = some none:=by dsimp only[L2.KOf];k_is
  have F:∀d∈Tk.tx.ds,FnIn (L2.KOf KX) d.name d.st:=by
   dsimp only[L2.KOf]
   simp only[Tk.tx,Q1,Tk.q5Y,Tk.q36,Tk.q8v,Tk.q2G,Tk.q4I,Tk.q37,Tk.q2H,Tk.q2I,Tk.q1q,Tk.q4J,Tk.q6s,Tk.q2c,Tk.q4K,Tk.q4L,Tk.q2d,Tk.q1O,Tk.q4M,Tk.qDE,Tk.q8w,Tk.q4N,Tk.q1W,Tk.q8x,Tk.q38,Tk.q6t,Tk.qHh,Tk.q6u,Tk.q39,Tk.q4O,Tk.q2J,Tk.q2e,Tk.q3A,Tk.q3B,Tk.q2K,Tk.q22,Tk.q3C,Tk.q5Z,Tk.qEi]
   refine' ⟨?_,?_,?_,?_,?_,?_,?_,?_,?_,?_,?_,?_,?_,?_,?_,?_,?_,?_,?_,?_,?_,?_,?_,?_,?_,?_,?_,?_,?_,?_,?_,?_,?_,?_,?_,?_,?_,λ _ z=>absurd z Jz⟩<;>(refine' qGn ?a ?l ?c ?k;(case a=>k_is);(case l=>k_is);(case c=>k_is);(case k=>k_is))
  have T:∃p,TxtOk (L2.KOf KX) Tk.tx p:=by
   dsimp only[L2.KOf]
   refine' ⟨_,Tk.txt (t0:=366) (t1:=368) (λ d h=>by simpa only [L2.KOf] using F d h) ?hb ?zk0 ?zk1 ⟨?za0,?zx0,⟨?zg0,?zh0,?zb0,?zo0,?zs0,?zt0,?zm0,?zc0⟩,?zv0⟩ ⟨?za1,?zx1,⟨?zg1,?zh1,?zb1,?zo1,?zs1,?zt1,?zm1,?zc1⟩,?zv1⟩ ⟨?za2,?zx2,⟨?zg2,?zh2,?zb2,?zo2,?zs2,?zt2,?zm2,?zc2⟩,?zv2⟩ ⟨?za3,?zx3,⟨?zg3,?zh3,?zb3,?zo3,?zs3,?zt3,?zm3,?zc3⟩,?zv3⟩ ⟨?za4,?zx4,⟨?zg4,?zh4,?zb4,?zo4,?zs4,?zt4,?zm4,?zc4⟩,?zv4⟩ ⟨?za5,?zx5,⟨?zg5,?zh5,?zb5,?zo5,?zs5,?zt5,?zm5,?zc5⟩,?zv5⟩ ?hs⟩
   (case za0=>k_is);(case zx0=>k_exc);(case zg0=>k_is);(case zh0=>k_is);(case zb0=>k_is);(case zo0=>k_is);(case zs0=>k_is);(case zt0=>k_is);(case zm0=>k_is);(case zc0=>k_is);(case zv0=>kit_is)
   (case za1=>k_is);(case zx1=>k_exc);(case zg1=>k_is);(case zh1=>k_is);(case zb1=>k_is);(case zo1=>k_is);(case zs1=>k_is);(case zt1=>k_is);(case zm1=>k_is);(case zc1=>k_is);(case zv1=>kit_is)
   (case za2=>k_is);(case zx2=>k_exc);(case zg2=>k_is);(case zh2=>k_is);(case zb2=>k_is);(case zo2=>k_is);(case zs2=>k_is);(case zt2=>k_is);(case zm2=>k_is);(case zc2=>k_is);(case zv2=>kit_is)
   (case za3=>k_is);(case zx3=>k_exc);(case zg3=>k_is);(case zh3=>k_is);(case zb3=>k_is);(case zo3=>k_is);(case zs3=>k_is);(case zt3=>k_is);(case zm3=>k_is);(case zc3=>k_is);(case zv3=>kit_is)
   (case za4=>k_is);(case zx4=>k_exc);(case zg4=>k_is);(case zh4=>k_is);(case zb4=>k_is);(case zo4=>k_is);(case zs4=>k_is);(case zt4=>k_is);(case zm4=>k_is);(case zc4=>k_is);(case zv4=>kit_is)
   (case za5=>k_is);(case zx5=>k_exc);(case zg5=>k_is);(case zh5=>k_is);(case zb5=>k_is);(case zo5=>k_is);(case zs5=>k_is);(case zt5=>k_is);(case zm5=>k_is);(case zc5=>k_is);(case zv5=>kit_is)
   (case hs =>
    intro e c Ce Cc h1 h2
    refine Tk.q3s (P:=λ e=>exmOne _ (.ref Ce) (.ref Cc)=some (Mk.subC e c)/\kitOne _ (.ref Ce) (.ref Cc)=some (Mk.subC e c)) h1 rfl ?_ ?_ ?_ ?_ ?_ ?_<;>
    (intro z;subst z;cases h1;refine Tk.q3s (P:=λ c=>exmOne _ _ (.ref Cc)=some (Mk.subC _ c)/\kitOne _ _ (.ref Cc)=some (Mk.subC _ c)) h2 rfl ?_ ?_ ?_ ?_ ?_ ?_<;>(intro z;subst z;cases h2;refine⟨?_,?_⟩;kts_exm;kit_is)))
   (case zk0=>kernel_rfl)
   (case zk1=>kernel_rfl)
   (case hb=>simp only[q09,Q1];exact⟨b_len,b_sorted,b_tuple,b_list,b_sum,b_all,b_int,b_abs,b_range,b_isinstance,b_set,b_bool,b_ValueError,b_min,b_max,b_any,λ _ z=>absurd z Jz⟩)
  obtain⟨p,T⟩:=T
  obtain⟨fd,hb,hF⟩:=Snd.qJi (l:=PySem.Challenge.rw_learnyard_k40_whole_joined) (w:=w) (j:=36) (d:=Tk.qEi) (x := "_law_script") Snd.sset T KX G rfl rfl hmg 12
  exact⟨fd,hb,λ base kb nb=>(hF base kb nb).imp (Snd.qCA T.pk Tk.qLk)⟩
